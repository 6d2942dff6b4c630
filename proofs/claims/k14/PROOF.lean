import PyProof.Rows.All
import Wide.All
import OpenK.AllK
import Wide.FinOn
import Lean
import PyProof.EqAt
import PyProof.EqKinds
import PyProof.TupleCall
import PyProof.CompFree
import PyProof.CompMap
import KE.LcSums
import PyProof.ZipIter
import PyProof.Draws
import KE.KRevSl
import KE.KListMore
import PyProof.Rows.StrJoin2
import PyProof.Rows.StrFin3
import PyProof.StrOps2
import PyProof.NeData
import PyProof.P3Eq
import PyProof.StrLawsRepr
import PyProof.ReprLen
import PyProof.Rows.IntBool
import PyProof.SliceStr2
import PyProof.P3In
import PyProof.Rows.StrLen
import KE.KStrOpen
import PyProof.FitsInt
import PyProof.Rows.ReprOcc
import PyProof.ListRange
import PyProof.AttrMissHeap
import PyProof.FactsAll.zip
import PyProof.FactsAll.tuple_3
import KE.KDictOf
import PyProof.SeqRoads2
import PyProof.DictCompW
import PyProof.Rows.StrInSeq3
import OpenK.KOwn
import KE.KIsAll
import KE.KTryMore
import PyProof.StationsW
import PyProof.RulesAs
import PyProof.NsDelKeeps
import PySem.Challenge.RW_gainroads_k14_known_rings_and_chains
set_option Elab.async false
set_option linter.all false
set_option maxRecDepth 100000
set_option genSizeOf false
set_option genInjectivity false
namespace L2
inductive bz {α0 α1:Type} (p:α0→α1→Prop):Prop
 | mk (a0:α0) (a1:α1) (h:p a0 a1)
inductive jq {α0 α1 α2:Type} (p:α0→α1→α2→Prop):Prop
 | mk (a0:α0) (a1:α1) (a2:α2) (h:p a0 a1 a2)
inductive ml {α0 α1 α2 α3:Type} (p:α0→α1→α2→α3→Prop):Prop
 | mk (a0:α0) (a1:α1) (a2:α2) (a3:α3) (h:p a0 a1 a2 a3)
inductive Bh {α0 α1 α2 α3 α4:Type} (p:α0→α1→α2→α3→α4→Prop):Prop
 | mk (a0:α0) (a1:α1) (a2:α2) (a3:α3) (a4:α4) (h:p a0 a1 a2 a3 a4)
inductive D9 {α0 α1 α2 α3 α4 α5:Type} (p:α0→α1→α2→α3→α4→α5→Prop):Prop
 | mk (a0:α0) (a1:α1) (a2:α2) (a3:α3) (a4:α4) (a5:α5) (h:p a0 a1 a2 a3 a4 a5)
inductive Dv {α0 α1 α2 α3 α4 α5 α6:Type} (p:α0→α1→α2→α3→α4→α5→α6→Prop):Prop
 | mk (a0:α0) (a1:α1) (a2:α2) (a3:α3) (a4:α4) (a5:α5) (a6:α6) (h:p a0 a1 a2 a3 a4 a5 a6)
inductive D7 {α0 α1 α2 α3 α4 α5 α6 α7:Type} (p:α0→α1→α2→α3→α4→α5→α6→α7→Prop):Prop
 | mk (a0:α0) (a1:α1) (a2:α2) (a3:α3) (a4:α4) (a5:α5) (a6:α6) (a7:α7) (h:p a0 a1 a2 a3 a4 a5 a6 a7)
inductive G4 {α0 α1 α2 α3 α4 α5 α6 α7 α8:Type} (p:α0→α1→α2→α3→α4→α5→α6→α7→α8→Prop):Prop
 | mk (a0:α0) (a1:α1) (a2:α2) (a3:α3) (a4:α4) (a5:α5) (a6:α6) (a7:α7) (a8:α8) (h:p a0 a1 a2 a3 a4 a5 a6 a7 a8)
end L2
set_option genSizeOf true
set_option genInjectivity true
local macro_rules | `(tactic| trivial)=>`(tactic| first | lia | omega)
namespace L2
open PySem PySem.Spec PyProof.Rows
abbrev bp:=Sum Int Str
def ka:bp→Value→Bool
 | .inl k,v=>Value.isInt k v
 | .inr x,v=>Value.isStrOf x v
def GX (w:World):bp→Int
 | .inl k=>hashInt k
 | .inr x=>hashStr w x
theorem dg:∀{k:bp}{v:Value},ka k v=true→(bz fun i t=>k=Sum.inl i∧v=Value.int i t)∨(bz fun x t=>k=Sum.inr x∧v=Value.str x t)
 | .inl i,v,h=>by
  obtain ⟨t,e⟩:=Value.isInt_shape (k:=i) (v:=v) h
  exact .inl ⟨i,t,rfl,e⟩
 | .inr x,v,h=>by
  obtain ⟨t,e⟩:=Value.isStrOf_shape (x:=x) (v:=v) h
  exact .inr ⟨x,t,rfl,e⟩
theorem zI (i:Int) (t:Tok):ka (.inl i) (.int i t)=true:=by simp [ka,Value.isInt]
theorem zt (x:Str) (t:Tok):ka (.inr x) (.str x t)=true:=by simp [ka,Value.isStrOf]
theorem Eg (a b:Int):decide ((Sum.inl a:bp)=Sum.inl b)=(a==b):=by
 by_cases e:a=b
 ·subst e;simp
 ·have h:¬(Sum.inl a:bp)=Sum.inl b:=fun q=>e (Sum.inl.inj q)
  rw [decide_eq_false h]
  exact (beq_eq_false_iff_ne.mpr e).symm
theorem EJ (a b:Str):decide ((Sum.inr a:bp)=Sum.inr b)=decide (a=b):=by
 by_cases e:a=b
 ·subst e;simp
 ·have h:¬(Sum.inr a:bp)=Sum.inr b:=fun q=>e (Sum.inr.inj q)
  rw [decide_eq_false h,decide_eq_false e]
theorem DF (a:Int) (b:Str):decide ((Sum.inl a:bp)=Sum.inr b)=false:=decide_eq_false (fun q=>nomatch q)
theorem DJ (a:Str) (b:Int):decide ((Sum.inr a:bp)=Sum.inl b)=false:=decide_eq_false (fun q=>nomatch q)
def cf (prog:Program) (w:World):PySem.KeyKind prog w bp where
 is:=ka
 hash:=GX w
 inj:=fun v a b ha hb=>by
  rcases dg ha with ⟨i,t,rfl,rfl⟩ | ⟨x,t,rfl,rfl⟩
  ·rcases dg hb with ⟨j,u,rfl,e⟩ | ⟨y,u,rfl,e⟩
   ·injection e with e1 _;rw [e1]
   ·exact nomatch e
  ·rcases dg hb with ⟨j,u,rfl,e⟩ | ⟨y,u,rfl,e⟩
   ·exact nomatch e
   ·injection e with e1 _;rw [e1]
 byValue:=fun k v h=>by
  rcases dg h with ⟨i,t,rfl,rfl⟩ | ⟨x,t,rfl,rfl⟩ <;> rfl
 pyHash:=fun hv h=>by
  rcases dg hv with ⟨i,t,rfl,rfl⟩ | ⟨x,t,rfl,rfl⟩
  ·exact wpAny_pyHash_int h
  ·exact wpAny_pyHash_str h
 eqBool:=fun hu hv h=>by
  rcases dg hu with ⟨i,t,rfl,rfl⟩ | ⟨x,t,rfl,rfl⟩
  ·rcases dg hv with ⟨j,u,rfl,rfl⟩ | ⟨y,u,rfl,rfl⟩
   ·rw [Eg] at h;exact wpAny_eqBool_int h
   ·rw [DF] at h;exact SeqAt.EqAt.int_str i t y u _ _ _ _ h
  ·rcases dg hv with ⟨j,u,rfl,rfl⟩ | ⟨y,u,rfl,rfl⟩
   ·rw [DJ] at h;exact SeqAt.EqAt.str_int x t j u _ _ _ _ h
   ·rw [EJ] at h;exact wpAny_eqBool_str h
 «strs»:=fun k x t v h=>by
  rcases dg h with ⟨i,u,rfl,e⟩ | ⟨y,u,rfl,e⟩
  ·exact nomatch e
  ·injection e with e1 _
   subst e1
   cases v <;> rfl
end L2
namespace L2
open PySem PySem.Spec PyProof.Rows
inductive V where
 | non | bl (b:Bool) | int (i:Int) | str (x:Str) | byt (b:Array UInt8) | flt (b:UInt64) | ref (a:Addr) | ty (n:String)
 deriving DecidableEq
def bc:V→Value→Prop
 | .non,u=>u=Value.none
 | .bl b,u=>u=Value.bool b
 | .int i,u=>∃t,u=Value.int i t
 | .str x,u=>∃t,u=Value.str x t
 | .byt b,u=>∃t,u=Value.bytes b t
 | .flt b,u=>∃t,u=Value.float b t
 | .ref a,u=>u=Value.ref a
 | .ty n,u=>u=Value.type n
abbrev aH:List V→List Value→Prop:=Paired bc
theorem aH.length {xs:List V}{us:List Value} (r:aH xs us):xs.length=us.length:=Paired.length r
theorem aH.get:∀{xs:List V}{us:List Value}{i:Nat}{x:V},aH xs us→xs[i]?=some x→∃u,us[i]?=some u∧bc x u
 | _,_,_,_,.nil,e=>by simp at e
 | _,_,0,_,.cons r _,e=>by simp at e;subst e;exact ⟨_,rfl,r⟩
 | _,_,i+1,x,.cons _ t,e=>by
  obtain ⟨u,h1,h2⟩:=aH.get (i:=i) (x:=x) t (by simpa using e)
  exact ⟨u,by simpa using h1,h2⟩
theorem aH.set {x:V}{u:Value} (r:bc x u):∀{xs:List V}{us:List Value} (i:Nat),aH xs us→aH (xs.set i x) (us.set i u)
 | _,_,_,.nil=>.nil
 | _,_,0,.cons _ t=>.cons r t
 | _,_,i+1,.cons q t=>.cons q (aH.set r i t)
theorem aH.append:∀{xs ys:List V}{us ws:List Value},aH xs us→aH ys ws→aH (xs++ys) (us++ws)
 | _,_,_,_,.nil,s=>s
 | _,_,_,_,.cons r t,s=>.cons r (aH.append t s)
theorem aH.take:∀{xs:List V}{us:List Value} (n:Nat),aH xs us→aH (xs.take n) (us.take n)
 | _,_,0,_=>.nil
 | _,_,_+1,.nil=>.nil
 | _,_,n+1,.cons r t=>.cons r (aH.take n t)
theorem aH.drop:∀{xs:List V}{us:List Value} (n:Nat),aH xs us→aH (xs.drop n) (us.drop n)
 | _,_,0,r=>r
 | _,_,_+1,.nil=>.nil
 | _,_,n+1,.cons _ t=>aH.drop n t
def qi:Option V→Option Value→Prop
 | some v,some u=>bc v u
 | none,none=>True
 | _,_=>False
def KV {κ:Type}:List (κ×V)→List (κ×Value)→Prop:=Paired fun (p:κ×V) (q:κ×Value)=>p.1=q.1∧bc p.2 q.2
def kV:bp→V
 | .inl i=>.int i
 | .inr x=>.str x
inductive HO where
 | lst (xs:List V)
 | tup (xs:List V)
 | dK (kvs:List (bp×V)) | dT (kvs:List (List bp×V))
 | set (S:Int→Bool) (n:Nat)
 | ins (C dx:Addr) (fs:List (Str×V))
 | own (x:Addr)
 | xd (fs:List (Str×V))
 | met (f x:Addr)
 | rng (lo hi:Int)
 | frz (o:Obj) (u:HO)
 | tbl (ps:Array Value)
 | ext (φ:Heap→Prop)
abbrev Hp:=Addr→Option HO
def aI (H:Hp) (a:Addr) (o:HO):Hp:=fun b=>if b=a then some o else H b
theorem aC {H:Hp}{a:Addr}{o:HO}:aI H a o a=some o:=by unfold aI;rw [if_pos rfl]
theorem av {H:Hp}{a b:Addr}{o:HO} (h:b≠a):aI H a o b=H b:=by unfold aI;rw [if_neg h]
theorem A9 {H:Hp}{a b:Addr}{o u:HO} (h:H a=some o) (h':H b=some u) (d:o≠u):a≠b:=by
 intro e;subst e;rw [h] at h';exact d (Option.some.inj h')
theorem bq {H:Hp}{a b:Addr}{o:HO} (h:H a=some o) (h':H b=none):a≠b:=by
 intro e;subst e;rw [h] at h';cases h'
section
variable (P:Program) (w:World)
def bo (H:Hp) (h:Heap) (a:Addr):HO→Prop
 | .lst xs=>xs.length≤sizeLine∧bz fun (its:List Value) (n:Nat)=>aH xs its∧h.get? a=some { cls:=.type "list",data:=.seq its.toArray n }
 | .tup xs=>xs.length≤sizeLine∧∃its:List Value,aH xs its∧IsTup h a its.toArray∧∃o,h.get? a=some o∧o.dict=none
 | .dK kvs=>kvs.length≤sizeLine∧(a==sysModules)=false∧∃vs,KV kvs vs∧h.DictOf (cf P w) a vs
 | .dT kvs=>kvs.length≤sizeLine∧(a==sysModules)=false∧∃xs:List (List bp×Addr×Value),
  Paired (fun (p:List bp×V) (q:List bp×Addr×Value)=>p.1=q.1∧H q.2.1=some (.tup (p.1.map kV))∧bc p.2 q.2.2) kvs xs∧
  jq fun o es ep=>h.get? a=some o∧o.ExactDict∧o.data=.dict es ep∧es.toList=xs.map (entryOfKey (tupleKind (cf P w)))∧(xs.map (·.1)).Nodup
 | .set S n=>h.SetOf (intKind P w) a S n
 | .ins C dx fs=>H dx=some (.own a)∧fs.length≤1000∧dx≠a∧h.get? a=some (PySem.W.instObj C dx)∧
  ∃mA,h.Ns1 dx mA∧(∀f,qi (fs.lookup f) (mA f))∧PySem.Within mA (fs.map (·.1))
 | .own _=>∃o,h.get? a=some o
 | .xd fs=>∃mA,h.Ns1 a mA∧∀f,qi (fs.lookup f) (mA f)
 | .rng lo hi=>jq fun t u v=>h.get? a=some { cls:=.type "range",data:=.fields #[.int lo t,.int hi u,.int 1 v] }
 | .frz o u=>h.get? a=some o∧bo H h a u
 | .tbl ps=>h.get? a=some { cls:=.none,data:=.fields ps }
 | .met f x=>h.get? a=some (PySem.W.methodObj (.ref f) (.ref x))
 | .ext φ=>φ h∧(∃o,h.get? a=some o)∧∀h1 h2:Heap,φ h1→(∀o,h1.get? a=some o→h2.get? a=some o)→φ h2
def dJ (H:Hp) (h:Heap):Prop:=∀a o,H a=some o→bo P w H h a o
end
section
variable {P:Program}{w:World}{H H':Hp}{h h':Heap}{a:Addr}{o:HO}
theorem bo.lt (x:bo P w H h a o):a<h.objs.size:=by
 cases o with
 | lst xs=>obtain ⟨_,_,_,_,e⟩:=x;exact Heap.lt_size e
 | tup xs=>obtain ⟨_,_,_,p,_⟩:=x;exact p.lt
 | dK kvs=>obtain ⟨_,_,_,_,o,_,_,e,_⟩:=x;exact Heap.lt_size e
 | dT kvs=>obtain ⟨_,_,_,_,o,_,_,e,_⟩:=x;exact Heap.lt_size e
 | set S n=>obtain ⟨o,_,_,_,e,_⟩:=x;exact Heap.lt_size e
 | ins C dx fs=>obtain ⟨_,_,_,e,_⟩:=x;exact Heap.lt_size e
 | own y=>obtain ⟨_,e⟩:=x;exact Heap.lt_size e
 | xd fs=>obtain ⟨_,⟨_,_,_,e,_⟩,_⟩:=x;exact Heap.lt_size e
 | rng lo hi=>obtain ⟨_,_,_,e⟩:=x;exact Heap.lt_size e
 | frz ob u=>obtain ⟨e,_⟩:=x;exact Heap.lt_size e
 | tbl ps=>exact Heap.lt_size (show h.get? a=some _ from x)
 | met f y=>exact Heap.lt_size (show h.get? a=some _ from x)
 | ext φ=>obtain ⟨_,⟨_,e⟩,_⟩:=x;exact Heap.lt_size e
theorem Paired.mapP {α β:Type}{F G:α→β→Prop}:∀{l₁:List α}{l₂:List β},Paired F l₁ l₂→(∀a b,F a b→G a b)→Paired G l₁ l₂
 | _,_,.nil,_=>.nil
 | _,_,.cons r t,f=>.cons (f _ _ r) (Paired.mapP t f)
theorem bo.stay (x:bo P w H h a o) (k:∀b u,(b=a∨H b=some (.own a))→h.get? b=some u→h'.get? b=some u)
 (ho:∀b,H b=some (.own a)→H' b=some (.own a)) (ht:∀b xs,H b=some (.tup xs)→H' b=some (.tup xs)):bo P w H' h' a o:=by
 induction o with
 | lst xs=>obtain ⟨z,its,n,r,e⟩:=x;exact ⟨z,its,n,r,k _ _ (.inl rfl) e⟩
 | tup xs=>obtain ⟨z,its,r,⟨ob,e,c⟩,od,e',c'⟩:=x;exact ⟨z,its,r,⟨ob,k _ _ (.inl rfl) e,c⟩,od,k _ _ (.inl rfl) e',c'⟩
 | dK kvs=>obtain ⟨z,y,vs,r,ob,es,ep,e,c⟩:=x;exact ⟨z,y,vs,r,ob,es,ep,k _ _ (.inl rfl) e,c⟩
 | dT kvs=>
  obtain ⟨z,y,xs,r,ob,es,ep,e,c⟩:=x
  exact ⟨z,y,xs,Paired.mapP r fun p q z=>⟨z.1,ht _ _ z.2.1,z.2.2⟩,ob,es,ep,k _ _ (.inl rfl) e,c⟩
 | set S n=>obtain ⟨ob,es,ep,t,e,c⟩:=x;exact ⟨ob,es,ep,t,k _ _ (.inl rfl) e,c⟩
 | ins C dx fs=>
  obtain ⟨d,z,ne,e,mA,⟨od,es,ep,e2,c⟩,r⟩:=x
  exact ⟨ho _ d,z,ne,k _ _ (.inl rfl) e,mA,⟨od,es,ep,k _ _ (.inr d) e2,c⟩,r⟩
 | own y=>obtain ⟨ob,e⟩:=x;exact ⟨ob,k _ _ (.inl rfl) e⟩
 | xd fs=>obtain ⟨mA,⟨od,es,ep,e,c⟩,r⟩:=x;exact ⟨mA,⟨od,es,ep,k _ _ (.inl rfl) e,c⟩,r⟩
 | rng lo hi=>obtain ⟨t,u,v,e⟩:=x;exact ⟨t,u,v,k _ _ (.inl rfl) e⟩
 | frz ob u ih=>obtain ⟨e,q⟩:=x;exact ⟨k _ _ (.inl rfl) e,ih q⟩
 | tbl ps=>
  have e:h.get? a=some { cls:=.none,data:=.fields ps }:=x
  show h'.get? a=some { cls:=.none,data:=.fields ps }
  exact k a _ (.inl rfl) e
 | met f y=>
  have e:h.get? a=some (PySem.W.methodObj (.ref f) (.ref y)):=x
  show h'.get? a=some (PySem.W.methodObj (.ref f) (.ref y))
  exact k a _ (.inl rfl) e
 | ext φ=>obtain ⟨p,⟨o,e⟩,st⟩:=x;exact ⟨st _ _ p fun o q=>k _ _ (.inl rfl) q,⟨o,k _ _ (.inl rfl) e⟩,st⟩
theorem dJ.lt (x:dJ P w H h) (e:H a=some o):a<h.objs.size:=(x a o e).lt
theorem dJ.fresh (x:dJ P w H h) (e:h.objs.size≤a):H a=none:=by
 cases q:H a with
 | none=>rfl
 | some u=>exact absurd (Nat.lt_of_lt_of_le (x.lt q) e) (Nat.lt_irrefl _)
theorem dJ.kept (x:dJ P w H h) (k:∀b u,h.get? b=some u→h'.get? b=some u):dJ P w H h':=fun a o e=>
 (x a o e).stay (fun b u _ q=>k b u q) (fun _ q=>q) fun _ _ q=>q
theorem dJ.laid (x:dJ P w H h) (k:∀b u,h.get? b=some u→h'.get? b=some u) (hp:h.objs.size≤a) (new:bo P w (aI H a o) h' a o):dJ P w (aI H a o) h':=fun b u e=>by
 have hn:=x.fresh hp
 by_cases hb:b=a
 ·subst hb;rw [aC] at e;cases e;exact new
 ·rw [av hb] at e
  exact (x b u e).stay (fun c v _ q=>k c v q) (fun c q=>by rw [av (bq q hn)];exact q) fun c xs q=>by rw [av (bq q hn)];exact q
end
def Rd (H:Hp) (a:Addr) (u:HO):Prop:=H a=some u∨∃o,H a=some (.frz o u)
theorem Rd.ok {P:Program}{w:World}{H:Hp}{h:Heap}{a:Addr}{u:HO} (r:Rd H a u) (x:dJ P w H h):bo P w H h a u:=by
 rcases r with r | ⟨o,r⟩
 ·exact x a u r
 ·obtain ⟨_,q⟩:=x a _ r
  exact q
def Ba:Option HO→Prop
 | some (.lst _)=>True
 | some (.dK _)=>True
 | some (.dT _)=>True
 | some (.set _ _)=>True
 | some (.ins _ _ _)=>True
 | some (.ext _)=>True
 | _=>False
section
variable {P:Program}{w:World}{H:Hp}{h h':Heap}{x e:Addr}{o':HO}
theorem dJ.write (ok:dJ P w H h) (mu:Ba (H x)) (he:e=x∨H e=some (.own x)) (k:∀b u,b≠e→h.get? b=some u→h'.get? b=some u) (heo:∃u,h'.get? e=some u)
 (new:bo P w (aI H x o') h' x o'):dJ P w (aI H x o') h':=fun b u q=>by
 have nown:∀c y,H c=some (.own y)→c≠x:=fun c y r z=>by subst z;rw [r] at mu;exact mu
 have ntup:∀c xs,H c=some (.tup xs)→c≠x:=fun c xs r z=>by subst z;rw [r] at mu;exact mu
 by_cases hb:b=x
 ·subst hb;rw [aC] at q;cases q;exact new
 ·rw [av hb] at q
  by_cases hbe:b=e
  ·have q':H b=some (.own x):=by
    rcases he with z | z
    ·exact absurd (hbe.trans z) hb
    ·rw [hbe];exact z
   rw [q] at q';cases q'
   obtain ⟨v,hv⟩:=heo
   exact ⟨v,by rw [hbe];exact hv⟩
  ·refine (ok b u q).stay (fun c v hc r=>k c v ?_ r) (fun c r=>by rw [av (nown c b r)];exact r) fun c xs r=>by rw [av (ntup c xs r)];exact r
   rcases hc with rfl | hc
   ·exact hbe
   ·rintro rfl
    rcases he with z | z
    ·exact nown c b hc z
    ·rw [hc] at z;cases z;exact hb rfl
end
structure Un (fs ex:List Addr) (H H':Hp) (h h':Heap):Prop where
 keep:∀b o,h.get? b=some o→H b=none→b∉fs→b∉ex→h'.get? b=some o
 slot:∀b o,h.get? b=some o→H b=none→b∈fs→b∉ex→∃sl,h'.get? b=some { o with slots:=sl }
 free:∀b o,h.get? b=some o→H b=none→b∉ex→H' b=none
 there:∀b o,h.get? b=some o→b∉ex→∃o',h'.get? b=some o'
 tups:∀b xs,H b=some (.tup xs)→H' b=some (.tup xs)
 frzs:∀b o u,H b=some (.frz o u)→H' b=some (.frz o u)
 tbls:∀b ps,H b=some (.tbl ps)→∃more,H' b=some (.tbl (ps++more))
section
variable {fs fs' ex ex':List Addr}{H H1 H2:Hp}{h h1 h2 h':Heap}{a x e:Addr}{o:HO}
theorem Un.any (u:Un fs ex H H1 h h1) {b:Addr}{ob:Obj} (q:h.get? b=some ob) (n:H b=none) (hx:b∉ex):∃sl,h1.get? b=some { ob with slots:=sl }:=by
 by_cases hb:b∈fs
 ·exact u.slot b ob q n hb hx
 ·exact ⟨ob.slots,u.keep b ob q n hb hx⟩
theorem Un.kept (k:∀b u,h.get? b=some u→h'.get? b=some u):Un fs ex H H h h':=
 ⟨fun b ob q _ _ _=>k b ob q,fun b ob q _ _ _=>⟨ob.slots,k b ob q⟩,fun _ _ _ n _=>n,fun b ob q _=>⟨ob,k b ob q⟩,fun _ _ q=>q,fun _ _ _ q=>q,fun _ ps q=>⟨#[],by rw [q];simp⟩⟩
theorem Un.refl:Un fs ex H H h h:=Un.kept fun _ _ q=>q
theorem Un.laid (k:∀b u,h.get? b=some u→h'.get? b=some u) (hp:h.objs.size≤a) (hn:H a=none):Un fs ex H (aI H a o) h h' where
 keep:=fun b u q _ _ _=>k b u q
 slot:=fun b u q _ _ _=>⟨u.slots,k b u q⟩
 free:=fun b u q n _=>by rw [av (Nat.ne_of_lt (Nat.lt_of_lt_of_le (Heap.lt_size q) hp))];exact n
 there:=fun b u q _=>⟨u,k b u q⟩
 tups:=fun b xs q=>by rw [av (bq q hn)];exact q
 frzs:=fun b u xs q=>by rw [av (bq q hn)];exact q
 tbls:=fun b ps q=>⟨#[],by rw [av (bq q hn),q];simp⟩
theorem Un.write (mu:Ba (H x)) (he:e=x∨H e=some (.own x)) (k:∀b u,b≠e→h.get? b=some u→h'.get? b=some u) (heo:∃u,h'.get? e=some u):Un fs ex H (aI H x o) h h':=by
 have hx:∀b,H b=none→b≠x:=fun b n z=>by subst z;rw [n] at mu;exact mu
 have hb:∀b,H b=none→b≠e:=fun b n z=>by
  subst z
  rcases he with r | r
  ·exact hx b n r
  ·rw [n] at r;cases r
 have hm:∀b u,H b=some u→¬Ba (some u)→b≠x:=fun b u q nm z=>by subst z;rw [q] at mu;exact nm mu
 refine ⟨fun b u q n _ _=>k b u (hb b n) q,fun b u q n _ _=>⟨u.slots,k b u (hb b n) q⟩,fun b u q n _=>by rw [av (hx b n)];exact n,fun b u q _=>?_,
  fun b xs q=>by rw [av (hm b _ q fun z=>z)];exact q,fun b u xs q=>by rw [av (hm b _ q fun z=>z)];exact q,fun b ps q=>⟨#[],by rw [av (hm b _ q fun z=>z),q];simp⟩⟩
 by_cases hbe:b=e
 ·subst hbe;exact heo
 ·exact ⟨u,k b u hbe q⟩
end
def A5 (h:Heap) (H:Hp):List Addr:=(List.range h.objs.size).filter fun a=>(H a).isSome
def oO (h:Heap) (H:Hp):Heap:=PySem.W.hideAll h (A5 h H)
theorem zm (h:Heap) (H:Hp):(oO h H).objs.size=h.objs.size:=PySem.W.hideAll_size _ _
theorem Ao {h:Heap}{H:Hp}{b:Addr}{o:Obj} (e:h.get? b=some o) (n:H b=none):(oO h H).get? b=some o:=
 PySem.W.hideAll_get _ e fun hm=>by
  have q:(H b).isSome=true:=(List.mem_filter.mp hm).2
  rw [n] at q;simp at q
theorem CC {h:Heap}{H:Hp}{b:Addr}{o:Obj} (e:(oO h H).get? b=some o):h.get? b=some o∧H b=none:=by
 have e':h.get? b=some o:=PySem.W.of_hideAll (A5 h H) e
 refine ⟨e',?_⟩
 cases q:H b with
 | none=>rfl
 | some x=>
  have hm:b∈A5 h H:=List.mem_filter.mpr ⟨List.mem_range.mpr (Heap.lt_size e'),by simp [q]⟩
  have z:(oO h H).get? b=none:=PySem.W.hideAll_none (A5 h H) hm
  rw [z] at e;cases e
end L2
namespace L2
open PySem PySem.Spec PyProof.Rows
structure Mod (K:PySem.W.Frag) (mg:Str→Option Value) (base:Heap):Prop where
 kin:K.In base
 glob:base.Ns mainGlobals mg
 blt:∃mb,base.Ns builtinsNs mb∧∀x:Str,x≠"__name__"→mb x=bootBuiltins x
 nolimit:base.NoLimit
structure Cx where
 prog:Program
 w:World
 K:PySem.W.Frag
 mg:Str→Option Value
 base:Heap
 A:Around
 N:List Str
 s₀:Shared
 H₀:Hp
 env:Env
 outer:List Env
 stack:List Env
 ex:List Addr
 fn:Str→Bool
 calm:Bool
 pn:List (Addr×Obj)
 xe:Value→Shared→Prop
def gS (l:List Env):List Addr:=l.filterMap (·.frame)
abbrev Cx.fs (X:Cx):List Addr:=gS X.outer
def zk (sc:Scope) (x:Str):Prop:=sc.names.lookup x=some .local∨sc.names.lookup x=some .cell∨sc.names.lookup x=some .free
def Bj (sc:Scope) (x:Str):Prop:=sc.names.lookup x=some .local∨sc.names.lookup x=some .cell
def Et (env:Env) (h:Heap) (m:Str→Option Value) (x:Str) (u:Value):Prop:=
 (env.kindOf x=some .local∧m x=some u)∨((env.kindOf x=some .cell∨env.kindOf x=some .free)∧∃c,env.cells.lookup x=some c∧h.IsCell c (some u))
structure Cx.Ok (X:Cx):Prop where
 mod:Mod X.K X.mg X.base
 kind:X.env.scope.kind=.function
 glob:X.env.globals=mainGlobals
 blt:X.env.builtins=builtinsNs
 above:X.s₀.heap.objs.size≤X.env.locals
 inj:∀x y c,X.env.cells.lookup x=some c→X.env.cells.lookup y=some c→x=y
 has:∀x,(X.env.kindOf x=some .cell∨X.env.kindOf x=some .free)→∃c,X.env.cells.lookup x=some c
 cab:∀x c,X.fn x=true→X.env.cells.lookup x=some c→X.s₀.heap.objs.size≤c
 hd:X.calm=true→X.A.handled=none
 frames:X.A.frames=some X.stack
 stk:X.stack=X.outer∨(X.stack=X.env :: X.outer∧X.env.frame=some X.env.locals)
 exf:∀b∈X.ex,b≠X.env.locals∧∀x c,X.env.cells.lookup x=some c→c≠b
 bs:∀b o,X.base.get? b=some o→X.s₀.heap.get? b=some o∧X.H₀ b=none
 bsz:X.base.objs.size≤X.s₀.heap.objs.size
 noex:∀b o,X.base.get? b=some o→b∉X.ex
 exfs:∀b∈X.ex,b∉X.fs
 funs:X.s₀.heap.FunFrames X.base X.outer
 frf:∀b∈X.fs,X.H₀ b=none
structure af (X:Cx) (pins:List (Addr×Obj)) (σ:List (Option V)) (H:Hp) (s:Shared):Prop where
 ok:X.Ok
 os:s.os=X.s₀.os
 bare:AllBare s.gens
 base:Un X.fs X.ex X.H₀ H X.s₀.heap s.heap
 loc:∃m,s.heap.Ns X.env.locals m∧∀(i:Nat) (x:Str) (v:V),X.N[i]?=some x→σ[i]?=some (some v)→zk X.env.scope x→∃u,bc v u∧Et X.env s.heap m x u
 cell:∀x c,X.env.cells.lookup x=some c→∃v,s.heap.IsCell c v
 free:H X.env.locals=none
 freeC:∀x c,X.env.cells.lookup x=some c→H c=none
 pin:∀p∈X.pn++pins,s.heap.get? p.1=some p.2∧H p.1=none∧p.1≠X.env.locals∧p.1∉X.fs∧∀v,p.2.data≠.cell v
 hok:dJ X.prog X.w H s.heap
 len:σ.length=X.N.length
section
variable {X:Cx}{pins:List (Addr×Obj)}{σ:List (Option V)}{H H':Hp}{s:Shared}{h':Heap}
theorem Cx.Ok.nofr (ok:X.Ok) {b:Addr}{o:Obj} (e:X.base.get? b=some o):b∉X.fs:=fun hb=>by
 have:=(ok.funs.mem hb).1
 rw [e] at this;cases this
theorem af.bs (I:af X pins σ H s):∀b o,X.base.get? b=some o→s.heap.get? b=some o∧H b=none:=fun b o e=>
 ⟨I.base.keep b o (I.ok.bs b o e).1 (I.ok.bs b o e).2 (I.ok.nofr e) (I.ok.noex b o e),I.base.free b o (I.ok.bs b o e).1 (I.ok.bs b o e).2 (I.ok.noex b o e)⟩
theorem af.bk (I:af X pins σ H s):∀b o,X.base.get? b=some o→s.heap.get? b=some o:=fun b o e=>(I.bs b o e).1
theorem af.mod (I:af X pins σ H s):Mod X.K X.mg X.base:=I.ok.mod
theorem af.kIn (I:af X pins σ H s):X.K.In s.heap:=I.ok.mod.kin.keeps I.bk
theorem af.lt (I:af X pins σ H s):X.env.locals<s.heap.objs.size:=let ⟨_,hn,_⟩:=I.loc;hn.lt
theorem af.sz (I:af X pins σ H s):X.s₀.heap.objs.size≤s.heap.objs.size:=Nat.le_trans I.ok.above (Nat.le_of_lt I.lt)
theorem af.nofs (I:af X pins σ H s) {a:Addr} (h:s.heap.objs.size≤a):a∉X.fs:=fun hb=>by
 obtain ⟨_,o,ho,_⟩:=I.ok.funs.mem hb
 exact absurd (Nat.lt_of_lt_of_le (Heap.lt_size ho) (Nat.le_trans I.sz h)) (Nat.lt_irrefl _)
theorem af.cne (I:af X pins σ H s):∀x c,X.env.cells.lookup x=some c→c≠X.env.locals:=fun x c e z=>by
 obtain ⟨v,o,ho,hd⟩:=I.cell x c e
 obtain ⟨m,⟨o',es,ep,ho',hd',_⟩,_⟩:=I.loc
 rw [z,ho'] at ho;cases ho;rw [hd'] at hd;cases hd
theorem af.funs (I:af X pins σ H s):s.heap.FunFrames X.base X.outer:=by
 have all:∀(l:List Env),(∀b∈gS l,b∈X.fs)→X.s₀.heap.FunFrames X.base l→s.heap.FunFrames X.base l:=by
  intro l
  induction l with
  | nil=>intro _ _;trivial
  | cons env r ih=>
   intro hs hl
   obtain ⟨hk,⟨L,o,hf,hn,ho,hd⟩,hr⟩:=hl
   have hL:L∈X.fs:=hs L (by unfold gS;rw [List.filterMap_cons,hf];exact List.mem_cons_self)
   obtain ⟨sl,e⟩:=I.base.slot L o ho (I.ok.frf L hL) hL fun z=>I.ok.exfs L z hL
   exact ⟨hk,⟨L,_,hf,hn,e,hd⟩,ih (fun b hb=>hs b (by unfold gS;rw [List.filterMap_cons,hf];exact List.mem_cons_of_mem _ hb)) hr⟩
 exact all X.outer (fun _ hb=>hb) I.ok.funs
theorem af.stack (I:af X pins σ H s):s.heap.FunFrames X.base X.stack:=by
 rcases I.ok.stk with e | ⟨e,hf⟩
 ·rw [e];exact I.funs
 ·rw [e]
  obtain ⟨m,hn,_⟩:=I.loc
  refine .cons (by rw [I.ok.kind];decide) hf hn ?_ I.funs
  exact Heap.get?_none_of_le (Nat.le_trans I.ok.bsz I.ok.above)
theorem af.stkSub (I:af X pins σ H s):∀b∈gS X.stack,b∈X.env.locals :: X.fs:=fun b hb=>by
 rcases I.ok.stk with e | ⟨e,hf⟩
 ·rw [e] at hb;exact List.mem_cons_of_mem _ hb
 ·rw [e] at hb
  unfold gS at hb
  rw [List.filterMap_cons,hf] at hb
  exact hb
theorem af.stkFree (I:af X pins σ H s):∀b∈gS X.stack,H b=none:=fun b hb=>by
 rcases List.mem_cons.mp (I.stkSub b hb) with e | hb
 ·rw [e];exact I.free
 ·obtain ⟨_,o,ho,_⟩:=I.ok.funs.mem hb
  exact I.base.free b o ho (I.ok.frf b hb) fun z=>I.ok.exfs b z hb
theorem af.step {g':Array GenState}{t':Nat}{d':Drawn}{ch:List Addr} (I:af X pins σ H s)
 (hch:∀b∈ch,(b∈X.ex∨X.s₀.heap.objs.size≤b)∧b≠X.env.locals∧(∀x c,X.env.cells.lookup x=some c→c≠b)∧∀p∈X.pn++pins,p.1≠b)
 (keep:∀b o,b≠X.env.locals→b∉X.fs→b∉ch→s.heap.get? b=some o→H b=none→h'.get? b=some o)
 (slot:∀b o,b≠X.env.locals→b∈X.fs→b∉ch→s.heap.get? b=some o→H b=none→∃sl,h'.get? b=some { o with slots:=sl }) (free:∀b o,b∉ch→s.heap.get? b=some o→H b=none→H' b=none)
 (there:∀b o,b∉ch→s.heap.get? b=some o→∃o',h'.get? b=some o')
 (tups:∀b xs,H b=some (.tup xs)→H' b=some (.tup xs)) (frzs:∀b o u,H b=some (.frz o u)→H' b=some (.frz o u)) (tbls:∀b ps,H b=some (.tbl ps)→∃more,H' b=some (.tbl (ps++more)))
 (ns:∀m,s.heap.Ns X.env.locals m→h'.Ns X.env.locals m) (hok:dJ X.prog X.w H' h') (hg:AllBare g') :
 af X pins σ H' { s with heap:=h',gens:=g',drawn:=d',toks:=t' }:=by
 have neL:∀b o,X.s₀.heap.get? b=some o→b≠X.env.locals:=fun b o e=>Nat.ne_of_lt (Nat.lt_of_lt_of_le (Heap.lt_size e) I.ok.above)
 have neC:∀b o,X.s₀.heap.get? b=some o→b∉X.ex→b∉ch:=fun b o e hx hb=>by
  rcases (hch b hb).1 with z | z
  ·exact hx z
  ·exact absurd (Nat.lt_of_lt_of_le (Heap.lt_size e) z) (Nat.lt_irrefl _)
 have cellK:∀x c,X.env.cells.lookup x=some c→∀v,s.heap.IsCell c v→h'.IsCell c v:=fun x c e v ⟨o,ho,hd⟩=>by
  have nch:c∉ch:=fun z=>(hch c z).2.2.1 x c e rfl
  by_cases hc:c∈X.fs
  ·obtain ⟨sl,q⟩:=slot c o (I.cne x c e) hc nch ho (I.freeC x c e)
   exact ⟨_,q,hd⟩
  ·exact ⟨o,keep c o (I.cne x c e) hc nch ho (I.freeC x c e),hd⟩
 refine ⟨I.ok,I.os,hg,⟨fun b o e n hb hx=>?_,fun b o e n hb hx=>?_,fun b o e n hx=>?_,fun b o e hx=>?_,fun b xs e=>tups b xs (I.base.tups b xs e),fun b o xs e=>frzs b o xs (I.base.frzs b o xs e),fun b ps e=>?_⟩,?_,fun x c e=>?_,?_,fun x c e=>?_,fun p hp=>?_,hok,I.len⟩
 ·exact keep b o (neL b o e) hb (neC b o e hx) (I.base.keep b o e n hb hx) (I.base.free b o e n hx)
 ·obtain ⟨sl,e1⟩:=I.base.slot b o e n hb hx
  obtain ⟨sl',e2⟩:=slot b _ (neL b o e) hb (neC b o e hx) e1 (I.base.free b o e n hx)
  exact ⟨sl',e2⟩
 ·obtain ⟨o',e1⟩:=I.base.there b o e hx
  exact free b o' (neC b o e hx) e1 (I.base.free b o e n hx)
 ·obtain ⟨o',e1⟩:=I.base.there b o e hx
  exact there b o' (neC b o e hx) e1
 ·obtain ⟨m1,e1⟩:=I.base.tbls b ps e
  obtain ⟨m2,e2⟩:=tbls b _ e1
  exact ⟨m1++m2,by rw [e2,Array.append_assoc]⟩
 ·obtain ⟨m,hn,hl⟩:=I.loc
  refine ⟨m,ns m hn,fun i x v e1 e2 e3=>?_⟩
  obtain ⟨u,r,l⟩:=hl i x v e1 e2 e3
  refine ⟨u,r,?_⟩
  rcases l with l | ⟨k,c,e,z⟩
  ·exact .inl l
  ·exact .inr ⟨k,c,e,cellK x c e _ z⟩
 ·obtain ⟨v,z⟩:=I.cell x c e
  exact ⟨v,cellK x c e v z⟩
 ·obtain ⟨m,⟨o,_,_,ho,_⟩,_⟩:=I.loc
  exact free _ o (fun z=>(hch _ z).2.1 rfl) ho I.free
 ·obtain ⟨v,o,ho,hd⟩:=I.cell x c e
  exact free c o (fun z=>(hch c z).2.2.1 x c e rfl) ho (I.freeC x c e)
 ·obtain ⟨e,n,ne,nf,d⟩:=I.pin p hp
  have nch:p.1∉ch:=fun z=>(hch p.1 z).2.2.2 p hp rfl
  exact ⟨keep p.1 p.2 ne nf nch e n,free p.1 p.2 nch e n,ne,nf,d⟩
theorem af.un {t':Nat} (I:af X pins σ H s) (u:Un X.fs [] H H' s.heap h') (hok:dJ X.prog X.w H' h'):af X pins σ H' { s with heap:=h',toks:=t' }:=by
 obtain ⟨m,⟨o,es,ep,ho,r⟩,_⟩:=id I.loc
 obtain ⟨sl,hL⟩:=u.any ho I.free (by simp)
 exact I.step (g':=s.gens) (d':=s.drawn) (ch:=[]) (fun _ z=>nomatch z) (fun b o _ hb _ e n=>u.keep b o e n hb (by simp)) (fun b o _ hb _ e n=>u.slot b o e n hb (by simp)) (fun b o _ e n=>u.free b o e n (by simp)) (fun b o _ e=>u.there b o e (by simp)) u.tups u.frzs u.tbls (fun m' hm=>by
  obtain ⟨o',es',ep',ho',r'⟩:=hm
  rw [ho] at ho';cases ho'
  exact ⟨_,es',ep',hL,r'⟩) hok I.bare
theorem af.call {g':Array GenState}{t':Nat}{d':Drawn}{ch:List Addr} (I:af X pins σ H s) (u:Un (gS X.stack) ch H H' s.heap h') (hok:dJ X.prog X.w H' h') (hg:AllBare g')
 (hch:∀b∈ch,(b∈X.ex∨X.s₀.heap.objs.size≤b)∧b≠X.env.locals∧(∀x c,X.env.cells.lookup x=some c→c≠b)∧∀p∈X.pn++pins,p.1≠b) :
 af X pins σ H' { s with heap:=h',gens:=g',drawn:=d',toks:=t' }:=by
 obtain ⟨m,⟨o,es,ep,ho,r⟩,_⟩:=id I.loc
 obtain ⟨sl,hL⟩:=u.any ho I.free fun z=>(hch _ z).2.1 rfl
 exact I.step (ch:=ch) hch (fun b o hL hb hc e n=>u.keep b o e n (fun z=>(List.mem_cons.mp (I.stkSub b z)).elim hL hb) hc) (fun b o _ _ hc e n=>u.any e n hc) (fun b o hc e n=>u.free b o e n hc) (fun b o hc e=>u.there b o e hc) u.tups u.frzs u.tbls (fun m' hm=>by
  obtain ⟨o',es',ep',ho',r'⟩:=hm
  rw [ho] at ho';cases ho'
  exact ⟨_,es',ep',hL,r'⟩) hok hg
theorem af.turned {t':Nat}{it:Addr} (I:af X pins σ H s) (k:∀b o,b≠it→s.heap.get? b=some o→h'.get? b=some o) (hn:H it=none) (hL:it≠X.env.locals)
 (h1:it∈X.ex∨X.s₀.heap.objs.size≤it) (h2:∀x c,X.env.cells.lookup x=some c→c≠it) (h3:∀p∈X.pn++pins,p.1≠it):af X pins σ H { s with heap:=h',toks:=t' }:=by
 have nit:∀b u,H b=some u→b≠it:=fun b u e z=>by rw [z,hn] at e;cases e
 refine I.step (g':=s.gens) (d':=s.drawn) (ch:=[it]) (fun b hb=>?_) (fun b o _ _ hc e _=>k b o (fun z=>hc (by simp [z])) e) (fun b o _ _ hc e _=>⟨o.slots,k b o (fun z=>hc (by simp [z])) e⟩) (fun _ _ _ _ n=>n)
  (fun b o hc e=>⟨o,k b o (fun z=>hc (by simp [z])) e⟩) (fun _ _ e=>e) (fun _ _ _ e=>e) (fun b ps e=>⟨#[],by rw [e];simp⟩) (fun m hm=>?_) (fun b u e=>?_) I.bare
 ·have e:b=it:=by simpa using hb
  subst e
  exact ⟨h1,hL,h2,h3⟩
 ·obtain ⟨o,es,ep,ho,r⟩:=hm
  exact ⟨o,es,ep,k _ o (Ne.symm hL) ho,r⟩
 ·refine (I.hok b u e).stay (fun c v hc q=>k c v ?_ q) (fun _ q=>q) fun _ _ q=>q
  rcases hc with z | z
  ·rw [z];exact nit b u e
  ·exact nit c _ z
theorem af.tok (I:af X pins σ H s) (t:Nat):af X pins σ H { s with toks:=t }:=I.un (h':=s.heap) (t':=t) Un.refl I.hok
theorem af.kept {t':Nat} (I:af X pins σ H s) (k:∀b u,s.heap.get? b=some u→h'.get? b=some u):af X pins σ H { s with heap:=h',toks:=t' }:=I.un (Un.kept k) (I.hok.kept k)
theorem af.laid {a:Addr}{o:HO}{t':Nat} (I:af X pins σ H s) (k:∀b u,s.heap.get? b=some u→h'.get? b=some u) (hp:s.heap.objs.size≤a) (new:bo X.prog X.w (aI H a o) h' a o) :
 af X pins σ (aI H a o) { s with heap:=h',toks:=t' }:=I.un (Un.laid k hp (I.hok.fresh hp)) (I.hok.laid k hp new)
theorem af.write {x e:Addr}{o:HO}{t':Nat} (I:af X pins σ H s) (mu:Ba (H x)) (he:e=x∨H e=some (.own x)) (k:∀b u,b≠e→s.heap.get? b=some u→h'.get? b=some u) (heo:∃u,h'.get? e=some u)
 (new:bo X.prog X.w (aI H x o) h' x o):af X pins σ (aI H x o) { s with heap:=h',toks:=t' }:=I.un (Un.write mu he k heo) (I.hok.write mu he k heo new)
theorem af.weak {σ':List (Option V)} (I:af X pins σ H s) (hl:σ'.length=σ.length) (w:∀(i:Nat) v,σ'[i]?=some (some v)→σ[i]?=some (some v)):af X pins σ' H s:=
 ⟨I.ok,I.os,I.bare,I.base,let ⟨m,hn,hl'⟩:=I.loc;⟨m,hn,fun i x v e1 e2 e3=>hl' i x v e1 (w i v e2) e3⟩,I.cell,I.free,I.freeC,I.pin,I.hok,hl.trans I.len⟩
theorem af.pins_of {pins':List (Addr×Obj)} (I:af X pins σ H s) (h:∀p∈pins',s.heap.get? p.1=some p.2∧H p.1=none∧p.1≠X.env.locals∧p.1∉X.fs∧∀v,p.2.data≠.cell v):af X pins' σ H s:=
 ⟨I.ok,I.os,I.bare,I.base,I.loc,I.cell,I.free,I.freeC,fun p hp=>(List.mem_append.mp hp).elim (fun z=>I.pin p (List.mem_append_left _ z)) (h p),I.hok,I.len⟩
theorem rm {N:List Str} (hN:N.Nodup) {i j:Nat}{x:Str} (a:N[i]?=some x) (b:N[j]?=some x):i=j:=by
 obtain ⟨h1,e1⟩:=List.getElem?_eq_some_iff.mp a
 obtain ⟨h2,e2⟩:=List.getElem?_eq_some_iff.mp b
 exact (List.getElem_inj hN).mp (e1.trans e2.symm)
theorem pZ {M:Model}{A:Around}{E:Value→Shared→Prop}{i:Nat}{x:Str}{v:V}{u:Value}{Q:Unit→Shared→Prop} (I:af X pins σ H s) (hN:X.N.Nodup) (hi:X.N[i]?=some x) (hx:Bj X.env.scope x) (r:bc v u)
 (h:∀s',af X pins (σ.set i (some v)) H s'→(∃a,Heap.SameBut a s.heap s'.heap∧(a=X.env.locals∨X.env.cells.lookup x=some a))→Q () s') (hf:X.fn x=true∨X.env.scope.names.lookup x=some .local:=by first | exact .inl rfl | exact .inr rfl | assumption):wpAny M A (storeName X.env x u) Q E s:=by
 obtain ⟨m,hn,hl⟩:=id I.loc
 have hcls:(X.env.scope.kind==.class || (X.env.scope.kind==.module && X.env.locals != X.env.globals))=false:=by rw [I.ok.kind];rfl
 have hiσ:i<σ.length:=by rw [I.len];exact (List.getElem?_eq_some_iff.mp hi).1
 have cne:=I.cne
 have tracked:∀{a:Addr}{h':Heap},(∃o,s.heap.get? a=some o∧H a=none)→Heap.SameBut a s.heap h'→dJ X.prog X.w H h':=fun {a h'} ha hs b ob e=>by
  obtain ⟨_,_,hfree⟩:=ha
  refine (I.hok b ob e).stay (fun c w' hc q=>(hs.2 c ?_).trans q) (fun _ q=>q) fun _ _ q=>q
  rintro rfl
  rcases hc with rfl | hc
  ·rw [hfree] at e;cases e
  ·rw [hfree] at hc;cases hc
 rcases hx with hk | hk
 ·refine wpAny_storeName_local hk hn (fun h' hn' hs=>?_) hcls
  obtain ⟨oL,_,_,hoL,_⟩:=id hn
  refine h _ ⟨I.ok,I.os,I.bare,⟨fun b o e n hb hx=>?_,fun b o e n hb hx=>?_,I.base.free,fun b o e hx=>?_,I.base.tups,I.base.frzs,I.base.tbls⟩,⟨_,hn',fun j y v' e1 e2 e3=>?_⟩,fun y c e=>?_,I.free,I.freeC,fun p hp=>?_,tracked ⟨oL,hoL,I.free⟩ hs,by simpa using I.len⟩ ⟨_,hs,.inl rfl⟩
  ·exact (hs.2 b (Nat.ne_of_lt (Nat.lt_of_lt_of_le (Heap.lt_size e) I.ok.above))).trans (I.base.keep b o e n hb hx)
  ·obtain ⟨sl,e1⟩:=I.base.slot b o e n hb hx
   exact ⟨sl,(hs.2 b (Nat.ne_of_lt (Nat.lt_of_lt_of_le (Heap.lt_size e) I.ok.above))).trans e1⟩
  ·obtain ⟨o',e1⟩:=I.base.there b o e hx
   exact ⟨o',(hs.2 b (Nat.ne_of_lt (Nat.lt_of_lt_of_le (Heap.lt_size e) I.ok.above))).trans e1⟩
  ·by_cases hj:j=i
   ·subst hj
    rw [hi] at e1;cases e1
    rw [List.getElem?_set_self hiσ] at e2
    cases e2
    exact ⟨u,r,.inl ⟨hk,by simp⟩⟩
   ·rw [List.getElem?_set_ne (Ne.symm hj)] at e2
    obtain ⟨u',r',q⟩:=hl j y v' e1 e2 e3
    refine ⟨u',r',?_⟩
    rcases q with ⟨k,e⟩ | ⟨k,c,e,z⟩
    ·refine .inl ⟨k,?_⟩
     have:y≠x:=fun e=>hj (rm hN e1 (e▸hi))
     simp [this,e]
    ·exact .inr ⟨k,c,e,z.sameBut hs (cne y c e)⟩
  ·obtain ⟨w',z⟩:=I.cell y c e
   exact ⟨w',z.sameBut hs (cne y c e)⟩
  ·obtain ⟨e,n,ne,nf,d⟩:=I.pin p hp
   exact ⟨(hs.2 p.1 ne).trans e,n,ne,nf,d⟩
 ·have hfn:X.fn x=true:=by
   rcases hf with z | z
   ·exact z
   ·rw [z] at hk;cases hk
  obtain ⟨c,hc⟩:=I.ok.has x (.inl hk)
  obtain ⟨w',z⟩:=I.cell x c hc
  refine wpAny_storeName_cell I.ok.kind hk hc z (fun h' hc' hs=>?_)
  obtain ⟨oc,hoc,hocd⟩:=id z
  refine h { s with heap:=h' } ⟨I.ok,I.os,I.bare,⟨fun b o e n hb hx=>?_,fun b o e n hb hx=>?_,I.base.free,fun b o e hx=>?_,I.base.tups,I.base.frzs,I.base.tbls⟩,⟨m,hn.sameBut hs (Ne.symm (cne x c hc)),fun j y v' e1 e2 e3=>?_⟩,fun y c' e=>?_,I.free,I.freeC,fun p hp=>?_,tracked ⟨oc,hoc,I.freeC x c hc⟩ hs,by simpa using I.len⟩ ⟨c,hs,.inr hc⟩
  ·exact (hs.2 b (Nat.ne_of_lt (Nat.lt_of_lt_of_le (Heap.lt_size e) (I.ok.cab x c hfn hc)))).trans (I.base.keep b o e n hb hx)
  ·obtain ⟨sl,e1⟩:=I.base.slot b o e n hb hx
   exact ⟨sl,(hs.2 b (Nat.ne_of_lt (Nat.lt_of_lt_of_le (Heap.lt_size e) (I.ok.cab x c hfn hc)))).trans e1⟩
  ·obtain ⟨o',e1⟩:=I.base.there b o e hx
   exact ⟨o',(hs.2 b (Nat.ne_of_lt (Nat.lt_of_lt_of_le (Heap.lt_size e) (I.ok.cab x c hfn hc)))).trans e1⟩
  ·by_cases hj:j=i
   ·subst hj
    rw [hi] at e1;cases e1
    rw [List.getElem?_set_self hiσ] at e2
    cases e2
    exact ⟨u,r,.inr ⟨.inl hk,c,hc,hc'⟩⟩
   ·rw [List.getElem?_set_ne (Ne.symm hj)] at e2
    obtain ⟨u',r',q⟩:=hl j y v' e1 e2 e3
    refine ⟨u',r',?_⟩
    rcases q with q | ⟨k,c',e,z'⟩
    ·exact .inl q
    ·refine .inr ⟨k,c',e,z'.sameBut hs ?_⟩
     rintro rfl
     exact hj (rm hN e1 (I.ok.inj _ _ _ e hc▸hi))
  ·by_cases hcc:c'=c
   ·subst hcc;exact ⟨_,hc'⟩
   ·obtain ⟨w2,z2⟩:=I.cell y c' e
    exact ⟨w2,z2.sameBut hs hcc⟩
  ·obtain ⟨e,n,ne,nf,d⟩:=I.pin p hp
   refine ⟨(hs.2 p.1 ?_).trans e,n,ne,nf,d⟩
   intro q
   rw [q,hoc] at e
   have q':oc=p.2:=Option.some.inj e
   exact d w' (by rw [←q'];exact hocd)
theorem jX {M:Model}{A:Around}{E:Value→Shared→Prop}{i:Nat}{x:Str}{v:V}{u:Value}{Q:Unit→Shared→Prop} (I:af X pins σ H s) (hN:X.N.Nodup) (hi:X.N[i]?=some x) (hx:Bj X.env.scope x) (r:bc v u)
 (h:∀s',af X pins (σ.set i (some v)) H s'→Q () s') (hf:X.fn x=true∨X.env.scope.names.lookup x=some .local:=by first | exact .inl rfl | exact .inr rfl | assumption):wpAny M A (storeName X.env x u) Q E s:=
 pZ I hN hi hx r (fun s' I' _=>h s' I') hf
theorem af.call' {s':Shared}{ch:List Addr} (I:af X pins σ H s) (ho:s'.os=s.os) (u:Un (gS X.stack) ch H H' s.heap s'.heap) (hok:dJ X.prog X.w H' s'.heap) (hg:AllBare s'.gens)
 (hch:∀b∈ch,(b∈X.ex∨X.s₀.heap.objs.size≤b)∧b≠X.env.locals∧(∀x c,X.env.cells.lookup x=some c→c≠b)∧∀p∈X.pn++pins,p.1≠b):af X pins σ H' s':=by
 obtain ⟨h',g',d',t',o'⟩:=s'
 have e:o'=s.os:=ho
 subst e
 exact I.call (g':=g') (t':=t') (d':=d') u hok hg hch
end
abbrev XK:=Value→Option Addr→Hp→Prop
abbrev St:=List (Option V)
abbrev VK:=V→Hp→Prop
abbrev TE:=St→Hp→VK→Prop
abbrev TT:=St→Hp→(Bool→Hp→Prop)→Prop
abbrev TA:=St→Hp→(List V→Hp→Prop)→Prop
structure cF where
 nx:St→Hp→Prop
 rt:VK
 bk:St→Hp→Prop:=fun _ _=>False
 ct:St→Hp→Prop:=fun _ _=>False
abbrev TS:=cF→St→Hp→Prop
inductive EP (X:Cx) (pins:List (Addr×Obj)) (σ:St) (Q:VK) (u:Value) (s':Shared):Prop
 | mk (v:_) (H':_) (h0:af X pins σ H' s') (h1:bc v u) (h2:Q v H')
def TP (X:Cx) (pins:List (Addr×Obj)) (σ:St) (Q:Bool→Hp→Prop) (b:Bool) (s':Shared):Prop:=∃H',af X pins σ H' s'∧Q b H'
inductive AP (X:Cx) (pins:List (Addr×Obj)) (σ:St) (Q:List V→Hp→Prop) (us:List Value) (s':Shared):Prop
 | mk (vs:_) (H':_) (h0:af X pins σ H' s') (h1:aH vs us) (h2:Q vs H')
def SP (X:Cx) (pins:List (Addr×Obj)) (D:cF) (f:Flow) (s':Shared):Prop:=
 match f with
 | .next=>∃σ' H',af X pins σ' H' s'∧D.nx σ' H'
 | .brk=>∃σ' H',af X pins σ' H' s'∧D.bk σ' H'
 | .cont=>∃σ' H',af X pins σ' H' s'∧D.ct σ' H'
 | .ret u=>∃v σ' H',af X pins σ' H' s'∧bc v u∧D.rt v H'
def PE (X:Cx) (e:Expr) (t:TE):Prop:=
 ∀(pins:List (Addr×Obj)) (s:Shared) (σ:St) (H:Hp) (Q:VK),af X pins σ H s→t σ H Q→wpAny (model X.prog X.w) X.A (eval e X.env) (EP X pins σ Q) X.xe s
def PT (X:Cx) (e:Expr) (t:TT):Prop:=
 ∀(pins:List (Addr×Obj)) (s:Shared) (σ:St) (H:Hp) (Q:Bool→Hp→Prop),af X pins σ H s→t σ H Q→wpAny (model X.prog X.w) X.A (isTrue e X.env (eval e X.env)) (TP X pins σ Q) X.xe s
def PW (X:Cx) (e:Expr) (t:TT):Prop:=
 ∀(whole:Sem Value) (pins:List (Addr×Obj)) (s:Shared) (σ:St) (H:Hp) (Q:Bool→Hp→Prop),af X pins σ H s→t σ H Q→wpAny (model X.prog X.w) X.A (isTrue e X.env whole) (TP X pins σ Q) X.xe s
theorem PW.pt {X:Cx}{e:Expr}{t:TT} (h:PW X e t):PT X e t:=h _
def PA (X:Cx) (es:List Expr) (t:TA):Prop:=
 ∀(pos:Pos) (pins:List (Addr×Obj)) (s:Shared) (σ:St) (H:Hp) (Q:List V→Hp→Prop),af X pins σ H s→t σ H Q→wpAny (model X.prog X.w) X.A (spliced (backTo pos (starEach es X.env))) (AP X pins σ Q) X.xe s
def PS (X:Cx) (st:Stmt) (t:TS):Prop:=
 ∀(pins:List (Addr×Obj)) (s:Shared) (σ:St) (H:Hp) (D:cF),af X pins σ H s→t D σ H→wpAny (model X.prog X.w) X.A (exec st X.env) (SP X pins D) X.xe s
def kX (X:Cx) (st:List Stmt) (t:TS):Prop:=
 ∀(pins:List (Addr×Obj)) (s:Shared) (σ:St) (H:Hp) (D:cF),af X pins σ H s→t D σ H→wpAny (model X.prog X.w) X.A (execs st X.env) (SP X pins D) X.xe s
theorem aR {α:Type}{t:Sem α}{Q Q':α→Shared→Prop}{M:Model}{A:Around}{E:Value→Shared→Prop}{s:Shared} (h:wpAny M A t Q E s) (hQ:∀a s,Q a s→Q' a s):wpAny M A t Q' E s:=wpAny_mono h hQ fun _ _ x=>x
end L2
namespace L2
open PySem PySem.Spec PyProof.Rows
section
variable {X:Cx}
inductive F8 (i:Nat) (σ:St) (H:Hp) (Q:VK):Prop
 | mk (v:_) (h0:σ[i]?=some (some v)) (h1:Q v H)
def AC (i:Nat):TE:=fun σ H Q=>F8 i σ H Q
def tC (v:V):TE:=fun _ H Q=>Q v H
theorem zF {i:Nat}{x:Str}{pos:Pos} (hN:X.N[i]?=some x) (hv:zk X.env.scope x) (hd:(x==("__debug__" : Str))=false:=by decide) (hcd:(x==("__classdict__" : Str))=false:=by decide):PE X (.Name x pos) (AC i):=by
 intro pins s σ H Q I h
 obtain ⟨v,e,h⟩:=h
 obtain ⟨m,hn,hl⟩:=I.loc
 obtain ⟨u,r,l⟩:=hl i x v hN e hv
 have fin:EP X pins σ Q u s:=⟨v,H,I,r,h⟩
 rcases l with ⟨hk,hm⟩ | ⟨hk,c,hc,hcell⟩
 ·exact wpAny_Name (wpAny_loadName_local I.ok.kind hk hn hm fin) hd
 ·rcases hk with hk | hk
  ·exact wpAny_Name (wpAny_loadName_cell I.ok.kind hk hc hcell fin) hd
  ·exact wpAny_Name (wpAny_loadName_free I.ok.kind hk hc hcell fin hcd) hd
theorem ad {i j pos}:PE X (.Constant (.int i) j pos) (tC (.int i)):=fun _ _ _ H _ I h=>wpAny_Constant_int ⟨.int i,H,I.tok _,⟨_,rfl⟩,h⟩
theorem ig {b j pos}:PE X (.Constant (.bool b) j pos) (tC (.bl b)):=fun _ _ _ H _ I h=>Constant_bool ⟨.bl b,H,I,rfl,h⟩
theorem fK {j pos}:PE X (.Constant .none j pos) (tC .non):=fun _ _ _ H _ I h=>Constant_none ⟨.non,H,I,rfl,h⟩
theorem mf {x j pos}:PE X (.Constant (.str x) j pos) (tC (.str x)):=fun _ _ _ H _ I h=>Calls.Constant_str ⟨.str x,H,I.tok _,⟨_,rfl⟩,h⟩
def Gl (X:Cx) (x:Str):Prop:=X.env.kindOf x=some .globalImplicit
theorem nF {E:Value→Shared→Prop}{pins:List (Addr×Obj)}{s:Shared}{σ:St}{H:Hp}{x:Str}{u:Value}{pos:Pos}{Q:Value→Shared→Prop} (I:af X pins σ H s) (hg:Gl X x) (hm:X.mg x=some u) (h:Q u s)
 (hd:(x==("__debug__" : Str))=false:=by decide):wpAny (model X.prog X.w) X.A (eval (.Name x pos) X.env) Q E s:=
 Calls.Name_function_global I.ok.kind hg (Calls.loadGlobal_global (by rw [I.ok.glob];exact I.mod.glob.keeps I.bk) hm h) hd
theorem gZ {E:Value→Shared→Prop}{pins:List (Addr×Obj)}{s:Shared}{σ:St}{H:Hp}{x:Str}{u:Value}{pos:Pos}{Q:Value→Shared→Prop} (I:af X pins σ H s) (hg:Gl X x) (hm:X.mg x=none) (hv:bootBuiltins x=some u) (h:Q u s)
 (hn:x≠"__name__" := by decide) (hd:(x==("__debug__" : Str))=false:=by decide):wpAny (model X.prog X.w) X.A (eval (.Name x pos) X.env) Q E s:=by
 obtain ⟨mb,h1,h2⟩:=I.mod.blt
 exact Calls.Name_function_global I.ok.kind hg (Calls.loadGlobal_builtin (by rw [I.ok.glob];exact I.mod.glob.keeps I.bk) hm (by rw [I.ok.blt];exact h1.keeps I.bk) ((h2 x hn).trans hv) h) hd
theorem BU {x:Str}{v:V}{u:Value}{pos:Pos} (hg:Gl X x) (hm:X.mg x=none) (hv:bootBuiltins x=some u) (r:bc v u) (hn:x≠"__name__" := by decide) (hd:(x==("__debug__" : Str))=false:=by decide):PE X (.Name x pos) (tC v):=
 fun _ _ _ H _ I h=>gZ I hg hm hv ⟨v,H,I,r,h⟩ hn hd
variable {a b:Expr}{ta tb:TE}{pos:Pos}
inductive wE (x:V) (P:Bool→Prop):Prop
 | mk (c:Bool) (e:x=.bl c) (h:P c)
inductive EM (x:V) (P:Int→Prop):Prop
 | mk (c:Int) (e:x=.int c) (h:P c)
def tB (t:TE):TT:=fun σ H Q=>t σ H fun x H1=>wE x fun c=>Q c H1
theorem fh {e:Expr}{t:TE} (h:PE X e t) (he:∀whole,isTrue e X.env whole=(do let v ←whole;standAt e.pos;holding [v] (truthy v)):=by intro _;rfl):PT X e (tB t):=by
 intro pins s σ H Q I hw
 refine isTrue_plain (aR (h pins s σ H _ I hw) fun v s1 ⟨x,H1,I1,r1,q1⟩=>?_) (he _)
 obtain ⟨d,rfl,q⟩:=q1
 cases r1
 exact wpAny_truthy_bool ⟨H1,I1,q⟩
variable {tA tB':TT}{rest:List Expr}
def Hk (t u:TT):TT:=fun σ H Q=>t σ H fun c H1=>if c=true then Q true H1 else u σ H1 Q
def GY (t:TT):TT:=fun σ H Q=>t σ H fun c H1=>Q (!c) H1
theorem km (ha:PT X a tA):PW X (.BoolOp .Or [a] pos) tA:=by
 intro wh pins s σ H Q I h
 refine isTrue_or (aR (ha pins s σ H Q I h) fun c s1 e=>?_)
 cases c with
 | false=>exact isTrue_or_nil e
 | true=>exact e
theorem mP (ha:PT X a tA) (hb:PW X (.BoolOp .Or (b :: rest) pos) tB'):PW X (.BoolOp .Or (a :: b :: rest) pos) (Hk tA tB'):=by
 intro wh pins s σ H Q I h
 refine isTrue_or (aR (ha pins s σ H _ I h) fun c s1 ⟨H1,I1,q1⟩=>?_)
 cases c with
 | true=>exact ⟨H1,I1,q1⟩
 | false=>exact hb wh pins s1 σ H1 Q I1 q1
theorem iI (ha:PT X a tA):PT X (.UnaryOp .Not a pos) (GY tA):=by
 intro pins s σ H Q I h
 exact isTrue_not (ha pins s σ H (fun c H1=>Q (!c) H1) I h)
def FG (ta tb:TE):TE:=fun σ H Q=>ta σ H fun x H1=>wE x fun c=>if c=true then tb σ H1 Q else Q (.bl false) H1
def Gu (ta tb:TE):TE:=fun σ H Q=>ta σ H fun x H1=>wE x fun c=>if c=true then Q (.bl true) H1 else tb σ H1 Q
def EX (ta:TE):TE:=fun σ H Q=>ta σ H fun x H1=>wE x fun c=>Q (.bl (!c)) H1
theorem kI {op}{t:TE} (h:PE X a t):PE X (.BoolOp op [a] pos) t:=fun pins s σ H Q I hw=>BoolOp_one (h pins s σ H Q I hw)
theorem kq (ha:PE X a ta) (hb:PE X (.BoolOp .And (b :: rest) pos) tb):PE X (.BoolOp .And (a :: b :: rest) pos) (FG ta tb):=by
 intro pins s σ H Q I h
 refine BoolOp_and (aR (ha pins s σ H _ I h) fun v s1 ⟨x,H1,I1,r1,q1⟩=>?_)
 obtain ⟨c,rfl,q1⟩:=q1
 cases r1
 refine wpAny_truthy_bool ?_
 cases c with
 | true=>exact hb pins s1 σ H1 Q I1 q1
 | false=>exact ⟨.bl false,H1,I1,rfl,q1⟩
theorem FK (ha:PE X a ta) (hb:PE X (.BoolOp .Or (b :: rest) pos) tb):PE X (.BoolOp .Or (a :: b :: rest) pos) (Gu ta tb):=by
 intro pins s σ H Q I h
 refine BoolOp_or (aR (ha pins s σ H _ I h) fun v s1 ⟨x,H1,I1,r1,q1⟩=>?_)
 obtain ⟨c,rfl,q1⟩:=q1
 cases r1
 refine wpAny_truthy_bool ?_
 cases c with
 | false=>exact hb pins s1 σ H1 Q I1 q1
 | true=>exact ⟨.bl true,H1,I1,rfl,q1⟩
theorem vA (ha:PE X a ta):PE X (.UnaryOp .Not a pos) (EX ta):=by
 intro pins s σ H Q I h
 refine UnaryOp_ (aR (ha pins s σ H _ I h) fun v s1 ⟨x,H1,I1,r1,q1⟩=>?_)
 obtain ⟨c,rfl,q1⟩:=q1
 cases r1
 exact not_of (wpAny_truthy_bool ⟨.bl (!c),H1,I1,rfl,q1⟩)
def Hi (t:TT) (ta tb:TE):TE:=fun σ H Q=>t σ H fun c H1=>if c=true then ta σ H1 Q else tb σ H1 Q
theorem j8 {c:Expr} (hc:PT X c tA) (ha:PE X a ta) (hb:PE X b tb):PE X (.IfExp c a b pos) (Hi tA ta tb):=by
 intro pins s σ H Q I h
 refine wpAny_IfExp (aR (hc pins s σ H _ I h) fun d s1 ⟨H1,I1,q1⟩=>?_)
 cases d with
 | true=>exact ha pins s1 σ H1 Q I1 q1
 | false=>exact hb pins s1 σ H1 Q I1 q1
end
end L2
namespace L2
open PySem PySem.Spec PyProof.Rows
def aG (K:PySem.W.Frag) (H:Hp) (a:Addr) (xs:List V):Prop:=
 Rd H a (.lst xs)∨
  jq fun (o:Obj) (its:Array Value) (n:Nat)=>K.lookup a=some o∧o.cls=.type "list"∧o.dict=none∧o.data=.seq its n∧its.size≤sizeLine∧aH xs its.toList
def au (K:PySem.W.Frag) (H:Hp) (a:Addr) (xs:List V):Prop:=
 Rd H a (.tup xs)∨
  jq fun (o:Obj) (its:Array Value) (n:Nat)=>K.lookup a=some o∧o.cls=.type "tuple"∧o.data=.seq its n∧its.size≤sizeLine∧aH xs its.toList
def Gn:Value→Option V
 | .none=>some .non
 | .bool b=>some (.bl b)
 | .int i _=>some (.int i)
 | .str x _=>some (.str x)
 | .bytes b _=>some (.byt b)
 | .float b _=>some (.flt b)
 | .ref a=>some (.ref a)
 | .type n=>some (.ty n)
 | _=>none
theorem bc.abs {x:V}{u:Value} (r:bc x u):Gn u=some x:=by
 cases x with
 | non=>cases r;rfl
 | bl _=>cases r;rfl
 | int _=>obtain ⟨t,rfl⟩:=r;rfl
 | str _=>obtain ⟨t,rfl⟩:=r;rfl
 | byt _=>obtain ⟨t,rfl⟩:=r;rfl
 | flt _=>obtain ⟨t,rfl⟩:=r;rfl
 | ref _=>cases r;rfl
 | ty _=>cases r;rfl
theorem bc.inj {x y:V}{u:Value} (r:bc x u) (q:bc y u):x=y:=Option.some.inj (r.abs.symm.trans q.abs)
theorem aH.inj:∀{xs ys:List V}{us:List Value},aH xs us→aH ys us→xs=ys
 | _,_,_,.nil,.nil=>rfl
 | _,_,_,.cons r t,.cons r' t'=>by rw [r.inj r',aH.inj t t']
section
variable {X:Cx}{pins:List (Addr×Obj)}{σ:St}{H:Hp}{s:Shared}{a:Addr}{xs ys:List V}
theorem aG.of {K:PySem.W.Frag} (h:H a=some (.lst xs)):aG K H a xs:=.inl (.inl h)
theorem au.of {K:PySem.W.Frag} (h:H a=some (.tup xs)):au K H a xs:=.inl (.inl h)
theorem af.list (I:af X pins σ H s) (h:aG X.K H a xs):∃its:List Value,aH xs its∧PlainL s.heap a its.toArray∧xs.length≤sizeLine:=by
 rcases h with h | ⟨o,its,n,hk,hc,hd,hs,hz,r⟩
 ·obtain ⟨z,its,n,r,e⟩:=h.ok I.hok
  exact ⟨its,r,⟨_,n,e,rfl,rfl,rfl⟩,z⟩
 ·refine ⟨its.toList,r,⟨o,n,I.kIn a o hk,hc,hd,by simpa using hs⟩,?_⟩
  have e:=r.length
  simp only [Array.length_toList] at e
  trivial
theorem af.tuple (I:af X pins σ H s) (h:au X.K H a xs):∃its:List Value,aH xs its∧IsTup s.heap a its.toArray∧xs.length≤sizeLine:=by
 rcases h with h | ⟨o,its,n,hk,hc,hs,hz,r⟩
 ·obtain ⟨z,its,r,p,_⟩:=h.ok I.hok
  exact ⟨its,r,p,z⟩
 ·refine ⟨its.toList,r,⟨o,I.kIn a o hk,hc,n,by simpa using hs⟩,?_⟩
  have e:=r.length
  simp only [Array.length_toList] at e
  trivial
theorem af.list_inj (I:af X pins σ H s) (h:aG X.K H a xs) (h':aG X.K H a ys):xs=ys:=by
 obtain ⟨its,r,⟨o,n,e,_,_,d⟩,_⟩:=I.list h
 obtain ⟨its',r',⟨o',n',e',_,_,d'⟩,_⟩:=I.list h'
 rw [e] at e';cases e'
 rw [d] at d'
 injection d' with d1 _
 have:its=its':=by simpa using congrArg Array.toList d1
 subst this
 exact r.inj r'
theorem af.tuple_inj (I:af X pins σ H s) (h:au X.K H a xs) (h':au X.K H a ys):xs=ys:=by
 obtain ⟨its,r,⟨o,e,_,n,d⟩,_⟩:=I.tuple h
 obtain ⟨its',r',⟨o',e',_,n',d'⟩,_⟩:=I.tuple h'
 rw [e] at e';cases e'
 rw [d] at d'
 injection d' with d1 _
 have:its=its':=by simpa using congrArg Array.toList d1
 subst this
 exact r.inj r'
end
abbrev Cx.wish (X:Cx) (E:Value→Shared→Prop):Cx:={ X with xe:=E }
abbrev Cx.nox (X:Cx):Cx:=X.wish fun _ _=>False
theorem Cx.Ok.wish {X:Cx} (ok:X.Ok) (E:Value→Shared→Prop):(X.wish E).Ok:=
 ⟨ok.mod,ok.kind,ok.glob,ok.blt,ok.above,ok.inj,ok.has,ok.cab,ok.hd,ok.frames,ok.stk,ok.exf,ok.bs,ok.bsz,ok.noex,ok.exfs,ok.funs,ok.frf⟩
theorem Cx.Ok.unwish {X:Cx}{E:Value→Shared→Prop} (ok:(X.wish E).Ok):X.Ok:=
 ⟨ok.mod,ok.kind,ok.glob,ok.blt,ok.above,ok.inj,ok.has,ok.cab,ok.hd,ok.frames,ok.stk,ok.exf,ok.bs,ok.bsz,ok.noex,ok.exfs,ok.funs,ok.frf⟩
section
variable {X:Cx}{pins:List (Addr×Obj)}{σ:St}{H:Hp}{s:Shared}{E:Value→Shared→Prop}
theorem af.wish (I:af X pins σ H s) (E:Value→Shared→Prop):af (X.wish E) pins σ H s:=⟨I.ok.wish E,I.os,I.bare,I.base,I.loc,I.cell,I.free,I.freeC,I.pin,I.hok,I.len⟩
theorem af.unwish (I:af (X.wish E) pins σ H s):af X pins σ H s:=⟨I.ok.unwish,I.os,I.bare,I.base,I.loc,I.cell,I.free,I.freeC,I.pin,I.hok,I.len⟩
theorem SP.unwish {D:cF}{f:Flow}{s':Shared} (h:SP (X.wish E) pins D f s'):SP X pins D f s':=by
 cases f with
 | next=>obtain ⟨σ',H',I,q⟩:=h;exact ⟨σ',H',I.unwish,q⟩
 | brk=>obtain ⟨σ',H',I,q⟩:=h;exact ⟨σ',H',I.unwish,q⟩
 | cont=>obtain ⟨σ',H',I,q⟩:=h;exact ⟨σ',H',I.unwish,q⟩
 | ret u=>obtain ⟨v,σ',H',I,r,q⟩:=h;exact ⟨v,σ',H',I.unwish,r,q⟩
theorem kX.nox {st:List Stmt}{t:TS} (h:kX X.nox st t):kX X st t:=fun pins s σ H D I hw=>
 wpAny_mono (h pins s σ H D (I.wish _) hw) (fun _ _ q=>q.unwish) fun _ _ z=>False.elim z
end
section
variable {X:Cx}{st:Stmt}{rest:List Stmt}{t u:TS}{e:Expr}{te:TE}{pos:Pos}
def A0:TS:=fun D σ H=>D.nx σ H
def o6 (t u:TS):TS:=fun D σ H=>t { D with nx:=u D } σ H
theorem bM:kX X [] A0:=fun _ _ σ H _ I h=>wpAny_execs_nil ⟨σ,H,I,h⟩
theorem ae (h1:PS X st t) (h2:kX X rest u):kX X (st :: rest) (o6 t u):=by
 intro pins s σ H D I h
 refine wpAny_execs_cons (aR (h1 pins s σ H { D with nx:=u D } I h) fun f s1 q=>?_)
 cases f with
 | next=>
  obtain ⟨σ',H',I',q⟩:=q
  exact h2 pins s1 σ' H' D I' q
 | ret v=>exact q
 | brk=>exact q
 | cont=>exact q
theorem am (h1:PS X st t):kX X [st] t:=by
 intro pins s σ H D I h
 refine wpAny_execs_cons (aR (h1 pins s σ H D I h) fun f s1 q=>?_)
 cases f with
 | next=>exact wpAny_execs_nil q
 | ret v=>exact q
 | brk=>exact q
 | cont=>exact q
def Fd:TS:=fun D σ H=>D.ct σ H
theorem Ck:PS X (.Pass pos) A0:=fun _ _ σ H _ I h=>wpAny_Pass ⟨σ,H,I,h⟩
theorem wR:PS X (.Continue pos) Fd:=fun _ _ σ H _ I h=>wpAny_Continue ⟨σ,H,I,h⟩
theorem af.quiet {pins:List (Addr×Obj)}{σ:St}{H:Hp}{s:Shared} (I:af X pins σ H s):interactive X.env=false:=by simp [interactive,I.ok.kind]
def FJ (te:TE):TS:=fun D σ H=>te σ H fun _ H1=>D.nx σ H1
theorem fN (he:PE X e te) (hs:swapsWith e none pos.line X.env=pure false:=by rfl):PS X (.Expr e pos) (FJ te):=by
 intro pins s σ H D I h
 exact wpAny_Expr_any (aR (he pins s σ H _ I h) fun v s1 ⟨x,H1,I1,r1,q1⟩=>⟨σ,H1,I1,q1⟩) I.quiet hs
def Gw (te:TE):TS:=fun D σ H=>te σ H D.rt
theorem aM (he:PE X e te):PS X (.Return (some e) pos) (Gw te):=by
 intro pins s σ H D I h
 exact wpAny_Return_some (aR (he pins s σ H _ I h) fun v s1 ⟨x,H1,I1,r1,q1⟩=>⟨x,σ,H1,I1,r1,q1⟩)
def DI (c:TT) (t u:TS):TS:=fun D σ H=>c σ H fun b H1=>if b=true then t D σ H1 else u D σ H1
theorem cK {c:Expr}{a b:List Stmt}{tc:TT} (hc:PT X c tc) (ha:kX X a t) (hb:kX X b u):PS X (.If c a b pos) (DI tc t u):=by
 intro pins s σ H D I h
 refine wpAny_If (aR (hc pins s σ H _ I h) fun d s1 ⟨H1,I1,q1⟩=>?_)
 cases d with
 | true=>exact ha pins s1 σ H1 D I1 q1
 | false=>exact hb pins s1 σ H1 D I1 q1
end
abbrev TG:=V→St→Hp→(St→Hp→Prop)→Prop
abbrev qV:=List V→St→Hp→(St→Hp→Prop)→Prop
def PG (X:Cx) (target:Expr) (t:TG):Prop:=
 ∀(pins:List (Addr×Obj)) (s:Shared) (σ:St) (H:Hp) (v:V) (u:Value) (Q:St→Hp→Prop),af X pins σ H s→bc v u→t v σ H Q→
   wpAny (model X.prog X.w) X.A (assign target X.env u) (fun _ s'=>∃σ' H',af X pins σ' H' s'∧Q σ' H') X.xe s
def yY (X:Cx) (ts:List Expr) (t:qV):Prop:=
 ∀(pins:List (Addr×Obj)) (s:Shared) (σ:St) (H:Hp) (vs:List V) (us:List Value) (Q:St→Hp→Prop),af X pins σ H s→aH vs us→t vs σ H Q→
   wpAny (model X.prog X.w) X.A (assignInOrder ((assignEach ts X.env).map (·.2)) us) (fun _ s'=>∃σ' H',af X pins σ' H' s'∧Q σ' H') X.xe s
abbrev AH:=V→V→V→Hp→(Hp→Prop)→Prop
def xE (X:Cx) (t:AH):Prop:=
 ∀(pins:List (Addr×Obj)) (s:Shared) (σ:St) (H:Hp) (o i v:V) (ov iv u:Value) (Q:Hp→Prop),af X pins σ H s→bc o ov→bc i iv→bc v u→t o i v H Q→
   wpAny (model X.prog X.w) X.A (setItem ov iv u) (fun _ s'=>∃H',af X pins σ H' s'∧Q H') X.xe s
section
variable {X:Cx}{pos:Pos}
def qD (i:Nat):TG:=fun v σ H Q=>Q (σ.set i (some v)) H
theorem aw {i:Nat}{x:Str} (hN:X.N.Nodup) (hi:X.N[i]?=some x) (hx:Bj X.env.scope x) (hf:X.fn x=true∨X.env.scope.names.lookup x=some .local:=by first | exact .inl rfl | exact .inr rfl | assumption):PG X (.Name x pos) (qD i):=by
 intro pins s σ H v u Q I r h
 exact wpAny_assign_Name (jX I hN hi hx r (fun s' I'=>⟨_,H,I',h⟩) hf)
def Gv:qV:=fun vs σ H Q=>vs=[]∧Q σ H
inductive DL (t:TG) (u:qV) (vs:List V) (σ:St) (H:Hp) (Q:St→Hp→Prop):Prop
 | mk (v:_) (r:_) (h0:vs=v :: r) (h1:t v σ H fun σ' H'=>u r σ' H' Q)
def E1 (t:TG) (u:qV):qV:=fun vs σ H Q=>DL t u vs σ H Q
theorem dv:yY X [] Gv:=by
 intro pins s σ H vs us Q I r h
 obtain ⟨e,h⟩:=h
 subst e
 cases r
 exact assignInOrder_nil ⟨σ,H,I,h⟩
theorem aP {e:Expr}{es:List Expr}{t:TG}{u:qV} (h1:PG X e t) (h2:yY X es u)
 (hs:(assignEach (e :: es) X.env).map (·.2)=assign e X.env :: (assignEach es X.env).map (·.2):=by rfl):yY X (e :: es) (E1 t u):=by
 intro pins s σ H vs us Q I r h
 obtain ⟨v,vr,e1,h⟩:=h
 subst e1
 cases r with
 | cons r rr=>
  rw [hs]
  refine assignInOrder_cons (aR (h1 pins s σ H _ _ _ I r h) fun _ s1 ⟨σ1,H1,I1,q1⟩=>?_)
  exact h2 pins s1 σ1 H1 _ _ Q I1 rr q1
inductive FZ (K:PySem.W.Frag) (n:Nat) (t:qV) (v:V) (σ:St) (H:Hp) (Q:St→Hp→Prop):Prop
 | mk (a:_) (xs:_) (h0:v=.ref a) (h1:au K H a xs) (h2:xs.length=n) (h3:t xs σ H Q)
def CO (K:PySem.W.Frag) (n:Nat) (t:qV):TG:=fun v σ H Q=>FZ K n t v σ H Q
theorem zN {es:List Expr}{k:Nat}{t:qV}{n:Nat} (hc:X.calm=true) (h:yY X es t)
 (hn:(assignEach es X.env).length=n:=by rfl) (hst:(assignEach es X.env).findIdx? (·.1)=none:=by rfl):PG X (.Tuple es k pos) (CO X.K n t):=by
 intro pins s σ H v u Q I r hw
 obtain ⟨a,xs,e1,hq,hl,hw⟩:=hw
 subst e1
 cases r
 obtain ⟨its,rv,ht,hz⟩:=I.tuple hq
 refine assign_Tuple_tuple (I.ok.hd hc) ht (by simp [hn,←hl,rv.length]) hst fun h' hx=>?_
 have I1:af X pins σ H { s with heap:=h' }:=I.kept (t':=s.toks) fun b o e=>hx b o (Nat.ne_of_lt (Heap.lt_size e)) e
 exact h pins _ σ H xs _ Q I1 (by simpa using rv) hw
def GN (to ti:TE) (t:AH):TG:=fun v σ H Q=>to σ H fun o H1=>ti σ H1 fun i H2=>t o i v H2 fun H3=>Q σ H3
theorem oo {o i:Expr}{to ti:TE}{t:AH} (ho:PE X o to) (hi:PE X i ti) (hs:xE X t)
 (ha:∀v,assign (.Subscript o i pos) X.env v=(do
  let ov ←holding [v] (eval o X.env)
  let iv ←holding [v,ov] (eval i X.env)
  standAt pos
  holding [v,ov,iv] (setItem ov iv v)
  release [v,ov,iv] []):=by intro _;rfl):PG X (.Subscript o i pos) (GN to ti t):=by
 intro pins s σ H v u Q I r h
 rw [ha]
 refine wpAny_bind (wpAny_holding (aR (ho pins s σ H _ I h) fun ov s1 ⟨x,H1,I1,r1,q1⟩=>?_))
 refine wpAny_bind (wpAny_holding (aR (hi pins s1 σ H1 _ I1 q1) fun iv s2 ⟨y,H2,I2,r2,q2⟩=>?_))
 refine wpAny_bind (wpAny_standAt (wpAny_bind (wpAny_holding (aR (hs pins s2 σ H2 x y v ov iv u _ I2 r1 r2 r q2) fun _ s3 ⟨H3,I3,q3⟩=>?_))))
 exact wpAny_release ⟨σ,H3,I3,q3⟩
def tP (te:TE) (g:TG):TS:=fun D σ H=>te σ H fun x H1=>g x σ H1 D.nx
theorem eh {tg e:Expr}{te:TE}{g:TG} (he:PE X e te) (hg:PG X tg g) (hs:swapsWithSole [tg] e pos.line X.env=pure false:=by rfl) (hw:swappedStores [tg] e X.env=pure none:=by rfl)
 (h1:(assignEach [tg] X.env).map (·.2)=[assign tg X.env]:=by rfl):PS X (.Assign [tg] e pos) (tP te g):=by
 intro pins s σ H D I h
 refine wpAny_Assign_stores (aR (he pins s σ H _ I h) fun v s1 ⟨x,H1,I1,r1,q1⟩=>?_) hs hw
 rw [h1]
 exact aR (hg pins s1 σ H1 x v _ I1 r1 q1) fun _ s2 q=>q
theorem aL {i:Nat}{x:Str}{e:Expr}{te:TE}{pos':Pos} (hN:X.N.Nodup) (hi:X.N[i]?=some x) (hx:Bj X.env.scope x) (he:PE X e te) (hs:swapsWith e (some (.Name x pos')) pos.line X.env=pure false:=by rfl) (hf:X.fn x=true∨X.env.scope.names.lookup x=some .local:=by first | exact .inl rfl | exact .inr rfl | assumption) :
 PS X (.Assign [.Name x pos'] e pos) (tP te (qD i)):=by
 intro pins s σ H D I h
 refine wpAny_Assign_Name (aR (he pins s σ H _ I h) fun v s1 ⟨y,H1,I1,r1,q1⟩=>?_) hs
 exact jX I1 hN hi hx r1 (fun s2 I2=>⟨_,H1,I2,q1⟩) hf
def EA (i j:Nat) (ta:TA):TS:=fun D σ H=>ta σ H fun vs H1=>bz fun v w=>vs=[v,w]∧D.nx ((σ.set i (some v)).set j (some w)) H1
theorem jr {i j:Nat}{x y:Str}{a b:Expr}{ta:TA}{px py pt:Pos}{kt k2 pt2} (hc:X.calm=true) (hN:X.N.Nodup) (hi:X.N[i]?=some x) (hj:X.N[j]?=some y) (hij:i≠j)
 (hx:X.env.scope.names.lookup x=some .local) (hy:X.env.scope.names.lookup y=some .local) (ha:PA X [a,b] ta)
 (hw:swappedStores [.Tuple [.Name x px,.Name y py] kt pt] (.Tuple [a,b] k2 pt2) X.env=pure (some [x,y]))
 (hs:swapsWithSole [.Tuple [.Name x px,.Name y py] kt pt] (.Tuple [a,b] k2 pt2) pos.line X.env=pure false:=by rfl) :
 PS X (.Assign [.Tuple [.Name x px,.Name y py] kt pt] (.Tuple [a,b] k2 pt2) pos) (EA i j ta):=by
 intro pins s σ H D I h
 rw [exec_Assign_arm]
 refine wpAny_bind (wpAny_standAt ?_)
 rw [hs]
 refine wpAny_bind (wpAny_pure ?_)
 rw [if_neg (by decide)]
 refine wpAny_bind (Tuple_ (aR (ha _ pins s σ H _ I h) fun us s1 ⟨vs,H1,I1,r1,q1⟩=>?_))
 obtain ⟨v,w,e1,q1⟩:=q1
 subst e1
 obtain ⟨u1,u2,rfl,rv,rw'⟩:bz fun u1 u2=>us=[u1,u2]∧bc v u1∧bc w u2:=by
  cases r1 with
  | cons p q=>
   cases q with
   | cons p' q'=>
    cases q'
    exact ⟨_,_,rfl,p,p'⟩
 refine wpAny_newObj_type ?_ (by show 2≤sizeLine;decide)
 have I2:af X pins σ H1 { s1 with heap:=s1.heap.push { cls:=.type "tuple",data:=.seq [u1,u2].toArray } }:=I1.kept (t':=s1.toks) fun b o e=>Heap.get?_push_of_some _ e
 rw [hw]
 refine wpAny_bind (wpAny_pure ?_)
 show wpAny (model X.prog X.w) X.A (do rule "assign.swapped-stores";let items ←unpackItems (.ref s1.heap.objs.size) 2 none;assignInOrder [fun v=>bindName X.env y v,fun v=>bindName X.env x v] items.reverse;pure Flow.next) _ _ _
 refine wpAny_bind (wpAny_rule (wpAny_bind (unpackItems_tuple (items:=#[u1,u2]) (I.ok.hd hc) (IsTup.new s1.heap _) fun h' hx'=>?_)))
 have I3:=I2.kept (h':=h') (t':=s1.toks) fun b o e=>hx' b o (Nat.ne_of_lt (Heap.lt_size e)) e
 show wpAny _ _ (assignInOrder [fun v=>bindName X.env y v,fun v=>bindName X.env x v] [u2,u1] >>= fun _=>pure Flow.next) _ _ _
 refine wpAny_bind (assignInOrder_cons (wpAny_bindName (jX I3 hN hj (.inl hy) rw' (fun s2 I4=>?_) (.inr hy))))
 refine assignInOrder_cons (wpAny_bindName (jX I4 hN hi (.inl hx) rv (fun s3 I5=>assignInOrder_nil (wpAny_pure ?_)) (.inr hx)))
 rw [List.set_comm _ _ (Ne.symm hij)] at I5
 exact ⟨_,H1,I5,q1⟩
end
section
variable {X:Cx}{pos:Pos}
def zl (c:TT) (tb:TS):TS:=fun D σ H=>∃W:Nat→St→Hp→Prop,(∃m,W m σ H)∧∀m σ H,W m σ H→
 c σ H fun b H1=>if b=true then ∃N:St→Hp→Prop,(∀σ' H',N σ' H'→∃m',m'<m∧W m' σ' H')∧tb { D with nx:=N,ct:=N,bk:=D.nx } σ H1 else D.nx σ H1
theorem j6 {c:Expr}{body:List Stmt}{tc:TT}{tb:TS} (hp:PassesOwn (model X.prog X.w) X.A X.env X.xe) (hc:PT X c tc) (hb:kX X body tb):PS X (.While c body [] pos) (zl tc tb):=by
 intro pins s σ H D I h
 obtain ⟨W,⟨m0,w0⟩,turn⟩:=h
 refine wpAny_While (codeAny_whileLoop (fun n s'=>∃σ' H',af X pins σ' H' s'∧W n σ' H') ?_ m0 ⟨σ,H,I,w0⟩)
 rintro n s1 ⟨σ1,H1,I1,w1⟩
 refine wpAny_passesOwn hp (aR (hc pins s1 σ1 H1 _ I1 (turn n σ1 H1 w1)) fun b s2 ⟨H2,I2,q2⟩=>?_)
 cases b with
 | true=>
  obtain ⟨N,hN,q2⟩:=q2
  rw [if_pos rfl]
  refine wpAny_passesOwn hp (aR (hb pins s2 σ1 H2 _ I2 q2) fun f s3 q3=>?_)
  cases f with
  | next=>
   obtain ⟨σ3,H3,I3,n3⟩:=q3
   obtain ⟨m',hm,w3⟩:=hN σ3 H3 n3
   exact ⟨m',hm,σ3,H3,I3,w3⟩
  | cont=>
   obtain ⟨σ3,H3,I3,n3⟩:=q3
   obtain ⟨m',hm,w3⟩:=hN σ3 H3 n3
   exact ⟨m',hm,σ3,H3,I3,w3⟩
  | brk=>exact q3
  | ret v=>exact q3
 | false=>
  rw [if_neg Bool.false_ne_true]
  exact wpAny_execs_nil ⟨σ1,H2,I2,q2⟩
end
structure It where
 go:Nat→Hp→Prop
 yld:Nat→Hp→V→Hp→Prop
 stop:Nat→Hp→Prop
def iT (X:Cx) (pins:List (Addr×Obj)) (H:Hp) (b:Addr):Prop:=
 H b=none∧b≠X.env.locals∧b∉X.fs∧(b∈X.ex∨X.s₀.heap.objs.size≤b)∧(∀x c,X.env.cells.lookup x=some c→c≠b)∧∀p∈X.pn++pins,p.1≠b
theorem af.fpOk {X:Cx}{pins:List (Addr×Obj)}{σ:St}{H H':Hp}{s:Shared}{b:Addr} (I:af X pins σ H s) (hb:s.heap.objs.size≤b) (hn:H' b=none):iT X pins H' b:=by
 refine ⟨hn,Nat.ne_of_gt (Nat.lt_of_lt_of_le I.lt hb),I.nofs hb,.inr (Nat.le_trans I.sz hb),fun x c e z=>?_,fun p hp z=>?_⟩
 ·obtain ⟨v,q⟩:=I.cell x c e
  exact absurd (Nat.lt_of_lt_of_le q.lt (by rw [z];exact hb)) (Nat.lt_irrefl _)
 ·exact absurd (Nat.lt_of_lt_of_le (Heap.lt_size (I.pin p hp).1) (by rw [z];exact hb)) (Nat.lt_irrefl _)
structure tS (P:Program) (w:World) (K:PySem.W.Frag) (tg:Expr) (J:It) (fp:List Addr) (it:Addr) (tn:Nat→Heap→Prop):Prop where
 mem:it∈fp
 obj:∀i h,tn i h→∀b∈fp,∃o,h.get? b=some o∧∀v,o.data≠.cell v
 keep:∀i h h',tn i h→(∀b∈fp,∀o,h.get? b=some o→h'.get? b=some o)→tn i h'
 item:∀(X:Cx),X.prog=P→X.w=w→X.K=K→X.calm=true→∀(i:Nat) (pins:List (Addr×Obj)) (s:Shared) (σ:St) (H:Hp) (E:Value→Shared→Prop),af X pins σ H s→(∀b∈fp,iT X pins H b)→tn i s.heap→J.go i H→
  wpAny (model P w) X.A (pyNext (.ref it)) (fun r s1=>∃u,r=some u∧
   wpAny (model P w) X.A (letOwnedTupleGo tg (.ref it) u) (fun _ s2=>bz fun x H'=>af X pins σ H' s2∧bc x u∧J.yld i H x H'∧tn (i+1) s2.heap∧∀b∈fp,H' b=none) E s1) E s
 done:∀(X:Cx),X.prog=P→X.w=w→X.K=K→X.calm=true→∀(i:Nat) (pins:List (Addr×Obj)) (s:Shared) (σ:St) (H:Hp) (E:Value→Shared→Prop),af X pins σ H s→(∀b∈fp,iT X pins H b)→tn i s.heap→J.stop i H→
  wpAny (model P w) X.A (pyNext (.ref it)) (fun r s1=>r=none∧af X pins σ H s1) E s
 self:∀(A:Around) (i:Nat) (s:Shared) (Q:Value→Shared→Prop) (E:Value→Shared→Prop),tn i s.heap→Q (.ref it) s→wpAny (model P w) A (pyIter (.ref it)) Q E s
abbrev TI:=St→Hp→(It→Hp→Prop)→Prop
def Gj (X:Cx) (pins:List (Addr×Obj)) (σ:St) (tg:Expr) (R:It→Hp→Prop) (itv:Value) (s2:Shared):Prop:=
 Bh fun (it:Addr) (fp:List Addr) (tn:Nat→Heap→Prop) (J:It) (H':Hp)=>itv=.ref it∧af X pins σ H' s2∧tS X.prog X.w X.K tg J fp it tn∧tn 0 s2.heap∧(∀b∈fp,iT X pins H' b)∧R J H'
def PI (X:Cx) (tg iter:Expr) (wi:TI):Prop:=
 ∀(pins:List (Addr×Obj)) (s:Shared) (σ:St) (H:Hp) (R:It→Hp→Prop),af X pins σ H s→wi σ H R→
   wpAny (model X.prog X.w) X.A (eval iter X.env) (fun v s1=>wpAny (model X.prog X.w) X.A (pyIter v) (Gj X pins σ tg R) X.xe s1) X.xe s
theorem x6 {M:Model}{A:Around}{E:Value→Shared→Prop}{s:Shared}{tg:Expr}{it:Addr}{u:Value}{o:Obj}{n:String}{vs:Array Value}{Q:Unit→Shared→Prop} (ho:s.heap.get? it=some o) (hc:o.cls=.type n) (hd:o.data=.fields vs)
 (hn:["enumerate", "zip", "dict_itemiterator", "dict_reverseitemiterator", "odict_iterator", "itertools.zip_longest", "itertools.pairwise"].contains n=false) (hQ:Q () s):wpAny M A (letOwnedTupleGo tg (.ref it) u) Q E s:=by
 unfold letOwnedTupleGo
 cases tg <;> first
  | exact wpAny_pure hQ
  | (cases u <;> first
   | exact wpAny_pure hQ
   | (refine wpAny_bind (wpAny_load ho ?_)
      rw [hc,hd]
      show wpAny M A (if (["enumerate", "zip", "dict_itemiterator", "dict_reverseitemiterator", "odict_iterator", "itertools.zip_longest", "itertools.pairwise"].contains n && vs[0]?==some (rawInt _))=true then _ else _) Q E s
      rw [if_neg (by intro h;rw [hn,Bool.false_and] at h;cases h)]
      exact wpAny_pure hQ))
def wX (K:PySem.W.Frag) (a:Addr):It:=
 ⟨fun i H=>bz fun xs x=>aG K H a xs∧xs[i]?=some x,fun i H x H'=>H'=H∧∀xs,aG K H a xs→xs[i]?=some x,fun i H=>∃xs,aG K H a xs∧xs.length≤i⟩
def xw (K:PySem.W.Frag) (a:Addr):It:=
 ⟨fun i H=>bz fun xs x=>au K H a xs∧xs[i]?=some x,fun i H x H'=>H'=H∧∀xs,au K H a xs→xs[i]?=some x,fun i H=>∃xs,au K H a xs∧xs.length≤i⟩
def wB (lo:Int) (n:Nat):It:=⟨fun i _=>i<n,fun i H x H'=>H'=H∧x=.int (lo+i),fun i _=>n≤i⟩
theorem zq {P:Program}{w:World}{K:PySem.W.Frag}{tg:Expr} (a it:Addr):tS P w K tg (wX K a) [it] it (fun i h=>h.IsListIter it a i) where
 mem:=by simp
 obj:=fun i h st b hb=>by
  have e:b=it:=by simpa using hb
  subst e
  obtain ⟨o,e,c,d⟩:=st
  exact ⟨o,e,fun v z=>by rw [d] at z;cases z⟩
 keep:=fun i h h' st k=>st.at fun o e=>k it (by simp) o e
 item:=by
  intro X hP hw hK hc i pins s σ H E I hf st hg
  subst hP hw hK
  obtain ⟨xs,x,hq,hx⟩:=hg
  obtain ⟨its,rv,p,hz⟩:=I.list hq
  obtain ⟨u,hu,ru⟩:=rv.get hx
  obtain ⟨f0,f1,f2,f3,f4,f5⟩:=hf it (by simp)
  refine wpAny_pyNext_list_item st p.isList (x:=u) (by simpa using hu) fun h' st' sb=>?_
  have I1:af X pins σ H { s with heap:=h' }:=I.turned (t':=s.toks) (fun b o hb e=>(sb.2 b hb).trans e) f0 f1 f3 f4 f5
  obtain ⟨o,e,c,d⟩:=id st'
  exact ⟨u,rfl,x6 (s:={ s with heap:=h' }) e c d (by decide) ⟨x,H,I1,ru,⟨rfl,fun ys hy=>by rw [I.list_inj hy hq];exact hx⟩,st',fun b hb=>(hf b hb).1⟩⟩
 done:=by
  intro X hP hw hK hc i pins s σ H E I hf st hg
  subst hP hw hK
  obtain ⟨xs,hq,hx⟩:=hg
  obtain ⟨its,rv,p,hz⟩:=I.list hq
  obtain ⟨f0,f1,f2,f3,f4,f5⟩:=hf it (by simp)
  have hl:=rv.length
  exact wpAny_pyNext_list_end (I.ok.hd hc) st p.isList (by simp;trivial) fun h' eb=>⟨rfl,I.turned (t':=s.toks) (fun b o hb e=>eb b o hb e) f0 f1 f3 f4 f5⟩
 self:=fun _ _ _ _ _ st h=>wpAny_pyIter_listiter st h
theorem xZ {P:Program}{w:World}{K:PySem.W.Frag}{tg:Expr} (a it:Addr):tS P w K tg (xw K a) [it] it (fun i h=>h.IsTupleIter it a i) where
 mem:=by simp
 obj:=fun i h st b hb=>by
  have e:b=it:=by simpa using hb
  subst e
  obtain ⟨o,e,c,d⟩:=st
  exact ⟨o,e,fun v z=>by rw [d] at z;cases z⟩
 keep:=fun i h h' st k=>st.at fun o e=>k it (by simp) o e
 item:=by
  intro X hP hw hK hc i pins s σ H E I hf st hg
  subst hP hw hK
  obtain ⟨xs,x,hq,hx⟩:=hg
  obtain ⟨its,rv,p,hz⟩:=I.tuple hq
  obtain ⟨u,hu,ru⟩:=rv.get hx
  obtain ⟨f0,f1,f2,f3,f4,f5⟩:=hf it (by simp)
  refine wpAny_pyNext_tuple_item st (show s.heap.IsTuple a its.toArray from p) (x:=u) (by simpa using hu) fun h' st' sb=>?_
  have I1:af X pins σ H { s with heap:=h' }:=I.turned (t':=s.toks) (fun b o hb e=>(sb.2 b hb).trans e) f0 f1 f3 f4 f5
  obtain ⟨o,e,c,d⟩:=id st'
  exact ⟨u,rfl,x6 (s:={ s with heap:=h' }) e c d (by decide) ⟨x,H,I1,ru,⟨rfl,fun ys hy=>by rw [I.tuple_inj hy hq];exact hx⟩,st',fun b hb=>(hf b hb).1⟩⟩
 done:=by
  intro X hP hw hK hc i pins s σ H E I hf st hg
  subst hP hw hK
  obtain ⟨xs,hq,hx⟩:=hg
  obtain ⟨its,rv,p,hz⟩:=I.tuple hq
  obtain ⟨f0,f1,f2,f3,f4,f5⟩:=hf it (by simp)
  have hl:=rv.length
  exact wpAny_pyNext_tuple_end (I.ok.hd hc) st (show s.heap.IsTuple a its.toArray from p) (by simp;trivial) fun h' eb=>⟨rfl,I.turned (t':=s.toks) (fun b o hb e=>eb b o hb e) f0 f1 f3 f4 f5⟩
 self:=fun _ _ _ _ _ st h=>wpAny_pyIter_tupleiter st h
theorem yu {P:Program}{w:World}{K:PySem.W.Frag}{tg:Expr} (it:Addr) (lo:Int) (n:Nat):tS P w K tg (wB lo n) [it] it (fun i h=>IsRangeIter h it (lo+(i:Nat)*1) ((n:Int) - (i:Nat)) 1) where
 mem:=by simp
 obj:=fun i h st b hb=>by
  have e:b=it:=by simpa using hb
  subst e
  exact ⟨_,st,fun v z=>by
   have z':Data.fields _=Data.cell v:=z
   cases z'⟩
 keep:=fun i h h' st k=>k it (by simp) _ st
 item:=by
  intro X hP hw hK hc i pins s σ H E I hf st hg
  subst hP hw hK
  obtain ⟨f0,f1,f2,f3,f4,f5⟩:=hf it (by simp)
  have W:=Walks.range (prog:=X.prog) (w:=X.w) (I.ok.hd hc) it lo 1 n
  refine W.item i s _ _ hg st fun v h' tk hv st' kk=>?_
  obtain ⟨t,rfl⟩:=hv
  have I1:af X pins σ H { s with heap:=h',toks:=tk }:=I.turned (fun b o hb e=>kk b o (by simpa using hb) e) f0 f1 f3 f4 f5
  refine ⟨_,rfl,x6 (s:={ s with heap:=h',toks:=tk }) (n := "range_iterator") st' rfl rfl (by decide) ⟨.int (lo+i),H,I1,⟨t,?_⟩,⟨rfl,rfl⟩,st',fun b hb=>(hf b hb).1⟩⟩
  rw [Int.mul_one]
 done:=by
  intro X hP hw hK hc i pins s σ H E I hf st hg
  subst hP hw hK
  obtain ⟨f0,f1,f2,f3,f4,f5⟩:=hf it (by simp)
  exact wpAny_pyNext_range_end (I.ok.hd hc) st (by have:n≤i:=hg;trivial) fun h' eb=>⟨rfl,I.turned (t':=s.toks) (fun b o hb e=>eb b o hb e) f0 f1 f3 f4 f5⟩
 self:=fun _ _ _ _ _ st h=>wpAny_pyIter_rangeiter st h
end L2
namespace L2
open PySem PySem.Spec PyProof.Rows
section
variable {X:Cx}{tg:Expr}
def AV (K:PySem.W.Frag) (tl:TE):TI:=fun σ H R=>tl σ H fun x H1=>∃a,x=.ref a∧(∃xs,aG K H1 a xs)∧R (wX K a) H1
def DS (K:PySem.W.Frag) (tl:TE):TI:=fun σ H R=>tl σ H fun x H1=>∃a,x=.ref a∧(∃xs,au K H1 a xs)∧R (xw K a) H1
theorem CK {l:Expr}{tl:TE} (hl:PE X l tl):PI X tg l (AV X.K tl):=by
 intro pins s σ H R I h
 refine aR (hl pins s σ H _ I h) fun v s1 ⟨x,H1,I1,r1,q1⟩=>?_
 obtain ⟨a,e,⟨xs,hq⟩,q⟩:=q1
 subst e
 cases r1
 obtain ⟨its,rv,p,hz⟩:=I1.list hq
 refine wpAny_pyIter_list p.isList ?_
 refine ⟨s1.heap.objs.size,[s1.heap.objs.size],_,_,H1,rfl,I1.kept (t':=s1.toks) fun b o e=>Heap.get?_push_of_some _ e,zq a _,⟨_,Heap.get?_push_size _ rfl,rfl,rfl⟩,fun b hb=>?_,q⟩
 have e:b=s1.heap.objs.size:=by simpa using hb
 subst e
 exact I1.fpOk (Nat.le_refl _) (I1.hok.fresh (Nat.le_refl _))
theorem CU {l:Expr}{tl:TE} (hl:PE X l tl):PI X tg l (DS X.K tl):=by
 intro pins s σ H R I h
 refine aR (hl pins s σ H _ I h) fun v s1 ⟨x,H1,I1,r1,q1⟩=>?_
 obtain ⟨a,e,⟨xs,hq⟩,q⟩:=q1
 subst e
 cases r1
 obtain ⟨its,rv,p,hz⟩:=I1.tuple hq
 refine wpAny_pyIter_tuple (show s1.heap.IsTuple a its.toArray from p) ?_
 refine ⟨s1.heap.objs.size,[s1.heap.objs.size],_,_,H1,rfl,I1.kept (t':=s1.toks) fun b o e=>Heap.get?_push_of_some _ e,xZ a _,⟨_,Heap.get?_push_size _ rfl,rfl,rfl⟩,fun b hb=>?_,q⟩
 have e:b=s1.heap.objs.size:=by simpa using hb
 subst e
 exact I1.fpOk (Nat.le_refl _) (I1.hok.fresh (Nat.le_refl _))
theorem vJ {pins:List (Addr×Obj)}{σ:St}{H:Hp}{s:Shared}{R:It→Hp→Prop}{E:Value→Shared→Prop}{lo hi:Int}{t u v:Tok}{tk:Nat} (I:af X pins σ H s) (h1:-(2 ^ 62)≤lo) (h2:lo<2 ^ 62) (h3:-(2 ^ 62)≤hi) (h4:hi<2 ^ 62)
 (q:R (wB lo (hi - lo).toNat) H):wpAny (model X.prog X.w) X.A (pyIter (.ref s.heap.objs.size)) (Gj X pins σ tg R) E { s with heap:=s.heap.push { cls:=.type "range",data:=.fields #[.int lo t,.int hi u,.int 1 v] },toks:=tk }:=by
 refine wpAny_pyIter_range (IsRange.new ..) (small_one h1 h2 h3 h4) ?_
 have I1:af X pins σ H { s with heap:=s.heap.push { cls:=.type "range",data:=.fields #[.int lo t,.int hi u,.int 1 v] },toks:=tk }:=I.kept fun b o e=>Heap.get?_push_of_some _ e
 refine ⟨(s.heap.push { cls:=.type "range",data:=.fields #[.int lo t,.int hi u,.int 1 v] }).objs.size,[(s.heap.push { cls:=.type "range",data:=.fields #[.int lo t,.int hi u,.int 1 v] }).objs.size],_,_,H,rfl,
  I1.kept (t':=tk) fun b o e=>Heap.get?_push_of_some _ e,yu _ lo (hi - lo).toNat,?_,fun b hb=>?_,q⟩
 ·have e1:lo+((0:Nat):Int)*1=lo:=by simp
  have e2:(((hi - lo).toNat:Nat):Int) - ((0:Nat):Int)=Builtin.Range.rangeSize lo hi 1:=by rw [rangeSize_one];split <;> trivial
  show IsRangeIter _ _ (lo+((0:Nat):Int)*1) ((((hi - lo).toNat:Nat):Int) - ((0:Nat):Int)) 1
  rw [e1,e2]
  exact Heap.get?_push_size _ rfl
 ·have e:b=(s.heap.push { cls:=.type "range",data:=.fields #[.int lo t,.int hi u,.int 1 v] }).objs.size:=by simpa using hb
  subst e
  exact I1.fpOk (Nat.le_refl _) (I1.hok.fresh (Nat.le_refl _))
def E7 (ta:TA):TI:=fun σ H R=>ta σ H fun vs H1=>∃j:Int,vs=[.int j]∧-(2 ^ 62)≤j∧j<2 ^ 62∧R (wB 0 j.toNat) H1
def F0 (ta:TA):TI:=fun σ H R=>ta σ H fun vs H1=>∃i j:Int,vs=[.int i,.int j]∧(-(2 ^ 62)≤i∧i<2 ^ 62∧-(2 ^ 62)≤j∧j<2 ^ 62)∧R (wB i (j - i).toNat) H1
theorem cz {a:Expr}{ta:TA}{p pos:Pos} (hg:Gl X "range") (hm:X.mg "range" = none) (ha:PA X [a] ta) (hs:starEach [a] X.env=[(false,eval a X.env)]:=by rfl):PI X tg (.Call (.Name "range" p) [a] [] pos) (E7 ta):=by
 intro pins s σ H R I h
 refine Call_ (gZ I hg hm boot_range (PyProof.Rows.callWith_type1 (aR (ha pos pins s σ H _ I h) fun us s1 ⟨vs,H1,I1,r1,q1⟩=>?_) hs rfl))
 obtain ⟨j,e,q1,q2,q⟩:=q1
 subst e
 cases r1 with
 | cons r rr=>
  cases rr
  obtain ⟨t,rfl⟩:=r
  exact call_range_1 (vJ I1 (by trivial) (by trivial) q1 q2 (by simpa using q))
theorem za {a b:Expr}{ta:TA}{p pos:Pos} (hg:Gl X "range") (hm:X.mg "range" = none) (ha:PA X [a,b] ta) (hs:starEach [a,b] X.env=[(false,eval a X.env),(false,eval b X.env)]:=by rfl) (hs2:starEach [b] X.env=[(false,eval b X.env)]:=by rfl) :
 PI X tg (.Call (.Name "range" p) [a,b] [] pos) (F0 ta):=by
 intro pins s σ H R I h
 refine Call_ (gZ I hg hm boot_range (PyProof.Rows.callWith_type1 (aR (ha pos pins s σ H _ I h) fun us s1 ⟨vs,H1,I1,r1,q1⟩=>?_) (by rw [hs,hs2]) (by rw [hs2];rfl)))
 obtain ⟨i,j,e,⟨q1,q2,q3,q4⟩,q⟩:=q1
 subst e
 cases r1 with
 | cons r rr=>
  cases rr with
  | cons r' rr=>
   cases rr
   obtain ⟨t,rfl⟩:=r
   obtain ⟨t',rfl⟩:=r'
   exact call_range_2 (vJ I1 q1 q2 q3 q4 q)
def GF (wi:TI) (g:TG) (tb:TS):TS:=fun D σ H=>wi σ H fun J H1=>∃W:Nat→Nat→St→Hp→Prop,(∃m,W 0 m σ H1)∧∀i m σ H,W i m σ H→
 (J.stop i H∧D.nx σ H)∨(J.go i H∧∃N:St→Hp→Prop,(∀σ' H',N σ' H'→∃m',m'<m∧W (i+1) m' σ' H')∧∀x H',J.yld i H x H'→g x σ H' fun σ2 H2=>tb { D with nx:=N,ct:=N,bk:=D.nx } σ2 H2)
def nJ (fp:List Addr) (h:Heap):List (Addr×Obj):=fp.filterMap fun b=>(h.get? b).map fun o=>(b,o)
theorem ie {fp:List Addr}{h:Heap}{b:Addr}{o:Obj} (hb:b∈fp) (e:h.get? b=some o):(b,o)∈nJ fp h:=List.mem_filterMap.mpr ⟨b,hb,by rw [e];rfl⟩
theorem yQ {fp:List Addr}{h:Heap}{p:Addr×Obj} (hp:p∈nJ fp h):p.1∈fp∧h.get? p.1=some p.2:=by
 obtain ⟨b,hb,e⟩:=List.mem_filterMap.mp hp
 cases q:h.get? b with
 | none=>rw [q] at e;cases e
 | some o=>
  rw [q] at e
  have e':(b,o)=p:=Option.some.inj e
  subst e'
  exact ⟨hb,q⟩
theorem af.pinned {pins:List (Addr×Obj)}{σ:St}{H:Hp}{s:Shared}{fp:List Addr} (I:af X pins σ H s) (hf:∀b∈fp,iT X pins H b) (ho:∀b∈fp,∃o,s.heap.get? b=some o∧∀v,o.data≠.cell v):af X (pins++nJ fp s.heap) σ H s:=
 I.pins_of fun p hp=>(List.mem_append.mp hp).elim (fun z=>I.pin p (List.mem_append_right _ z)) fun z=>by
  obtain ⟨hb,e⟩:=yQ z
  obtain ⟨f0,f1,f2,_⟩:=hf p.1 hb
  obtain ⟨o,e',d⟩:=ho p.1 hb
  rw [e] at e';cases e'
  exact ⟨e,f0,f1,f2,d⟩
theorem af.unpinned {pins pl:List (Addr×Obj)}{σ:St}{H:Hp}{s:Shared} (I:af X (pins++pl) σ H s):af X pins σ H s:=I.pins_of fun p hp=>I.pin p (List.mem_append_right _ (List.mem_append_left _ hp))
theorem gm {iter:Expr}{body:List Stmt}{wi:TI}{g:TG}{tb:TS}{pos:Pos} (hp:PassesOwn (model X.prog X.w) X.A X.env X.xe) (hc:X.calm=true) (hi:PI X tg iter wi) (hg:PG X tg g) (hb:kX X body tb)
 (hs:∀x,foldedSetIterable iter X.env x=pure x:=by intro _;rfl):PS X (.For tg iter body [] pos) (GF wi g tb):=by
 intro pins s σ H D I h
 refine wpAny_For (aR (hi pins s σ H _ I h) fun v s1 h1=>aR h1 fun itv s2 h2=>?_) hs
 obtain ⟨it,fp,tn,J,H2,e,I2,T,st2,f2,W,⟨m0,w0⟩,turn⟩:=h2
 subst e
 have stat:∀{H':Hp},(∀b∈fp,H' b=none)→∀b∈fp,iT X pins H' b:=fun hn b hb=>⟨hn b hb,(f2 b hb).2⟩
 refine codeAny_forLoop_any (fun n s'=>∃i σ' H',af X pins σ' H' s'∧tn i s'.heap∧(∀b∈fp,H' b=none)∧W i n σ' H') ?_ m0 ⟨0,σ,H2,I2,st2,fun b hb=>(f2 b hb).1,w0⟩
 rintro n s3 ⟨i,σ3,H3,I3,st3,fr3,w3⟩
 rcases turn i n σ3 H3 w3 with ⟨stop,qn⟩ | ⟨go,N,hN,step⟩
 ·refine wpAny_passesOwn hp (aR (T.done X rfl rfl rfl hc i pins s3 σ3 H3 X.xe I3 (stat fr3) st3 stop) fun r s4 ⟨hr,I4⟩=>?_)
  subst hr
  exact wpAny_execs_nil ⟨σ3,H3,I4,qn⟩
 ·refine wpAny_passesOwn hp (aR (T.item X rfl rfl rfl hc i pins s3 σ3 H3 X.xe I3 (stat fr3) st3 go) fun r s4 ⟨u,hr,h4⟩=>?_)
  subst hr
  refine wpAny_passesOwn hp (aR h4 fun _ s5 ⟨x,H5,I5,r5,y5,st5,fr5⟩=>?_)
  have I5':=I5.pinned (stat fr5) (T.obj _ _ st5)
  refine wpAny_passesOwn hp (aR (hg _ s5 σ3 H5 x u _ I5' r5 (step x H5 y5)) fun _ s6 ⟨σ6,H6,I6,q6⟩=>?_)
  refine wpAny_passesOwn hp (aR (hb _ s6 σ6 H6 _ I6 q6) fun f s7 q7=>?_)
  have again:∀{σ7:St}{H7:Hp},af X (pins++nJ fp s5.heap) σ7 H7 s7→N σ7 H7→∃m,m<n∧∃i σ' H',af X pins σ' H' s7∧tn i s7.heap∧(∀b∈fp,H' b=none)∧W i m σ' H':=fun {σ7 H7} I7 n7=>by
   obtain ⟨m',hm,w7⟩:=hN σ7 H7 n7
   refine ⟨m',hm,i+1,σ7,H7,I7.unpinned,T.keep _ _ _ st5 fun b hb o e=>(I7.pin (b,o) (List.mem_append_right _ (List.mem_append_right _ (ie hb e)))).1,fun b hb=>?_,w7⟩
   obtain ⟨o,e,d⟩:=T.obj _ _ st5 b hb
   exact (I7.pin (b,o) (List.mem_append_right _ (List.mem_append_right _ (ie hb e)))).2.1
  cases f with
  | next=>obtain ⟨σ7,H7,I7,n7⟩:=q7;exact again I7 n7
  | cont=>obtain ⟨σ7,H7,I7,n7⟩:=q7;exact again I7 n7
  | brk=>obtain ⟨σ7,H7,I7,q7⟩:=q7;exact ⟨σ7,H7,I7.unpinned,q7⟩
  | ret v=>obtain ⟨x7,σ7,H7,I7,r7,q7⟩:=q7;exact ⟨x7,σ7,H7,I7.unpinned,r7,q7⟩
end
theorem vP {K:PySem.W.Frag}{a:Addr}{xs:List V}{g:TG}{tb:TS}{D:cF}{σ:St}{H:Hp} (Pv:Nat→St→Hp→Prop) (h0:Pv 0 σ H) (hl:∀i σ H,i≤xs.length→Pv i σ H→aG K H a xs)
 (hs:∀i x σ H,xs[i]?=some x→Pv i σ H→g x σ H fun σ2 H2=>tb { D with nx:=Pv (i+1),ct:=Pv (i+1),bk:=D.nx } σ2 H2) (hd:∀σ H,Pv xs.length σ H→D.nx σ H) :
 ∃W:Nat→Nat→St→Hp→Prop,(∃m,W 0 m σ H)∧∀i m σ H,W i m σ H→
  ((wX K a).stop i H∧D.nx σ H)∨((wX K a).go i H∧∃N:St→Hp→Prop,(∀σ' H',N σ' H'→∃m',m'<m∧W (i+1) m' σ' H')∧∀x H',(wX K a).yld i H x H'→g x σ H' fun σ2 H2=>tb { D with nx:=N,ct:=N,bk:=D.nx } σ2 H2):=by
 refine ⟨fun i m σ H=>m=xs.length - i∧i≤xs.length∧Pv i σ H,⟨xs.length,by simp,Nat.zero_le _,h0⟩,?_⟩
 rintro i m σ H ⟨rfl,hi,p⟩
 have q:=hl i σ H hi p
 by_cases hlt:i<xs.length
 ·refine .inr ⟨⟨xs,xs[i],q,by simp [hlt]⟩,Pv (i+1),fun σ' H' p'=>⟨xs.length - (i+1),by trivial,rfl,hlt,p'⟩,fun x H' y=>?_⟩
  obtain ⟨e,y⟩:=y
  subst e
  exact hs i x σ _ (y xs q) p
 ·have e:i=xs.length:=by trivial
  subst e
  exact .inl ⟨⟨xs,q,Nat.le_refl _⟩,hd σ H p⟩
theorem xf {K:PySem.W.Frag}{a:Addr}{xs:List V}{g:TG}{tb:TS}{D:cF}{σ:St}{H:Hp} (Pv:Nat→St→Hp→Prop) (h0:Pv 0 σ H) (hl:∀i σ H,i≤xs.length→Pv i σ H→au K H a xs)
 (hs:∀i x σ H,xs[i]?=some x→Pv i σ H→g x σ H fun σ2 H2=>tb { D with nx:=Pv (i+1),ct:=Pv (i+1),bk:=D.nx } σ2 H2) (hd:∀σ H,Pv xs.length σ H→D.nx σ H) :
 ∃W:Nat→Nat→St→Hp→Prop,(∃m,W 0 m σ H)∧∀i m σ H,W i m σ H→
  ((xw K a).stop i H∧D.nx σ H)∨((xw K a).go i H∧∃N:St→Hp→Prop,(∀σ' H',N σ' H'→∃m',m'<m∧W (i+1) m' σ' H')∧∀x H',(xw K a).yld i H x H'→g x σ H' fun σ2 H2=>tb { D with nx:=N,ct:=N,bk:=D.nx } σ2 H2):=by
 refine ⟨fun i m σ H=>m=xs.length - i∧i≤xs.length∧Pv i σ H,⟨xs.length,by simp,Nat.zero_le _,h0⟩,?_⟩
 rintro i m σ H ⟨rfl,hi,p⟩
 have q:=hl i σ H hi p
 by_cases hlt:i<xs.length
 ·refine .inr ⟨⟨xs,xs[i],q,by simp [hlt]⟩,Pv (i+1),fun σ' H' p'=>⟨xs.length - (i+1),by trivial,rfl,hlt,p'⟩,fun x H' y=>?_⟩
  obtain ⟨e,y⟩:=y
  subst e
  exact hs i x σ _ (y xs q) p
 ·have e:i=xs.length:=by trivial
  subst e
  exact .inl ⟨⟨xs,q,Nat.le_refl _⟩,hd σ H p⟩
theorem kD {lo:Int}{n:Nat}{g:TG}{tb:TS}{D:cF}{σ:St}{H:Hp} (Pv:Nat→St→Hp→Prop) (h0:Pv 0 σ H)
 (hs:∀i σ H,i<n→Pv i σ H→g (.int (lo+i)) σ H fun σ2 H2=>tb { D with nx:=Pv (i+1),ct:=Pv (i+1),bk:=D.nx } σ2 H2) (hd:∀σ H,Pv n σ H→D.nx σ H) :
 ∃W:Nat→Nat→St→Hp→Prop,(∃m,W 0 m σ H)∧∀i m σ H,W i m σ H→
  ((wB lo n).stop i H∧D.nx σ H)∨((wB lo n).go i H∧∃N:St→Hp→Prop,(∀σ' H',N σ' H'→∃m',m'<m∧W (i+1) m' σ' H')∧∀x H',(wB lo n).yld i H x H'→g x σ H' fun σ2 H2=>tb { D with nx:=N,ct:=N,bk:=D.nx } σ2 H2):=by
 refine ⟨fun i m σ H=>m=n - i∧i≤n∧Pv i σ H,⟨n,by simp,Nat.zero_le _,h0⟩,?_⟩
 rintro i m σ H ⟨rfl,hi,p⟩
 by_cases hlt:i<n
 ·refine .inr ⟨hlt,Pv (i+1),fun σ' H' p'=>⟨n - (i+1),by trivial,rfl,hlt,p'⟩,fun x H' y=>?_⟩
  obtain ⟨e,y⟩:=y
  subst e y
  exact hs i σ _ hlt p
 ·have e:i=n:=by trivial
  subst e
  exact .inl ⟨Nat.le_refl _,hd σ H p⟩
end L2
namespace L2
open PySem PySem.Spec PyProof.Rows
abbrev R2:=V→V→Hp→VK→Prop
def cD (X:Cx) (f:Value→Value→Sem Value) (r:R2):Prop:=
 ∀(pins:List (Addr×Obj)) (s:Shared) (σ:St) (H:Hp) (x y:V) (v u:Value) (Q:VK),af X pins σ H s→bc x v→bc y u→r x y H Q→
   wpAny (model X.prog X.w) X.A (f v u) (EP X pins σ Q) X.xe s
def DU (X:Cx) (f:Value→Sem Value) (r:V→Hp→VK→Prop):Prop:=
 ∀(pins:List (Addr×Obj)) (s:Shared) (σ:St) (H:Hp) (x:V) (v:Value) (Q:VK),af X pins σ H s→bc x v→r x H Q→
   wpAny (model X.prog X.w) X.A (f v) (EP X pins σ Q) X.xe s
def fe (X:Cx) (f:Value) (r:List V→Hp→VK→Prop):Prop:=
 ∀(pins:List (Addr×Obj)) (s:Shared) (σ:St) (H:Hp) (xs:List V) (us:List Value) (Q:VK),af X pins σ H s→aH xs us→r xs H Q→
   wpAny (model X.prog X.w) X.A (call f us) (EP X pins σ Q) X.xe s
def Bc (r:R2) (ta tb:TE):TE:=fun σ H Q=>ta σ H fun x H1=>tb σ H1 fun y H2=>r x y H2 Q
def Hj (r:V→Hp→VK→Prop) (ta:TE):TE:=fun σ H Q=>ta σ H fun x H1=>r x H1 Q
inductive He (C:Int→Int→Prop) (g:Int→Int→V) (x:V) (y:V) (H:Hp) (Q:VK):Prop
 | mk (i:_) (j:_) (h0:x=.int i) (h1:y=.int j) (h2:C i j) (h3:Q (g i j) H)
def rI (C:Int→Int→Prop) (g:Int→Int→V):R2:=fun x y H Q=>He C g x y H Q
inductive G0 (g:Int→Int→V) (x:V) (y:V) (H:Hp) (Q:VK):Prop
 | mk (i:_) (j:_) (h0:x=.int i) (h1:y=.int j) (h2:Q (g i j) H)
def uO (g:Int→Int→V):R2:=fun x y H Q=>G0 g x y H Q
def rU (g:Int→V):V→Hp→VK→Prop:=fun x H Q=>EM x fun i=>Q (g i) H
section
variable {X:Cx}{a b c:Expr}{ta tb tc:TE}{pos:Pos}
theorem zS (ha:PE X a ta) (hb:PE X b tb) {pins:List (Addr×Obj)}{s:Shared}{σ:St}{H:Hp}{R:V→V→Hp→Prop} (I:af X pins σ H s)
 (h:ta σ H fun x H1=>tb σ H1 fun y H2=>R x y H2) {Q:Value→Shared→Prop}{f:Value→Value→Sem Value}
 (hf:∀v u s2 x y H2,af X pins σ H2 s2→bc x v→bc y u→R x y H2→wpAny (model X.prog X.w) X.A (f v u) Q X.xe s2) :
 wpAny (model X.prog X.w) X.A (eval a X.env) (fun v s₁=>wpAny (model X.prog X.w) X.A (eval b X.env) (fun u s₂=>wpAny (model X.prog X.w) X.A (f v u) Q X.xe s₂) X.xe s₁) X.xe s:=by
 refine aR (ha pins s σ H _ I h) fun v s1 ⟨x,H1,I1,r1,q1⟩=>?_
 refine aR (hb pins s1 σ H1 _ I1 q1) fun u s2 ⟨y,H2,I2,r2,q2⟩=>?_
 exact hf v u s2 x y H2 I2 r1 r2 q2
theorem aB {op:Operator}{r:R2} (ho:cD X (binaryOp op) r) (ha:PE X a ta) (hb:PE X b tb):PE X (.BinOp a op b pos) (Bc r ta tb):=by
 intro pins s σ H Q I h
 exact wpAny_BinOp (zS ha hb I h fun v u s2 x y H2 I2 rx ry q=>ho pins s2 σ H2 x y v u Q I2 rx ry q)
theorem vf {op:UnaryOp}{r:V→Hp→VK→Prop} (ho:DU X (unaryOp op) r) (ha:PE X a ta):PE X (.UnaryOp op a pos) (Hj r ta):=by
 intro pins s σ H Q I h
 exact UnaryOp_ (aR (ha pins s σ H _ I h) fun v s1 ⟨x,H1,I1,r1,q1⟩=>ho pins s1 σ H1 x v Q I1 r1 q1)
theorem uC {f:Value→Value→Sem Value}{C:Int→Int→Prop}{g:Int→Int→Int}
 (rule:∀(i j:Int) (t u:Tok) (s:Shared) (Q:Value→Shared→Prop) (E:Value→Shared→Prop),C i j→Q (.int (g i j) s.toks) { s with toks:=s.toks+1 }→wpAny (model X.prog X.w) X.A (f (.int i t) (.int j u)) Q E s) :
 cD X f (rI C fun i j=>.int (g i j)):=by
 intro pins s σ H x y v u Q I rx ry h
 obtain ⟨i,j,rfl,rfl,hc,q⟩:=h
 obtain ⟨t,rfl⟩:=rx
 obtain ⟨t',rfl⟩:=ry
 exact rule i j t t' s _ _ hc ⟨.int (g i j),H,I.tok _,⟨_,rfl⟩,q⟩
theorem CW {f:Value→Value→Sem Value}{g:Int→Int→Int}
 (rule:∀(i j:Int) (t u:Tok) (s:Shared) (Q:Value→Shared→Prop) (E:Value→Shared→Prop),Q (.int (g i j) s.toks) { s with toks:=s.toks+1 }→wpAny (model X.prog X.w) X.A (f (.int i t) (.int j u)) Q E s) :
 cD X f (uO fun i j=>.int (g i j)):=by
 intro pins s σ H x y v u Q I rx ry h
 obtain ⟨i,j,rfl,rfl,q⟩:=h
 obtain ⟨t,rfl⟩:=rx
 obtain ⟨t',rfl⟩:=ry
 exact rule i j t t' s _ _ ⟨.int (g i j),H,I.tok _,⟨_,rfl⟩,q⟩
theorem yc {f:Value→Value→Sem Value}{g:Int→Int→Bool}
 (rule:∀(i j:Int) (t u:Tok) (s:Shared) (Q:Value→Shared→Prop) (E:Value→Shared→Prop),Q (.bool (g i j)) s→wpAny (model X.prog X.w) X.A (f (.int i t) (.int j u)) Q E s) :
 cD X f (uO fun i j=>.bl (g i j)):=by
 intro pins s σ H x y v u Q I rx ry h
 obtain ⟨i,j,rfl,rfl,q⟩:=h
 obtain ⟨t,rfl⟩:=rx
 obtain ⟨t',rfl⟩:=ry
 exact rule i j t t' s _ _ ⟨.bl (g i j),H,I,rfl,q⟩
def Gr (i j:Int):Prop:=0<j∧j<1073741824
def GZ (i j:Int):Prop:=0≤j∧j≤1000000∧i.natAbs<2 ^ 64
def Al (i j:Int):Prop:=(-(2 ^ 64)<i∧i<2 ^ 64)∨(-(2 ^ 64)<j∧j<2 ^ 64)
theorem Al.ok {i j:Int} (h:Al i j):IntMulOk i j:=by
 rcases h with ⟨h1,h2⟩ | ⟨h1,h2⟩
 ·exact .of_left (intBits_le_64 h1 h2)
 ·exact .of_right (intBits_le_64 h1 h2)
theorem cx:cD X (binaryOp .Add) (uO fun i j=>.int (i+j)):=CW fun _ _ _ _ _ _ _ q=>add_int q
theorem md:cD X (binaryOp .Sub) (uO fun i j=>.int (i - j)):=CW fun _ _ _ _ _ _ _ q=>sub_int q
theorem iK:cD X (binaryOp .Mult) (rI Al fun i j=>.int (i*j)):=uC fun _ _ _ _ _ _ _ hc q=>mul_int q hc.ok
theorem Ct:cD X (binaryOp .FloorDiv) (rI Gr fun i j=>.int (i / j)):=uC fun i j _ _ _ _ _ hc q=>by
 have h1:(0:Int)<j:=hc.1
 have h2:j<1073741824:=hc.2
 exact floordiv_int (by trivial) (by rw [Int.fdiv_eq_ediv_of_nonneg i (by trivial)];exact q) (.inl (PyProof.noPylong_small (by trivial)))
theorem g9:cD X (binaryOp .Mod) (rI (fun _ j=>0<j) fun i j=>.int (i % j)):=uC fun i j _ _ _ _ _ hc q=>by
 have h1:(0:Int)<j:=hc
 exact mod_int' (by trivial) (by rw [Int.fmod_eq_emod_of_nonneg i (by trivial)];exact q)
theorem Bz:cD X (binaryOp .Mod) (rI (fun _ j=>j≠0) fun i j=>.int (i.fmod j)):=uC fun _ _ _ _ _ _ _ hc q=>mod_int' hc q
theorem yZ:cD X (binaryOp .Pow) (rI GZ fun i j=>.int (i ^ j.toNat)):=uC fun _ _ _ _ _ _ _ hc q=>pow_int_small hc.1 hc.2.1 hc.2.2 q
theorem Hl {f:Value→Sem Value}{g:Int→Int}
 (rule:∀(i:Int) (t:Tok) (s:Shared) (Q:Value→Shared→Prop) (E:Value→Shared→Prop),Q (.int (g i) s.toks) { s with toks:=s.toks+1 }→wpAny (model X.prog X.w) X.A (f (.int i t)) Q E s) :
 DU X f (rU fun i=>.int (g i)):=by
 intro pins s σ H x v Q I rx h
 obtain ⟨i,rfl,q⟩:=h
 obtain ⟨t,rfl⟩:=rx
 exact rule i t s _ _ ⟨.int (g i),H,I.tok _,⟨_,rfl⟩,q⟩
theorem sP:DU X (unaryOp .USub) (rU fun i=>.int (-i)):=Hl fun _ _ _ _ _ q=>neg_int q
end
def DH:V→V→Bool
 | .non,.non=>true | .non,.int _=>true | .int _,.non=>true | .non,.bl _=>true | .bl _,.non=>true | .non,.str _=>true | .str _,.non=>true
 | .int _,.int _=>true | .bl _,.bl _=>true | .str _,.str _=>true | .byt _,.byt _=>true
 | .int _,.str _=>true | .str _,.int _=>true | .bl _,.str _=>true | .str _,.bl _=>true
 | _,_=>false
def Hm:R2:=fun x y H Q=>DH x y=true∧Q (.bl (decide (x=y))) H
def Hd:R2:=fun x y H Q=>DH x y=true∧Q (.bl (!decide (x=y))) H
theorem xp {i j:Int}:decide (V.int i=V.int j)=(i==j):=by
 rw [Bool.eq_iff_iff]
 simp
theorem yU {i j:Bool}:decide (V.bl i=V.bl j)=(i==j):=by
 rw [Bool.eq_iff_iff]
 simp
theorem xk {i j:Str}:decide (V.str i=V.str j)=(i==j):=by
 rw [Bool.eq_iff_iff]
 simp
theorem xt {i j:Array UInt8}:decide (V.byt i=V.byt j)=(i.toList==j.toList):=by
 rw [Bool.eq_iff_iff]
 cases i
 cases j
 simp
section
variable {X:Cx}{a b c:Expr}{ta tb tc:TE}{pos:Pos}
theorem bu {pins:List (Addr×Obj)}{σ:St}{H:Hp}{s:Shared}{Q:VK}{k k':Bool} (I:af X pins σ H s) (q:Q (.bl k) H) (e:k=k'):EP X pins σ Q (.bool k') s:=by
 subst e
 exact ⟨.bl k,H,I,rfl,q⟩
theorem sZ:cD X (compareOp .Eq) Hm:=by
 intro pins s σ H x y v u Q I rx ry h
 obtain ⟨hs,q⟩:=h
 cases x with
 | non=>
  cases rx
  cases y with
  | non=>cases ry;exact PySem.EqNone.eq_none_none (bu I q (by simp))
  | bl j=>cases ry;exact PySem.EqNone.eq_none_bool (bu I q (by simp))
  | int j=>obtain ⟨t',rfl⟩:=ry;exact PySem.EqNone.eq_none_int (bu I q (by simp))
  | str j=>obtain ⟨t',rfl⟩:=ry;exact PySem.EqNone.eq_none_str (bu I q (by simp))
  | _=>exact absurd (show false=true from hs) Bool.false_ne_true
 | bl i=>
  cases rx
  cases y with
  | non=>cases ry;exact PySem.EqNone.eq_bool_none (bu I q (by simp))
  | bl j=>cases ry;exact eq_bool (bu I q yU)
  | str j=>obtain ⟨t',rfl⟩:=ry;exact PySem.EqMixed.eq_bool_str (bu I q (by simp))
  | _=>exact absurd (show false=true from hs) Bool.false_ne_true
 | int i=>
  obtain ⟨t,rfl⟩:=rx
  cases y with
  | non=>cases ry;exact PySem.EqNone.eq_int_none (bu I q (by simp))
  | int j=>obtain ⟨t',rfl⟩:=ry;exact eq_int (bu I q xp)
  | str j=>obtain ⟨t',rfl⟩:=ry;exact PySem.EqMixed.eq_int_str (bu I q (by simp))
  | _=>exact absurd (show false=true from hs) Bool.false_ne_true
 | str i=>
  obtain ⟨t,rfl⟩:=rx
  cases y with
  | non=>cases ry;exact PySem.EqNone.eq_str_none (bu I q (by simp))
  | bl j=>cases ry;exact PySem.EqMixed.eq_str_bool (bu I q (by simp))
  | int j=>obtain ⟨t',rfl⟩:=ry;exact PySem.EqMixed.eq_str_int (bu I q (by simp))
  | str j=>obtain ⟨t',rfl⟩:=ry;exact eq_str (bu I q xk)
  | _=>exact absurd (show false=true from hs) Bool.false_ne_true
 | byt i=>
  obtain ⟨t,rfl⟩:=rx
  cases y with
  | byt j=>obtain ⟨t',rfl⟩:=ry;exact PySem.W.eq_bytes (bu I q xt)
  | _=>exact absurd (show false=true from hs) Bool.false_ne_true
 | _=>cases y <;> exact absurd (show false=true from hs) Bool.false_ne_true
theorem vj:cD X (compareOp .NotEq) Hd:=by
 intro pins s σ H x y v u Q I rx ry h
 obtain ⟨hs,q⟩:=h
 cases x with
 | non=>
  cases rx
  cases y with
  | non=>cases ry;exact PySem.EqNone.ne_none_none (bu I q (by simp))
  | bl j=>cases ry;exact PySem.EqNone.ne_none_bool (bu I q (by simp))
  | int j=>obtain ⟨t',rfl⟩:=ry;exact PySem.EqNone.ne_none_int (bu I q (by simp))
  | str j=>obtain ⟨t',rfl⟩:=ry;exact PySem.EqNone.ne_none_str (bu I q (by simp))
  | _=>exact absurd (show false=true from hs) Bool.false_ne_true
 | bl i=>
  cases rx
  cases y with
  | non=>cases ry;exact PySem.EqNone.ne_bool_none (bu I q (by simp))
  | bl j=>cases ry;exact ne_bool (bu I q (congrArg not yU))
  | str j=>obtain ⟨t',rfl⟩:=ry;exact PySem.EqMixed.ne_bool_str (bu I q (by simp))
  | _=>exact absurd (show false=true from hs) Bool.false_ne_true
 | int i=>
  obtain ⟨t,rfl⟩:=rx
  cases y with
  | non=>cases ry;exact PySem.EqNone.ne_int_none (bu I q (by simp))
  | int j=>obtain ⟨t',rfl⟩:=ry;exact ne_int (bu I q (congrArg not xp))
  | str j=>obtain ⟨t',rfl⟩:=ry;exact PySem.EqMixed.ne_int_str (bu I q (by simp))
  | _=>exact absurd (show false=true from hs) Bool.false_ne_true
 | str i=>
  obtain ⟨t,rfl⟩:=rx
  cases y with
  | non=>cases ry;exact PySem.EqNone.ne_str_none (bu I q (by simp))
  | bl j=>cases ry;exact PySem.EqMixed.ne_str_bool (bu I q (by simp))
  | int j=>obtain ⟨t',rfl⟩:=ry;exact PySem.EqMixed.ne_str_int (bu I q (by simp))
  | str j=>obtain ⟨t',rfl⟩:=ry;exact ne_str (bu I q (congrArg not xk))
  | _=>exact absurd (show false=true from hs) Bool.false_ne_true
 | byt i=>
  obtain ⟨t,rfl⟩:=rx
  cases y with
  | byt j=>obtain ⟨t',rfl⟩:=ry;exact PySem.W.ne_bytes (bu I q (congrArg not xt))
  | _=>exact absurd (show false=true from hs) Bool.false_ne_true
 | _=>cases y <;> exact absurd (show false=true from hs) Bool.false_ne_true
theorem vm:cD X (compareOp .Lt) (uO fun i j=>.bl (decide (i<j))):=yc fun _ _ _ _ _ _ _ q=>lt_int q
theorem FC:cD X (compareOp .LtE) (uO fun i j=>.bl (decide (i≤j))):=yc fun _ _ _ _ _ _ _ q=>le_int q
theorem mH:cD X (compareOp .Gt) (uO fun i j=>.bl (decide (j<i))):=yc fun _ _ _ _ _ _ _ q=>gt_int q
theorem AW:cD X (compareOp .GtE) (uO fun i j=>.bl (decide (j≤i))):=yc fun _ _ _ _ _ _ _ q=>ge_int q
theorem sX:cD X (compareOp .Is) (fun x y H Q=>y=.non∧Q (.bl (decide (x=.non))) H):=by
 intro pins s σ H x y v u Q I rx ry h
 obtain ⟨rfl,q⟩:=h
 cases ry
 refine is_none_gen (bu I q ?_)
 cases x <;> first
  | (cases rx;rfl)
  | (obtain ⟨t,rfl⟩:=rx;rfl)
theorem qx:cD X (compareOp .IsNot) (fun x y H Q=>y=.non∧Q (.bl (!decide (x=.non))) H):=by
 intro pins s σ H x y v u Q I rx ry h
 obtain ⟨rfl,q⟩:=h
 cases ry
 refine isnot_none_gen (bu I q ?_)
 cases x <;> first
  | (cases rx;rfl)
  | (obtain ⟨t,rfl⟩:=rx;rfl)
theorem aZ (b:Expr) {op:CmpOp} (h:op≠.In:=by decide) (h2:op≠.NotIn:=by decide):behindInMarks op b=false:=by
 have e1:(op==CmpOp.In)=false:=by cases op <;> first | rfl | exact absurd rfl h
 have e2:(op==CmpOp.NotIn)=false:=by cases op <;> first | rfl | exact absurd rfl h2
 cases b <;> simp [behindInMarks,e1,e2]
theorem cO {op:CmpOp}{r:R2} (ho:cD X (compareOp op) r) (ha:PE X a ta) (hb:PE X b tb) (hm:behindInMarks op b=false):PE X (.Compare a [op] [b] pos) (Bc r ta tb):=by
 intro pins s σ H Q I h
 exact wpAny_Compare1 (zS ha hb I h fun v u s2 x y H2 I2 rx ry q=>ho pins s2 σ H2 x y v u Q I2 rx ry q) hm
def Fq (t:TE):TT:=fun σ H Q=>t σ H fun x H'=>wE x fun k=>Q k H'
theorem bj {op:CmpOp}{r:R2} (ho:cD X (compareOp op) r) (ha:PE X a ta) (hb:PE X b tb) (hm:behindInMarks op b=false):PT X (.Compare a [op] [b] pos) (Fq (Bc r ta tb)):=by
 intro pins s σ H Q I h
 refine wpAny_isTrue_Compare1 (aR (ha pins s σ H _ I h) fun v s1 ⟨x,H1,I1,r1,q1⟩=>aR (hb pins s1 σ H1 _ I1 q1) fun u s2 ⟨y,H2,I2,r2,q2⟩=>
  aR (ho pins s2 σ H2 x y v u _ I2 r1 r2 q2) fun c s3 ⟨z,H3,I3,r3,k,e,q3⟩=>?_) hm
 subst e
 cases r3
 exact wpAny_truthy_bool ⟨H3,I3,q3⟩
theorem p8:(sizeLine:Nat)<2 ^ 63:=by rw [sizeLine_eq];decide
theorem xF:cD X (binaryOp .Add) (fun x y H Q=>bz fun i j=>x=.str i∧y=.str j∧i.length+j.length≤sizeLine∧Q (.str (i++j)) H):=by
 intro pins s σ H x y v u Q I rx ry h
 obtain ⟨i,j,rfl,rfl,hz,q⟩:=h
 obtain ⟨t,rfl⟩:=rx
 obtain ⟨t',rfl⟩:=ry
 exact add_str (fun t' tk=>⟨.str (i++j),H,I.tok _,⟨_,rfl⟩,q⟩) hz
theorem qz {x:V}{us:List Value} (r:aH [x] us):∃u,us=[u]∧bc x u:=by
 cases r with
 | cons r1 r2=>cases r2;exact ⟨_,rfl,r1⟩
theorem vg {x y:V}{us:List Value} (r:aH [x,y] us):bz fun u w'=>us=[u,w']∧bc x u∧bc y w':=by
 cases r with
 | cons r1 r2=>
  cases r2 with
  | cons r3 r4=>cases r4;exact ⟨_,_,rfl,r1,r3⟩
theorem lL:fe X (.builtin "abs") (fun xs H Q=>∃i,xs=[.int i]∧Q (.int (if i<0 then -i else i)) H):=by
 intro pins s σ H xs us Q I r h
 obtain ⟨i,rfl,q⟩:=h
 obtain ⟨u,rfl,t,rfl⟩:=qz r
 exact call_abs_int fun u tk=>⟨.int (if i<0 then -i else i),H,I.tok _,⟨_,rfl⟩,q⟩
theorem y7 (hc:X.calm=true):fe X (.builtin "max") (fun xs H Q=>bz fun i j=>xs=[.int i,.int j]∧Q (.int (if j > i then j else i)) H):=by
 intro pins s σ H xs us Q I r h
 obtain ⟨i,j,rfl,q⟩:=h
 obtain ⟨u,w',rfl,⟨t,rfl⟩,⟨t',rfl⟩⟩:=vg r
 refine max_two_ints (I.ok.hd hc) fun h' tk k=>⟨_,H,I.kept k,?_,q⟩
 by_cases hj:j > i
 ·rw [if_pos hj,if_pos hj];exact ⟨_,rfl⟩
 ·rw [if_neg hj,if_neg hj];exact ⟨_,rfl⟩
theorem yT (hc:X.calm=true):fe X (.builtin "min") (fun xs H Q=>bz fun i j=>xs=[.int i,.int j]∧Q (.int (if j<i then j else i)) H):=by
 intro pins s σ H xs us Q I r h
 obtain ⟨i,j,rfl,q⟩:=h
 obtain ⟨u,w',rfl,⟨t,rfl⟩,⟨t',rfl⟩⟩:=vg r
 refine min_two_ints (I.ok.hd hc) fun h' tk k=>⟨_,H,I.kept k,?_,q⟩
 by_cases hj:j<i
 ·rw [if_pos hj,if_pos hj];exact ⟨_,rfl⟩
 ·rw [if_neg hj,if_neg hj];exact ⟨_,rfl⟩
theorem ui:fe X (.type "int") (fun xs H Q=>(∃i,xs=[.int i]∧Q (.int i) H)∨∃k,xs=[.bl k]∧Q (.int (if k then 1 else 0)) H):=by
 intro pins s σ H xs us Q I r h
 rcases h with ⟨i,rfl,q⟩ | ⟨k,rfl,q⟩
 ·obtain ⟨u,rfl,t,rfl⟩:=qz r
  exact call_int_int ⟨.int i,H,I,⟨_,rfl⟩,q⟩
 ·obtain ⟨u,rfl,r1⟩:=qz r
  cases r1
  exact call_int_bool ⟨.int (if k then 1 else 0),H,I.tok _,⟨_,rfl⟩,q⟩
end
end L2
namespace L2
open PySem PySem.Spec PyProof.Rows
structure Ap (h:Heap) (x dx C:Addr) (mA:Str→Option Value):Prop where
 obj:h.get? x=some (PySem.W.instObj C dx)
 ns:h.Ns1 dx mA
 ne:dx≠x
theorem uG {h:Heap}{dx:Addr}{mA:Str→Option Value} (n:h.Ns1 dx mA):∃od,h.get? dx=some od∧∀name,PySem.W.lookIn name od=some (mA name):=by
 obtain ⟨o,es,ep,ho,hd,hk,_,hm⟩:=n
 refine ⟨o,ho,fun name=>?_⟩
 have e:=hm name
 unfold nsFind findBy at e
 rw [←Array.find?_toList] at e
 unfold PySem.W.lookIn
 rw [hd]
 dsimp only
 split
 ·rename_i y q
  rw [q] at e
  exact congrArg some e
 ·rename_i q
  rw [q] at e
  have a:es.toList.any (·.refKey)=false:=by
   rw [List.any_eq_false]
   intro y hy
   obtain ⟨z,t,hkey⟩:=hk y (Array.mem_toList_iff.mp hy)
   simp [DictEntry.refKey,hkey]
  have a':¬es.toList.any (·.refKey)=true:=by rw [a];exact Bool.false_ne_true
  rw [if_neg a']
  exact congrArg some e
theorem Ap.look {h:Heap}{x dx C:Addr}{mA:Str→Option Value} (I:Ap h x dx C mA):∃od,PySem.W.InstAt h x (PySem.W.instObj C dx) C (some od)∧∀name,PySem.W.lookIn name od=some (mA name):=
 let ⟨od,ho,hl⟩:=uG I.ns
 ⟨od,⟨I.obj,rfl,rfl,ho⟩,hl⟩
section
variable {prog:Program}{w:World}{A:Around}{E:Value→Shared→Prop}{s:Shared}{K:PySem.W.Frag}{x dx C f:Addr}{mA:Str→Option Value}{name:Str}{v:Value}
end
theorem qi.some_of {v:V}{o:Option Value} (r:qi (some v) o):∃u,o=some u∧bc v u:=by
 cases o with
 | none=>exact (show False from r).elim
 | some u=>exact ⟨u,rfl,r⟩
theorem zc {v:V}{u:Value} (r:bc v u):PySem.W.handedIn u=true:=by
 cases v with
 | non=>cases (show u=Value.none from r);rfl
 | bl b=>cases (show u=Value.bool b from r);rfl
 | int i=>obtain ⟨t,e⟩:=(show ∃t,u=Value.int i t from r);cases e;rfl
 | str x=>obtain ⟨t,e⟩:=(show ∃t,u=Value.str x t from r);cases e;rfl
 | byt b=>obtain ⟨t,e⟩:=(show ∃t,u=Value.bytes b t from r);cases e;rfl
 | flt b=>obtain ⟨t,e⟩:=(show ∃t,u=Value.float b t from r);cases e;rfl
 | ref a=>cases (show u=Value.ref a from r);rfl
 | ty n=>cases (show u=Value.type n from r);rfl
section
variable {P:Program}{w:World}{H H':Hp}{h h':Heap}{a C dx:Addr}{fs fs':List (Str×V)}
theorem BQ (hok:dJ P w H h) (e:H a=some (.ins C dx fs)):∃mA,Ap h a dx C mA∧(∀f,qi (fs.lookup f) (mA f))∧PySem.Within mA (fs.map (·.1))∧fs.length≤1000∧H dx=some (.own a):=by
 obtain ⟨d,z,ne,ob,mA,n,r,q⟩:=(show bo P w H h a (.ins C dx fs) from hok a _ e)
 exact ⟨mA,⟨ob,n,ne⟩,r,q,z,d⟩
end
structure DN (K:PySem.W.Frag) (C:Addr):Prop where
 pg:PySem.W.plainGet K C Str.empty=true
 hd:PySem.W.hasDictIn K C=true
 po:PySem.W.plainOver K C=true
 sa:PySem.W.findIn K (.ref C) "__setattr__" = some (some (.builtin "object.__setattr__"))
theorem DN.get {K:PySem.W.Frag}{C:Addr} (c:DN K C) (f:Str):PySem.W.plainGet K C f=true:=c.pg
section
variable {X:Cx}{pins:List (Addr×Obj)}{σ:St}{H:Hp}{s:Shared}{a C dx:Addr}{fs:List (Str×V)}{f:Str}{v:V}{A:Around}{E:Value→Shared→Prop}
theorem Cr {prog:Program}{w:World}{env:Env}{e:Expr}{f:Str}{pos:Pos}{s:Shared}{Q:Value→Shared→Prop} (hb:attributeBase e f env (eval e env)=eval e env)
 (h:wpAny (model prog w) A (eval e env) (fun o s₁=>wpAny (model prog w) A (getAttr o f true) Q E s₁) E s):wpAny (model prog w) A (eval (.Attribute e f pos) env) Q E s:=
 Attribute_any_ h (by rw [arm_eval_Attribute,hb])
end
section
variable {X:Cx}{o e value:Expr}{f:Str}{pos pos' tpos:Pos}{ta tv:TE}
end
section
variable {X:Cx}{pins:List (Addr×Obj)}{σ:St}{H:Hp}{s:Shared}{A:Around}{E:Value→Shared→Prop}{Q:Value→Shared→Prop}{c:Value}{b:Bool}
inductive iV (K:PySem.W.Frag) (H:Hp):V→Value→Prop where
 | non:iV K H .non (.type "NoneType")
 | bl (x:Bool):iV K H (.bl x) (.type "bool")
 | int (i:Int):iV K H (.int i) (.type "int")
 | str (x:Str):iV K H (.str x) (.type "str")
 | flt (x:UInt64):iV K H (.flt x) (.type "float")
 | lst {a:Addr}{xs:List V} (e:H a=some (.lst xs)):iV K H (.ref a) (.type "list")
 | frz {a:Addr}{o:Obj}{xs:List V} (e:H a=some (.frz o (.lst xs))):iV K H (.ref a) (.type "list")
 | tup {a:Addr}{xs:List V} (e:H a=some (.tup xs)):iV K H (.ref a) (.type "tuple")
 | dK {a:Addr}{kvs:List (bp×V)} (e:H a=some (.dK kvs)):iV K H (.ref a) (.type "dict")
 | dT {a:Addr}{kvs:List (List bp×V)} (e:H a=some (.dT kvs)):iV K H (.ref a) (.type "dict")
 | ins {a C dx:Addr}{fs:List (Str×V)} (e:H a=some (.ins C dx fs)) (cl:DN K C) (ha:PySem.W.findIn K (.ref C) "__class__" = some (some (.builtin "object.__class__")))
  (hn:PySem.W.specialIn K (.builtin "object.__class__") "__get__" = some (some (.builtin "getset_descriptor.__get__"))) (htk:PySem.W.takesIn K (.builtin "object.__class__")=some true)
  (hm:PySem.W.mroIn K C (.type "object")=some true):iV K H (.ref a) (.ref C)
theorem yC {x:V}{u t:Value} (I:af X pins σ H s) (rx:bc x u) (ty:iV X.K H x t) (e:PySem.W.kitOne X.K t c=some b) (h:∀tk,Q (.bool b) { s with toks:=tk }) :
 wpAny (model X.prog X.w) A (call (.builtin "isinstance") [u,c]) Q E s:=by
 cases ty with
 | non=>cases (show u=Value.none from rx);exact PySem.W.kia_one PySem.W.kitx_none I.kIn True.intro e (fun z=>nomatch z) h
 | bl y=>cases (show u=Value.bool y from rx);exact PySem.W.kia_one PySem.W.kitx_bool I.kIn True.intro e (fun z=>nomatch z) h
 | int i=>obtain ⟨t,q⟩:=(show ∃t,u=Value.int i t from rx);cases q;exact PySem.W.kia_one PySem.W.kitx_int I.kIn True.intro e (fun z=>nomatch z) h
 | str y=>obtain ⟨t,q⟩:=(show ∃t,u=Value.str y t from rx);cases q;exact PySem.W.kia_one PySem.W.kitx_str I.kIn True.intro e (fun z=>nomatch z) h
 | flt y=>obtain ⟨t,q⟩:=(show ∃t,u=Value.float y t from rx);cases q;exact PySem.W.kia_one PySem.W.kitx_float I.kIn True.intro e (fun z=>nomatch z) h
 | @lst a xs ea=>
  cases (show u=Value.ref a from rx)
  obtain ⟨_,_,n,_,h1⟩:=(show bo X.prog X.w H s.heap a (.lst xs) from I.hok a _ ea)
  exact PySem.W.kia_one PySem.W.kitx_list I.kIn ⟨_,h1,rfl⟩ e (fun z=>nomatch z) h
 | @frz a ob xs ea=>
  cases (show u=Value.ref a from rx)
  obtain ⟨_,_,_,n,_,h1⟩:=(show bo X.prog X.w H s.heap a (.frz ob (.lst xs)) from I.hok a _ ea)
  exact PySem.W.kia_one PySem.W.kitx_list I.kIn ⟨_,h1,rfl⟩ e (fun z=>nomatch z) h
 | @tup a xs ea=>
  cases (show u=Value.ref a from rx)
  obtain ⟨_,_,_,p,_⟩:=(show bo X.prog X.w H s.heap a (.tup xs) from I.hok a _ ea)
  obtain ⟨o,h1,h2,_⟩:=p
  exact PySem.W.kia_one PySem.W.kitx_tuple I.kIn ⟨o,h1,h2⟩ e (fun z=>nomatch z) h
 | @dK a kvs ea=>
  cases (show u=Value.ref a from rx)
  obtain ⟨_,_,vs,_,p⟩:=(show bo X.prog X.w H s.heap a (.dK kvs) from I.hok a _ ea)
  obtain ⟨o,es,ep,h1,h2,_⟩:=p
  exact PySem.W.kia_one PySem.W.kitx_dict I.kIn ⟨o,h1,h2.1⟩ e (fun z=>nomatch z) h
 | @dT a kvs ea=>
  cases (show u=Value.ref a from rx)
  obtain ⟨_,_,xs,_,o,es,ep,h1,h2,_⟩:=(show bo X.prog X.w H s.heap a (.dT kvs) from I.hok a _ ea)
  exact PySem.W.kia_one PySem.W.kitx_dict I.kIn ⟨o,h1,h2.1⟩ e (fun z=>nomatch z) h
 | @ins a C dx fs ea cl ha hn htk hm=>
  cases (show u=Value.ref a from rx)
  obtain ⟨mA,O,_⟩:=BQ I.hok ea
  obtain ⟨od,J,_⟩:=O.look
  exact PySem.W.kia_one (PySem.W.kitx_own (cl.get _) cl.hd ha hn htk hm) I.kIn J e (fun z=>nomatch z) h
end
end L2
namespace L2
open PySem PySem.Spec PyProof.Rows
structure dC (k:Nat) (A:Around):Prop where
 hd:A.handled=none
 dp:A.depth+3*k+5<recursionLimit
 un:A.units+16*k+200<cLine
 gd:A.guards=some []
theorem dC.mono {j k:Nat}{A:Around} (r:dC k A) (h:j≤k):dC j A:=⟨r.hd,by have:=r.dp;trivial,by have:=r.un;trivial,r.gd⟩
theorem dC.deeper {k:Nat}{A:Around} (r:dC (k+1) A) (env:Env):dC k (A.deeper env):=
 ⟨r.hd,by have:=r.dp;show A.depth+1+3*k+5<_;trivial,by have:=r.un;show A.units+3+16*k+200<_;trivial,r.gd⟩
theorem yl {A:Around}{C:Addr}{us:List Value}{kw:List (Str×Value)}:(A.under (.builtin "type.__call__" ⟨.ref C :: us,kw⟩)).depth=A.depth+1:=by
 first | rfl | simp [Around.under,Code.weight,Code.isCreation,Code.isGuard,Code.isCaller,Code.frames,Code.isFrame,guardIds]
theorem yn {A:Around}{C:Addr}{us:List Value}{kw:List (Str×Value)}:(A.under (.builtin "type.__call__" ⟨.ref C :: us,kw⟩)).units=A.units+1:=by
 first | rfl | simp [Around.under,Code.cUnits,Code.frames,Code.isFrame]
theorem dC.make {k:Nat}{A:Around} (r:dC (k+1) A) (C:Addr) (us:List Value) (kw:List (Str×Value)):dC k (A.under (.builtin "type.__call__" ⟨.ref C :: us,kw⟩)):=
 ⟨r.hd,by have:=r.dp;rw [yl];trivial,by have:=r.un;rw [yn];trivial,r.gd⟩
theorem dC.depth {k:Nat}{A:Around} (r:dC k A):A.depth<recursionLimit:=by have:=r.dp;trivial
theorem dC.units {k:Nat}{A:Around} (r:dC k A):A.units+64<cLine:=by have:=r.un;trivial
def GB:TA:=fun _ H Q=>Q [] H
def Bg (ta:TE) (tr:TA):TA:=fun σ H Q=>ta σ H fun x H1=>tr σ H1 fun xs H2=>Q (x :: xs) H2
section
variable {X:Cx}{e:Expr}{es:List Expr}{te:TE}{t:TA}{pos:Pos}
theorem ac:PA X [] GB:=fun _ _ _ _ H Q I h=>Calls.spliced_nil ⟨[],H,I,.nil,h⟩
theorem dX (ha:PE X e te) (hr:PA X es t) (hs:starEach (e :: es) X.env=(false,eval e X.env) :: starEach es X.env:=by rfl):PA X (e :: es) (Bg te t):=by
 intro pos pins s σ H Q I h
 rw [hs]
 show wpAny _ _ (spliced ((false,eval e X.env) :: backTo pos (starEach es X.env))) _ _ s
 refine Calls.spliced_cons (aR (ha pins s σ H _ I h) fun u s1 ⟨x,H1,I1,r1,q1⟩=>?_)
 exact aR (hr pos pins s1 σ H1 _ I1 q1) fun us s2 ⟨xs,H2,I2,r2,q2⟩=>⟨x :: xs,H2,I2,.cons r1 r2,q2⟩
def GE (t:TA):TE:=fun σ H Q=>t σ H fun xs H1=>xs.length≤sizeLine∧∀p,H1 p=none→Q (.ref p) (aI H1 p (.lst xs))
theorem Dj (h:PA X es t):PE X (.List es pos) (GE t):=by
 intro pins s σ H Q I hq
 refine wpAny_List_spliced (aR (h pos pins s σ H _ I hq) fun us s1 ⟨xs,H1,I1,r,z,q⟩=>⟨by rw [←r.length];exact z,?_⟩)
 have hf:H1 s1.heap.objs.size=none:=I1.hok.fresh (Nat.le_refl _)
 refine ⟨.ref s1.heap.objs.size,aI H1 s1.heap.objs.size (.lst xs),I1.laid (t':=s1.toks) (fun b u e=>Heap.get?_push_of_some _ e) (Nat.le_refl _) ?_,rfl,q _ hf⟩
 exact ⟨z,us,0,r,Heap.get?_push_size _ rfl⟩
end
abbrev Sp:=List V→Hp→VK→XK→Prop
abbrev kW:=List Env→Hp→Shared→XK→Value→Shared→Prop
structure rM (P:Program) (w:World) (K:PySem.W.Frag) (mg:Str→Option Value) (base:Heap) (A:Around) (outer:List Env) (s:Shared) (H:Hp):Prop where
 frames:A.frames=some outer
 mod:Mod K mg base
 bs:∀b o,base.get? b=some o→s.heap.get? b=some o∧H b=none
 bsz:base.objs.size≤s.heap.objs.size
 funs:s.heap.FunFrames base outer
 frf:∀b∈gS outer,H b=none
 hok:dJ P w H s.heap
 bare:AllBare s.gens
def CE (outer:List Env) (P:Program) (w:World) (H:Hp) (s:Shared) (Q:VK) (u:Value) (s':Shared):Prop:=
 bz fun v H'=>s'.os=s.os∧AllBare s'.gens∧Un (gS outer) [] H H' s.heap s'.heap∧dJ P w H' s'.heap∧bc v u∧Q v H'
def CR (CX:kW) (outer:List Env) (P:Program) (w:World) (H:Hp) (s:Shared) (Q:VK) (E:XK) (r:Result) (s':Shared):Prop:=
 match r with
 | .ok (.ret u)=>CE outer P w H s Q u s'
 | .ok _=>False
 | .error e=>CX outer H s E e s'
structure bv (P:Program) (w:World) (K:PySem.W.Frag) (mg:Str→Option Value) (base:Heap) (CX:kW) (k:Nat) (f:Addr) (fd:FuncData) (ps:List Str) (sp:Sp):Prop where
 len:∀vs H Q E,sp vs H Q E→vs.length=ps.length
 run:∀(A:Around) (outer:List Env) (s:Shared) (H:Hp) (args:Args) (us:List Value) (vs:List V) (Q:VK) (E:XK),dC k A→rM P w K mg base A outer s H→BindsTo s fd args (ps.zip us)→aH vs us→sp vs H Q E→
  codeAny (model P w) A (.call (.ref f) args) (CR CX outer P w H s Q E) s
theorem bv.imp {P:Program}{w:World}{K:PySem.W.Frag}{mg:Str→Option Value}{base:Heap}{CX:kW}{k:Nat}{f:Addr}{fd:FuncData}{ps:List Str}{sp sp':Sp} (F:bv P w K mg base CX k f fd ps sp)
 (h:∀vs H Q E,sp' vs H Q E→sp vs H Q E):bv P w K mg base CX k f fd ps sp':=
 ⟨fun vs H Q E q=>F.len vs H Q E (h _ _ _ _ q),fun A outer s H args us vs Q E hr he hb hv hs=>F.run A outer s H args us vs Q E hr he hb hv (h _ _ _ _ hs)⟩
theorem rM.make {P:Program}{w:World}{K:PySem.W.Frag}{mg:Str→Option Value}{base:Heap}{A:Around}{outer:List Env}{s:Shared}{H:Hp} (e:rM P w K mg base A outer s H) (C:Addr) (us:List Value) (kw:List (Str×Value)) :
 rM P w K mg base (A.under (.builtin "type.__call__" ⟨.ref C :: us,kw⟩)) outer s H:=⟨by first | exact e.frames | (simpa [Around.under,Code.envs,Code.isFrame,pushEnvs] using e.frames),e.mod,e.bs,e.bsz,e.funs,e.frf,e.hok,e.bare⟩
section
variable {X:Cx}{pins:List (Addr×Obj)}{σ:St}{H:Hp}{s s':Shared}
theorem af.env0 (I:af X pins σ H s):rM X.prog X.w X.K X.mg X.base X.A X.stack s H:=
 ⟨I.ok.frames,I.ok.mod,I.bs,Nat.le_trans I.ok.bsz I.sz,I.stack,I.stkFree,I.hok,I.bare⟩
theorem af.after {Q:VK}{u:Value} (I:af X pins σ H s) (h:CE X.stack X.prog X.w H s Q u s'):EP X pins σ Q u s':=by
 obtain ⟨v,H',os,bare,un,hok,r,q⟩:=h
 obtain ⟨hh,g,d,t,os'⟩:=s'
 obtain rfl:os'=s.os:=os
 exact ⟨v,H',I.call (h':=hh) (g':=g) (d':=d) (t':=t) (ch:=[]) un hok bare (fun b z=>absurd z (by simp)),r,q⟩
end
def EY (sp:Sp) (dvs:List V) (E:XK) (t:TA):TE:=fun σ H Q=>t σ H fun vs H1=>sp (vs++dvs) H1 Q E
def kc (K:PySem.W.Frag) (fd:FuncData) (ps:List Str) (ds:List Value):Prop:=
 ∀(s:Shared) (us:List Value),K.In s.heap→(us++ds).length=ps.length→BindsTo s fd ⟨us,[]⟩ (ps.zip (us++ds))
theorem kc.all {K:PySem.W.Frag}{fd:FuncData}{ps:List Str} (h:∀us:List Value,us.length=ps.length→bindArgs fd ⟨us,[]⟩=pure (ps.zip us)):kc K fd ps []:=fun s us _ hl=>by
 rw [List.append_nil] at hl ⊢
 exact .of_eq (h us hl)
def qb (CX:kW) (X:Cx) (E:XK):Prop:=∀(pins:List (Addr×Obj)) (σ:St) (H:Hp) (s:Shared) (e:Value) (s':Shared),af X pins σ H s→CX X.stack H s E e s'→X.xe e s'
section
variable {X:Cx}{CX:kW}{k:Nat}{f C:Addr}{fd:FuncData}{ps:List Str}{sp:Sp}{dvs:List V}{ds:List Value}{E:XK}{x m:Str}{p pos apos:Pos}{e o:Expr}{es:List Expr}{ta:TE}{t:TA}
theorem Da {pins:List (Addr×Obj)}{σ:St}{H:Hp}{s:Shared}{Q:VK}{us:List Value}{vs:List V} (F:bv X.prog X.w X.K X.mg X.base CX k f fd ps sp) (hr:dC k X.A) (hb:kc X.K fd ps ds) (hd:aH dvs ds) (hx:qb CX X E)
 (I:af X pins σ H s) (r:aH vs us) (h:sp (vs++dvs) H Q E):wpAny (model X.prog X.w) X.A (call (.ref f) us) (EP X pins σ Q) X.xe s:=by
 have r2:aH (vs++dvs) (us++ds):=r.append hd
 have hl:(us++ds).length=ps.length:=by rw [←r2.length];exact F.len _ _ _ _ h
 refine wpAny_call (codeAny_mono (F.run X.A X.stack s H ⟨us,[]⟩ (us++ds) (vs++dvs) Q E hr I.env0 (hb s us I.kIn hl) r2 h) fun r s' hq=>?_)
 cases r with
 | error e=>exact hx pins σ H s e s' I hq
 | ok fl=>
  cases fl with
  | ret u=>exact I.after hq
  | next=>exact False.elim hq
  | brk=>exact False.elim hq
  | cont=>exact False.elim hq
theorem ap (F:bv X.prog X.w X.K X.mg X.base CX k f fd ps sp) (hr:dC k X.A) (hg:Gl X x) (hm:X.mg x=some (.ref f)) (hk:PySem.W.keepIn X.K (.ref f)=true) (hb:kc X.K fd ps ds) (hd:aH dvs ds) (hx:qb CX X E)
 (ha:PA X (e :: es) t) (hdb:(x==("__debug__" : Str))=false:=by decide) (he:starEach (e :: es) X.env=(false,eval e X.env) :: starEach es X.env:=by rfl) (hpl:(backTo pos (starEach es X.env)).any (·.1)=false:=by rfl) :
 PE X (.Call (.Name x p) (e :: es) [] pos) (EY sp dvs E t):=by
 intro pins s σ H Q I h
 refine wpAny_Call_Name_kw (nF I hg hm ?_ hdb)
 refine PySem.W.callWith_K (h₀:=X.base) I.ok.mod.kin hk (aR (ha pos pins s σ H _ I h) fun us s1 ⟨vs,H1,I1,r,q⟩=>⟨I1.kIn,?_⟩) he hpl
 exact Da F hr hb hd hx I1 r q
end
section
variable {X:Cx}{CX:kW}{k:Nat}{f C:Addr}{fd:FuncData}{ps ks:List Str}{sp:Sp}{E:XK}{x m:Str}{p pos apos kpos:Pos}{e o:Expr}{es:List Expr}{kws:List Keyword}{te ta:TE}{t tk:TA}{nm:Option Str}
variable {g:List Value→List Value→List Value}{gV:List V→List V→List V}
end
structure aS (N P:List Str) (sc:Scope):Prop where
 kind:sc.kind=.function
 co:sc.isCoroutine=false
 gen:sc.isGenerator=false
 nd:N.Nodup
 pre:N.take P.length=P
 par:∀x∈P,sc.names.lookup x=some .local∨sc.names.lookup x=some .cell
 nofree:∀y∈sc.names,y.2≠.free
theorem ux {kindOf:Str→Option NameKind}{x:Str}:∀{binds:List (Str×Value)}{m:Str→Option Value},(∀v,(x,v)∉binds)→bindL kindOf binds m x=m x
 | [],_,_=>rfl
 | (n,v) :: r,m,h=>by
  unfold bindL
  rw [ux fun w hw=>h w (List.mem_cons_of_mem _ hw)]
  split
  ·have:x≠n:=by rintro rfl;exact h v List.mem_cons_self
   simp [this]
  ·rfl
theorem uj {kindOf:Str→Option NameKind}{x:Str}:∀{binds:List (Str×Value)}{m:Str→Option Value},(∀v,(x,v)∉binds)→bindC kindOf binds m x=m x
 | [],_,_=>rfl
 | (n,v) :: r,m,h=>by
  unfold bindC
  rw [uj fun w hw=>h w (List.mem_cons_of_mem _ hw)]
  split
  ·rfl
  ·have:x≠n:=by rintro rfl;exact h v List.mem_cons_self
   simp [this]
theorem uH {kindOf:Str→Option NameKind}{x:Str}{v:Value}:∀{P:List Str}{vs:List Value}{i:Nat}{m:Str→Option Value},P.Nodup→P[i]?=some x→vs[i]?=some v→kindOf x=some .local→
 bindL kindOf (P.zip vs) m x=some v
 | [],_,_,_,_,h,_,_=>by simp at h
 | _ :: _,[],_,_,_,_,h,_=>by simp at h
 | p :: P,w :: vs,0,m,nd,h1,h2,hk=>by
  simp at h1 h2;subst h1;subst h2
  show bindL kindOf ((p,w) :: P.zip vs) m p=_
  unfold bindL
  rw [ux fun v hv=>(List.nodup_cons.mp nd).1 (List.of_mem_zip hv).1,if_pos hk]
  simp
 | p :: P,w :: vs,i+1,m,nd,h1,h2,hk=>by
  show bindL kindOf ((p,w) :: P.zip vs) m x=_
  unfold bindL
  exact uH (i:=i) (List.nodup_cons.mp nd).2 (by simpa using h1) (by simpa using h2) hk
theorem uJ {kindOf:Str→Option NameKind}{x:Str}{v:Value}:∀{P:List Str}{vs:List Value}{i:Nat}{m:Str→Option Value},P.Nodup→P[i]?=some x→vs[i]?=some v→kindOf x≠some .local→
 bindC kindOf (P.zip vs) m x=some v
 | [],_,_,_,_,h,_,_=>by simp at h
 | _ :: _,[],_,_,_,_,h,_=>by simp at h
 | p :: P,w :: vs,0,m,nd,h1,h2,hk=>by
  simp at h1 h2;subst h1;subst h2
  show bindC kindOf ((p,w) :: P.zip vs) m p=_
  unfold bindC
  rw [uj fun v hv=>(List.nodup_cons.mp nd).1 (List.of_mem_zip hv).1,if_neg hk]
  simp
 | p :: P,w :: vs,i+1,m,nd,h1,h2,hk=>by
  show bindC kindOf ((p,w) :: P.zip vs) m x=_
  unfold bindC
  exact uJ (i:=i) (List.nodup_cons.mp nd).2 (by simpa using h1) (by simpa using h2) hk
def lw (N:List Str) (vs:List V):St:=vs.map some++List.replicate (N.length - vs.length) none
def oK (CX:kW) (P:Program) (w:World) (K:PySem.W.Frag) (mg:Str→Option Value) (base:Heap) (N:List Str) (qual:Str) (scope:Scope) (f:Addr) (cd:Value) (A:Around) (outer:List Env) (s:Shared) (H:Hp) (E:XK):Cx where
 prog:=P
 w:=w
 K:=K
 mg:=mg
 base:=base
 A:=A.deeper (envOfC qual scope s.heap.objs.size f cd)
 N:=N
 s₀:=s
 H₀:=H
 env:=envOfC qual scope s.heap.objs.size f cd
 outer:=outer
 stack:=envOfC qual scope s.heap.objs.size f cd :: outer
 ex:=[]
 calm:=true
 fn:=fun _=>true
 pn:=[]
 xe:=fun e s'=>wpAny (model P w) (A.deeper (envOfC qual scope s.heap.objs.size f cd)) (leaving (envOfC qual scope s.heap.objs.size f cd) e) (fun _ s''=>CX outer H s E e s'') (fun e' s''=>CX outer H s E e' s'') s'
theorem vt {sc:Scope}{n:Nat}{x:Str} (h:sc.names.lookup x=some .cell):∃c,(cellsFrom n sc.names []).lookup x=some c:=by
 have q:=PySem.W.cellsFrom_some sc.names n [] (.inl h)
 exact Option.isSome_iff_exists.mp q
theorem zr {CX:kW}{P:Program}{w:World}{K:PySem.W.Frag}{mg:Str→Option Value}{base:Heap}{N ps:List Str}{qual:Str}{scope:Scope}{f:Addr}{cd:Value}{A:Around}{outer:List Env}{s s1:Shared}{H:Hp}{E:XK}{us:List Value}{vs:List V}
 (S:aS N ps scope) (hd:A.handled=none) (e0:rM P w K mg base A outer s H) (hl:vs.length=ps.length) (r:aH vs us)
 (x:InCallC s s.heap.objs.size (bindL (envOfC qual scope s.heap.objs.size f cd).kindOf (ps.zip us) fun _=>none) (cellsFrom (s.heap.objs.size+1) scope.names []) (bindC (envOfC qual scope s.heap.objs.size f cd).kindOf (ps.zip us) fun _=>none) s1) :
 af (oK CX P w K mg base N qual scope f cd A outer s H E) [] (lw N vs) H s1:=by
 have hpl:ps.length≤N.length:=by have:=congrArg List.length S.pre;rw [List.length_take] at this;trivial
 obtain ⟨h1,tk,rfl,hk⟩:=x.done
 have noA:∀b:Addr,b∉(oK CX P w K mg base N qual scope f cd A outer s H E).ex:=fun b z=>absurd (show b∈([]:List Addr) from z) (by simp)
 refine ⟨⟨e0.mod,S.kind,rfl,rfl,Nat.le_refl _,fun y z c h1 h2=>?_,fun y hy=>?_,fun y c _ h=>?_,fun _=>hd,Around.frames_deeper e0.frames,.inr ⟨rfl,rfl⟩,fun b z=>absurd z (noA b),e0.bs,e0.bsz,fun b _ _=>noA b,fun b z=>absurd z (noA b),e0.funs,e0.frf⟩,
  rfl,e0.bare,Un.kept hk,⟨_,x.toInCall.ns,fun i y v h1 h2 h3=>?_⟩,fun y c h=>⟨_,x.cell y c h⟩,e0.hok.fresh (Nat.le_refl _),fun y c h=>?_,fun p hp=>absurd (show p∈([]:List (Addr×Obj)) from hp) (by simp),e0.hok.kept hk,?_⟩
 ·exact name_of_addr x.apart (PySem.mem_of_lookup h1) (PySem.mem_of_lookup h2)
 ·have hy:scope.names.lookup y=some .cell∨scope.names.lookup y=some .free:=hy
  rcases hy with hy | hy
  ·exact vt hy
  ·exact absurd rfl (S.nofree _ (PySem.mem_of_lookup hy))
 ·exact Nat.le_of_lt (x.above y c (PySem.mem_of_lookup h))
 ·have hi:i<vs.length:=by
   unfold lw at h2
   by_cases hi:i<vs.length
   ·exact hi
   ·rw [List.getElem?_append_right (by simpa using hi)] at h2
    rw [List.getElem?_replicate] at h2
    split at h2 <;> cases h2
  have ha:vs[i]?=some v:=by
   unfold lw at h2
   rw [List.getElem?_append_left (by simpa using hi),List.getElem?_map] at h2
   cases e:vs[i]? with
   | none=>rw [e] at h2;cases h2
   | some a=>rw [e] at h2;cases h2;rfl
  obtain ⟨u,hu,rv⟩:=r.get ha
  have hp:ps[i]?=some y:=by
   rw [←S.pre,List.getElem?_take_of_lt (by trivial)];exact h1
  have ndP:ps.Nodup:=by rw [←S.pre];exact S.nd.sublist (List.take_sublist _ _)
  refine ⟨u,rv,?_⟩
  rcases S.par y (List.mem_of_getElem? hp) with k | k
  ·exact .inl ⟨k,uH ndP hp hu k⟩
  ·obtain ⟨c,e⟩:=vt (n:=s.heap.objs.size+1) k
   refine .inr ⟨.inl k,c,e,?_⟩
   have q:=x.cell y c e
   rw [uJ ndP hp hu (by show scope.names.lookup y≠_;rw [k];decide)] at q
   exact q
 ·exact e0.hok.fresh (Nat.le_of_lt (x.above y c (PySem.mem_of_lookup h)))
 ·unfold lw
  show _=N.length
  rw [List.length_append,List.length_map,List.length_replicate]
  trivial
theorem AU {CX:kW}{P:Program}{w:World}{K:PySem.W.Frag}{mg:Str→Option Value}{base:Heap}{k:Nat}{f:Addr}{name qual:Str}{params:Arguments}{body:List Stmt}{scope:Scope}{dV kV doc pm cdv ct oc:Value}{an od:Option Addr}
 {osl:Array (Option Value)}{N ps:List Str}{sp:Sp} (lk:K.lookup f=some ⟨oc,od,.func (PySem.W.fnOf name qual params body scope dV kV doc pm an cdv ct),osl⟩) (hcd:PySem.W.codeIn K cdv qual=true) (S:aS N ps scope)
 (len:∀vs H Q E,sp vs H Q E→vs.length=ps.length)
 (hbody:∀(A:Around) (outer:List Env) (s:Shared) (H:Hp) (vs:List V) (Q:VK) (E:XK),dC k (A.deeper (envOfC qual scope s.heap.objs.size f cdv))→sp vs H Q E→
  ∃t,kX (oK CX P w K mg base N qual scope f cdv A outer s H E) body t∧t { nx:=fun _ H'=>Q .non H',rt:=Q } (lw N vs) H) :
 bv P w K mg base CX (k+1) f (PySem.W.fnOf name qual params body scope dV kV doc pm an cdv ct) ps sp:=by
 refine ⟨len,fun A outer s H args us vs Q E hr e0 hb r hsp=>?_⟩
 have hl:=len _ _ _ _ hsp
 have KX:K.In s.heap:=e0.mod.kin.keeps fun b o e=>(e0.bs b o e).1
 have lim:s.heap.NoLimit:=e0.mod.nolimit.keeps fun b o e=>(e0.bs b o e).1
 have hkind:∀y∈ps.zip us,scope.names.lookup y.1=some .local∨(scope.names.lookup y.1=some .cell∧((cellsFrom (s.heap.objs.size+1) scope.names []).lookup y.1).isSome=true):=fun ⟨n,v⟩ hy=>by
  rcases S.par n (List.of_mem_zip hy).1 with q | q
  ·exact .inl q
  ·exact .inr ⟨q,PySem.W.cellsFrom_some _ _ _ (.inl q)⟩
 refine codeAny_call_function hr.depth (KX _ _ lk) rfl S.co S.gen rfl (PySem.W.codeRec_of KX hcd) (hb _ _ _ _ ?_)
 refine wpAny_newFunctionEnv_cells S.kind hkind fun env he s1 x=>?_
 subst he
 refine ⟨lim.keeps x.toInCall.keep,codeAny_func ?_⟩
 obtain ⟨t,ht,hq⟩:=hbody A outer s H vs Q E (hr.deeper _) hsp
 have I:af (oK CX P w K mg base N qual scope f cdv A outer s H E) [] (lw N vs) H s1:=zr S hr.hd e0 hl r x
 refine wpAny_mono (ht [] s1 (lw N vs) H _ I hq) (fun fl s' hs=>?_) fun e s' hs=>hs
 have fin:∀{σ':St}{H':Hp}{v:V}{u:Value},af (oK CX P w K mg base N qual scope f cdv A outer s H E) [] σ' H' s'→bc v u→Q v H'→CE outer P w H s Q u s':=
  fun {σ' H' v u} J rv q=>⟨v,H',J.os,J.bare,J.base,J.hok,rv,q⟩
 cases fl with
 | ret u=>
  obtain ⟨v,σ',H',J,rv,q⟩:=hs
  exact fin J rv q
 | next=>
  obtain ⟨σ',H',J,q⟩:=hs
  exact fin (v:=V.non) (u:=Value.none) J rfl q
 | brk=>
  obtain ⟨_,_,_,q⟩:=hs
  exact False.elim q
 | cont=>
  obtain ⟨_,_,_,q⟩:=hs
  exact False.elim q
end L2
namespace L2
open PySem PySem.Spec PyProof.Rows
section
variable {X:Cx}{x:Str}{p pos:Pos}{e:Expr}{es:List Expr}{t:TA}{id T:String}{r:List V→Hp→VK→Prop}
def Gi (r:List V→Hp→VK→Prop) (t:TA):TE:=fun σ H Q=>t σ H fun vs H1=>r vs H1 Q
theorem be (hc:fe X (.builtin id) r) (hg:Gl X x) (hm:X.mg x=none) (hv:bootBuiltins x=some (.builtin id)) (ha:PA X (e :: es) t) (hn:x≠"__name__" := by decide) (hdb:(x==("__debug__" : Str))=false:=by decide)
 (he:starEach (e :: es) X.env=(false,eval e X.env) :: starEach es X.env:=by rfl) (hpl:(backTo pos (starEach es X.env)).any (·.1)=false:=by rfl):PE X (.Call (.Name x p) (e :: es) [] pos) (Gi r t):=by
 intro pins s σ H Q I h
 refine wpAny_Call_Name_kw (gZ I hg hm hv ?_ hn hdb)
 exact PyProof.Rows.callWith_builtin1 (aR (ha pos pins s σ H _ I h) fun us s1 ⟨vs,H1,I1,r1,q1⟩=>hc pins s1 σ H1 vs us Q I1 r1 q1) he hpl
theorem dQ (hc:fe X (.type T) r) (hg:Gl X x) (hm:X.mg x=none) (hv:bootBuiltins x=some (.type T)) (ha:PA X (e :: es) t) (hn:x≠"__name__" := by decide) (hdb:(x==("__debug__" : Str))=false:=by decide)
 (he:starEach (e :: es) X.env=(false,eval e X.env) :: starEach es X.env:=by rfl) (hpl:(backTo pos (starEach es X.env)).any (·.1)=false:=by rfl):PE X (.Call (.Name x p) (e :: es) [] pos) (Gi r t):=by
 intro pins s σ H Q I h
 refine wpAny_Call_Name_kw (gZ I hg hm hv ?_ hn hdb)
 exact PyProof.Rows.callWith_type1 (aR (ha pos pins s σ H _ I h) fun us s1 ⟨vs,H1,I1,r1,q1⟩=>hc pins s1 σ H1 vs us Q I1 r1 q1) he hpl
end
end L2
namespace HT
open PySem PyProof.Rows
section
open PySem.SeqAt
open PySem.AutoSeq1 (wpAny_loadPart')
open PySem.MeetsSeq PySem.MeetsSeq2 PySem.MeetsSeq3
end
section
variable {prog:Program}{w:World}{A:Around}{E:Value→Shared→Prop}{s:Shared}
theorem cat_tup {t b:Addr}{vs ws:List Value}{Q:Value→Shared→Prop} (ht:IsTup s.heap t vs.toArray) (hb:IsTup s.heap b ws.toArray) (hv:vs≠[])
 (h1:ws=[]→Q (.ref t) s) (h2:ws≠[]→Q (.ref s.heap.objs.size) { s with heap:=s.heap.push { cls:=.type "tuple",data:=.seq (vs++ws).toArray } })
 (hsz:vs.length+ws.length≤sizeLine):wpAny (model prog w) A (binaryOp .Add (.ref t) (.ref b)) Q E s:=by
 obtain ⟨⟨cls,dd,data,sl⟩,ho,hc,n,hd⟩:=id ht
 obtain ⟨⟨cls2,dd2,data2,sl2⟩,ho2,hc2,n2,hd2⟩:=id hb
 simp only at hc hd hc2 hd2
 subst hc hd hc2 hd2
 have e:vs.toArray++ws.toArray=(vs++ws).toArray:=by simp
 by_cases hw:ws=[]
 ·exact concat_meets ⟨_,ho,rfl⟩ ⟨_,ho2,rfl⟩ noFill_tuple_add seq_tuple_add PySem.F.slot_tuple_add PySem.F.entry_tuple_add (PySem.F.args_tuple_add_2 _ _)
   (tuple_addW1 t b vs.toArray ws.toArray n n2 dd dd2 sl sl2 (by simpa using hv) (by simp [hw])) ⟨ho,ho2,h1 hw⟩
 ·refine concat_meets ⟨_,ho,rfl⟩ ⟨_,ho2,rfl⟩ noFill_tuple_add seq_tuple_add PySem.F.slot_tuple_add PySem.F.entry_tuple_add (PySem.F.args_tuple_add_2 _ _)
   (tuple_addW2 t b vs.toArray ws.toArray n n2 dd dd2 sl sl2 (by simpa using hv) (by simpa using hw) (by rw [List.size_toArray,List.size_toArray];exact hsz)) ⟨ho,ho2,?_⟩
  rw [e]
  exact h2 hw
def sIx (n d:Nat):Option Int→Nat
 | none=>d
 | some v=>if v<0 then (v+(n:Int)).toNat else min v.toNat n
theorem sIx_none (n d:Nat):sIx n d none=d:=rfl
theorem sIx_nat (n d k:Nat):sIx n d (some (k:Int))=min k n:=by
 show (if (k:Int)<0 then ((k:Int)+(n:Int)).toNat else min (k:Int).toNat n)=min k n
 rw [if_neg (by trivial),Int.toNat_natCast]
theorem C0 (n d:Nat) (hd:d≤n) (o:Option Int):sIx n d o≤n:=by
 cases o with
 | none=>exact hd
 | some v=>
  show (if v<0 then (v+(n:Int)).toNat else min v.toNat n)≤n
  by_cases hv:v<0
  ·rw [if_pos hv];trivial
  ·rw [if_neg hv];exact Nat.min_le_right _ _
theorem xq (v:Int) (n d:Nat):(if v<0 then max (v+(n:Int)) 0 else min v (n:Int))=((sIx n d (some v):Nat):Int):=by
 show (if v<0 then max (v+(n:Int)) 0 else min v (n:Int))=(((if v<0 then (v+(n:Int)).toNat else min v.toNat n):Nat):Int)
 by_cases hv:v<0
 ·simp only [if_pos hv];trivial
 ·simp only [if_neg hv];trivial
theorem xM (lo hi:Option Int) (n:Nat):Builtin.Slice.sliceAdjust lo hi 1 (n:Int)=(((sIx n 0 lo:Nat):Int),((sIx n n hi:Nat):Int)):=by
 have h1:¬((1:Int)<0):=by trivial
 unfold Builtin.Slice.sliceAdjust
 simp only [h1,if_false]
 refine Prod.ext ?_ ?_
 ·cases lo with
  | none=>rfl
  | some v=>exact xq v n 0
 ·cases hi with
  | none=>rfl
  | some v=>exact xq v n n
theorem xP (i j:Nat):Builtin.Slice.slicePlaces (i:Int) (j:Int) 1=j - i:=by
 unfold Builtin.Slice.slicePlaces
 have h1:(1:Int) > 0:=by trivial
 simp only [h1,if_true,Int.ediv_one]
 split <;> trivial
theorem o8 {v:Value}{o:Option Int}{Q:Option Int→Shared→Prop} (p:IsPart v o) (h:Q o s):wpAny (model prog w) A (Builtin.Slice.slicePartIndex v) Q E s:=by
 cases p with
 | none=>exact slicePart_none h
 | int i t=>exact slicePart_int h
theorem lZ {sl:Addr}{vl vu:Value}{lo hi:Option Int}{n:Nat}{Q:Int×Int×Nat→Shared→Prop} (hs:s.heap.IsSliceOf sl vl vu .none) (pl:IsPart vl lo) (pu:IsPart vu hi)
 (h:Q (((sIx n 0 lo:Nat):Int),1,sIx n n hi - sIx n 0 lo) s):wpAny (model prog w) A (Builtin.Slice.sliceApplied (.ref sl) (pure (n:Int))) Q E s:=by
 obtain ⟨os,hos,hcs,hds⟩:=id hs
 unfold Builtin.Slice.sliceApplied Builtin.Slice.sliceFields
 refine wpAny_bind (wpAny_bind (wpAny_field hos hds (x:=vl) rfl (wpAny_bind (wpAny_field hos hds (x:=vu) rfl (wpAny_bind (wpAny_field hos hds (x:=.none) rfl (wpAny_pure ?_)))))))
 refine wpAny_bind (slicePart_none ?_)
 show wpAny _ _ (if ((1:Int)==0)=true then _ else _) _ _ s
 rw [if_neg (by decide)]
 refine wpAny_bind (o8 pl (wpAny_bind (o8 pu (wpAny_bind (wpAny_pure ?_)))))
 show wpAny _ _ (match Builtin.Slice.sliceAdjust lo hi 1 (n:Int) with | (lo,hi)=>pure (lo,(1:Int),Builtin.Slice.slicePlaces lo hi 1)) _ _ s
 rw [xM lo hi n]
 show wpAny _ _ (pure (((sIx n 0 lo:Nat):Int),(1:Int),Builtin.Slice.slicePlaces ((sIx n 0 lo:Nat):Int) ((sIx n n hi:Nat):Int) 1)) _ _ s
 rw [xP]
 exact wpAny_pure h
theorem Av (xs:Array Value) (i k:Nat):((List.range k).filterMap fun (m:Nat)=>xs[((i:Int)+(m:Int)*1).toNat]?).toArray=((xs.toList.drop i).take k).toArray:=by
 have e:(fun (m:Nat)=>xs[((i:Int)+(m:Int)*1).toNat]?)=fun m=>xs[i+m]?:=by
  funext m
  have:((i:Int)+(m:Int)*1).toNat=i+m:=by trivial
  rw [this]
 rw [e]
 have:=pick_run xs i k
 rw [List.filterMap_map] at this
 have e2:((fun x=>xs[x]?) ∘ fun x=>i+x)=fun m=>xs[i+m]?:=rfl
 rw [e2] at this
 rw [this]
theorem getItem_tuple_cut {t sl:Addr}{items:Array Value}{vl vu:Value}{lo hi:Option Int}{Q:Value→Shared→Prop} (ht:IsTup s.heap t items) (hs:s.heap.IsSliceOf sl vl vu .none) (pl:IsPart vl lo) (pu:IsPart vu hi)
 (hw:¬(sIx items.size 0 lo=0∧sIx items.size items.size hi=items.size))
 (h:Q (.ref s.heap.objs.size) { s with heap:=s.heap.push { cls:=.type "tuple",data:=.seq ((items.toList.drop (sIx items.size 0 lo)).take (sIx items.size items.size hi - sIx items.size 0 lo)).toArray } })
 (hsz:items.size≤sizeLine):wpAny (model prog w) A (getItem (.ref t) (.ref sl)) Q E s:=by
 have htake:sizeOk (.seq ((items.toList.drop (sIx items.size 0 lo)).take (sIx items.size items.size hi - sIx items.size 0 lo)).toArray):=by
  show ((items.toList.drop (sIx items.size 0 lo)).take (sIx items.size items.size hi - sIx items.size 0 lo)).toArray.size≤sizeLine
  rw [List.size_toArray,List.length_take,List.length_drop,Array.length_toList]
  exact Nat.le_trans (Nat.min_le_right ..) (Nat.le_trans (Nat.sub_le ..) hsz)
 have hj:sIx items.size items.size hi≤items.size:=C0 _ _ (Nat.le_refl _) hi
 obtain ⟨os,hos,hcs,hds⟩:=id hs
 have hTs:s.TypeIs (.ref sl) "slice" := ⟨os,hos,hcs⟩
 unfold getItem
 try with_reducible refine wpAny_holding ?_
 first | refine wpAny_bind (wpAny_pure ?_) | skip
 refine wpAny_bind (wpAny_sequenceKey ht.typeIs (by decide) ?_)
 refine wpAny_bind (wpAny_callSpecial?_slot (name:=Str.ofString "__getitem__") ht.typeIs PyProof.Rows.slot_tuple_getitem
  (wpAny_call_entry PyProof.Rows.slot_tuple_getitem ht.typeIs entry_tuple_getitem ?_ (args_tuple_getitem _ _)))
 show wpAny _ _ (Builtin.Tuple.tupleItemsOf (.ref t) >>= _) _ _ s
 refine wpAny_bind (tupleItemsOf_ ht ?_)
 refine wpAny_bind (wpAny_typeOf hTs ?_)
 rw [if_pos (by decide)]
 refine wpAny_bind (lZ hs pl pu ?_)
 have hno:¬((((sIx items.size 0 lo:Nat):Int)==0 && (1:Int)==1 && (sIx items.size items.size hi - sIx items.size 0 lo)==items.size)=true):=by
  intro q
  rw [Bool.and_eq_true,Bool.and_eq_true] at q
  have q1:((sIx items.size 0 lo:Nat):Int)=0:=eq_of_beq q.1.1
  have q2:sIx items.size items.size hi - sIx items.size 0 lo=items.size:=eq_of_beq q.2
  exact hw ⟨by trivial,by trivial⟩
 show wpAny _ _ (if (((sIx items.size 0 lo:Nat):Int)==0 && (1:Int)==1 && (sIx items.size items.size hi - sIx items.size 0 lo)==items.size)=true then _ else _) _ _ s
 rw [if_neg hno,Av]
 first
  | exact wpAny_bind (m:=Builtin.Tuple.tupleExact _) (wpAny_newObj_type (wpAny_pure ⟨_,rfl,wpAny_pure h⟩) htake)
  | exact wpAny_bind (m:=Builtin.Tuple.tupleExact _) (wpAny_newObj_type (wpAny_bind (wpAny_pure (wpAny_pure ⟨_,rfl,wpAny_pure h⟩))) htake)
  | exact wpAny_bind (wpAny_bind (m:=Builtin.Tuple.tupleExact _) (wpAny_newObj_type (wpAny_pure (wpAny_pure ⟨_,rfl,wpAny_pure h⟩)) htake))
  | exact wpAny_bind (wpAny_bind (m:=Builtin.Tuple.tupleExact _) (wpAny_newObj_type (wpAny_pure ⟨_,rfl,wpAny_pure h⟩) htake))
end
end HT
namespace L2
open PySem PySem.Spec PyProof.Rows
abbrev TO:=St→Hp→(Option Int→Hp→Prop)→Prop
def PO (X:Cx) (e:Option Expr) (t:TO):Prop:=
 ∀(pins:List (Addr×Obj)) (s:Shared) (σ:St) (H:Hp) (Q:Option Int→Hp→Prop),af X pins σ H s→t σ H Q→
   wpAny (model X.prog X.w) X.A (evalPart e X.env) (fun u s'=>bz fun o H'=>af X pins σ H' s'∧IsPart u o∧Q o H') X.xe s
def Ce:TO:=fun _ H Q=>Q none H
def Fy (t:TE):TO:=fun σ H Q=>t σ H fun x H1=>EM x fun i=>Q (some i) H1
section
variable {X:Cx}{e:Expr}{te:TE}{lo hi:Option Expr}{tl th:TO}{pos p2:Pos}
theorem i5:PO X none Ce:=by
 intro pins s σ H Q I h
 rw [evalPart_none]
 exact wpAny_pure ⟨none,H,I,.none,h⟩
theorem dU (h:PE X e te):PO X (some e) (Fy te):=by
 intro pins s σ H Q I hw
 rw [evalPart_some]
 refine aR (h pins s σ H _ I hw) fun u s1 ⟨x,H1,I1,r1,q1⟩=>?_
 obtain ⟨i,rfl,q⟩:=q1
 obtain ⟨t,rfl⟩:=r1
 exact ⟨some i,H1,I1,.int i t,q⟩
def yX (X:Cx) (r:V→Option Int→Option Int→Hp→VK→Prop):Prop:=
 ∀(pins:List (Addr×Obj)) (s:Shared) (σ:St) (H:Hp) (x:V) (v vl vu:Value) (lo hi:Option Int) (sl:Addr) (Q:VK),af X pins σ H s→bc x v→s.heap.IsSliceOf sl vl vu .none→IsPart vl lo→IsPart vu hi→r x lo hi H Q→
   bz fun T id=>typeLookup (.type T) "__getitem__" = pure (some (.builtin id))∧s.TypeIs v T∧wpAny (model X.prog X.w) X.A (getItem v (.ref sl)) (EP X pins σ Q) X.xe s
def G3 (r:V→Option Int→Option Int→Hp→VK→Prop) (te:TE) (tl th:TO):TE:=fun σ H Q=>te σ H fun x H1=>tl σ H1 fun l H2=>th σ H2 fun u H3=>r x l u H3 Q
theorem fk {r:V→Option Int→Option Int→Hp→VK→Prop} (hr:yX X r) (he:PE X e te) (hl:PO X lo tl) (hu:PO X hi th):PE X (.Subscript e (.Slice lo hi none p2) pos) (G3 r te tl th):=by
 intro pins s σ H Q I h
 refine Subscript_ (aR (he pins s σ H _ I h) fun v s1 ⟨x,H1,I1,r1,q1⟩=>?_)
 refine wpAny_Slice (aR (hl pins s1 σ H1 _ I1 q1) fun vl s2 ⟨l,H2,I2,pl,q2⟩=>aR (hu pins s2 σ H2 _ I2 q2) fun vu s3 ⟨u,H3,I3,pu,q3⟩=>?_)
 rw [evalPart_none]
 refine wpAny_pure ?_
 have I4:af X pins σ H3 { s3 with heap:=s3.heap.push { cls:=.type "slice",data:=.fields #[vl,vu,.none] } }:=I3.kept (t':=s3.toks) fun b ob q=>Heap.get?_push_of_some _ q
 obtain ⟨T,id,hT,ht,hg⟩:=hr pins { s3 with heap:=s3.heap.push { cls:=.type "slice",data:=.fields #[vl,vu,.none] } } σ H3 x v vl vu l u s3.heap.objs.size Q I4 r1 (Heap.IsSliceOf.new ..) pl pu q3
 show wpAny (model X.prog X.w) X.A (subscriptTail e (.Slice lo hi none p2) v (.ref s3.heap.objs.size)) (EP X pins σ Q) X.xe { s3 with heap:=s3.heap.push { cls:=.type "slice",data:=.fields #[vl,vu,.none] } }
 exact tail_any (ops:=[.ref s3.heap.objs.size,v]) ht hT hg (by with_unfolding_all rfl)
def dk (xs:List V) (lo hi:Option Int):List V:=(xs.drop (HT.sIx xs.length 0 lo)).take (HT.sIx xs.length xs.length hi - HT.sIx xs.length 0 lo)
theorem qX (xs:List V) (lo hi:Option Int):(dk xs lo hi).length≤xs.length:=by
 unfold dk
 rw [List.length_take,List.length_drop]
 exact Nat.le_trans (Nat.min_le_right ..) (Nat.sub_le ..)
inductive FL (K:PySem.W.Frag) (x:V) (lo:Option Int) (hi:Option Int) (H:Hp) (Q:VK):Prop
 | mk (a:_) (xs:_) (h0:x=.ref a) (h1:au K H a xs) (h2:¬(HT.sIx xs.length 0 lo=0∧HT.sIx xs.length xs.length hi=xs.length)) (h3:∀p,H p=none→Q (.ref p) (aI H p (.tup (dk xs lo hi))))
def Gp (K:PySem.W.Frag):V→Option Int→Option Int→Hp→VK→Prop:=fun x lo hi H Q=>FL K x lo hi H Q
theorem Ee:yX X (Gp X.K):=by
 intro pins s σ H x v vl vu lo hi sl Q I rx hs pl pu h
 obtain ⟨a,xs,rfl,hx,hw,q⟩:=h
 cases rx
 obtain ⟨its,r,ht,hz⟩:=I.tuple hx
 have hlen:its.toArray.size=xs.length:=by rw [List.size_toArray];exact r.length.symm
 refine ⟨"tuple",_,PyProof.Rows.slot_tuple_getitem.lookup,ht.typeIs,?_⟩
 refine HT.getItem_tuple_cut ht hs pl pu (by rw [hlen];exact hw) ?_ (by rw [hlen];exact hz)
 rw [hlen]
 refine ⟨.ref s.heap.objs.size,_,I.laid (t':=s.toks) (o:=.tup (dk xs lo hi)) (fun b ob q=>Heap.get?_push_of_some _ q) (Nat.le_refl _) ?_,rfl,q _ (I.hok.fresh (Nat.le_refl _))⟩
 exact ⟨Nat.le_trans (qX xs lo hi) hz,_,(r.drop (HT.sIx xs.length 0 lo)).take (HT.sIx xs.length xs.length hi - HT.sIx xs.length 0 lo),IsTup.new _ _,_,Heap.get?_push_size _ rfl,rfl⟩
inductive Ef (K:PySem.W.Frag) (x:V) (y:V) (H:Hp) (Q:VK):Prop
 | mk (a:_) (b:_) (xs:_) (ys:_) (h0:x=.ref a) (h1:y=.ref b) (h2:au K H a xs) (h3:au K H b ys) (h4:xs≠[]) (h5:xs.length+ys.length≤sizeLine) (h6:(ys=[]→Q (.ref a) H)) (h7:(ys≠[]→∀p,H p=none→Q (.ref p) (aI H p (.tup (xs++ys)))))
def E3 (K:PySem.W.Frag):R2:=fun x y H Q=>Ef K x y H Q
theorem aH.nil_iff {xs:List V}{us:List Value} (r:aH xs us):us=[]↔xs=[]:=by
 cases r with
 | nil=>simp
 | cons _ _=>simp
theorem By:cD X (binaryOp .Add) (E3 X.K):=by
 intro pins s σ H x y v u Q I rx ry h
 obtain ⟨a,b,xs,ys,rfl,rfl,ha,hb,hx,hz,q1,q2⟩:=h
 cases rx
 cases ry
 obtain ⟨its,r1,p1,_⟩:=I.tuple ha
 obtain ⟨its2,r2,p2,_⟩:=I.tuple hb
 refine HT.cat_tup p1 p2 (fun z=>hx (r1.nil_iff.mp z)) (fun z=>⟨.ref a,H,I,rfl,q1 (r2.nil_iff.mp z)⟩) (fun z=>?_) (by rw [←r1.length,←r2.length];exact hz)
 refine ⟨.ref s.heap.objs.size,_,I.laid (t':=s.toks) (o:=.tup (xs++ys)) (fun b ob q=>Heap.get?_push_of_some _ q) (Nat.le_refl _) ?_,rfl,q2 (fun w=>z (r2.nil_iff.mpr w)) _ (I.hok.fresh (Nat.le_refl _))⟩
 exact ⟨by rw [List.length_append];exact hz,_,r1.append r2,IsTup.new _ _,_,Heap.get?_push_size _ rfl,rfl⟩
end
end L2
namespace L2
open PySem PySem.Spec PyProof.Rows
def qc (n:Nat) (i:Int):Option Nat:=if 0≤i then (if i<n then some i.toNat else none) else if -(n:Int)≤i then some (i+n).toNat else none
def ma {α:Type} (xs:List α) (i:Int):Option α:=(qc xs.length i).bind fun j=>xs[j]?
theorem xc {n:Nat}{i:Int}{j:Nat} (h:qc n i=some j):seqIndex? i n=some j∧j<n∧-(n:Int)≤i∧i<n:=by
 unfold qc at h
 by_cases h0:0≤i
 ·rw [if_pos h0] at h
  by_cases h1:i<n
  ·rw [if_pos h1] at h
   have e:i.toNat=j:=Option.some.inj h
   exact ⟨by rw [seqIndex_of h0 h1,e],by trivial,by trivial,h1⟩
  ·rw [if_neg h1] at h;cases h
 ·rw [if_neg h0] at h
  by_cases h1:-(n:Int)≤i
  ·rw [if_pos h1] at h
   have e:(i+n).toNat=j:=Option.some.inj h
   exact ⟨by rw [seqIndex_neg (by trivial) h1,e],by trivial,h1,by trivial⟩
  ·rw [if_neg h1] at h;cases h
theorem tO {α:Type}{xs:List α}{i:Int}{v:α} (h:ma xs i=some v):∃j,seqIndex? i xs.length=some j∧xs[j]?=some v∧j<xs.length∧-(xs.length:Int)≤i∧i<xs.length:=by
 unfold ma at h
 cases e:qc xs.length i with
 | none=>rw [e] at h;cases h
 | some j=>
  rw [e] at h
  obtain ⟨h1,h2,h3,h4⟩:=xc e
  exact ⟨j,h1,h,h2,h3,h4⟩
theorem bH {α:Type}{xs:List α}{j:Nat}{v:α} (h:xs[j]?=some v):ma xs (j:Int)=some v:=by
 have hj:j<xs.length:=(List.getElem?_eq_some_iff.mp h).1
 have e:qc xs.length (j:Int)=some j:=by
  unfold qc
  rw [if_pos (by trivial),if_pos (by trivial)];simp
 unfold ma;rw [e];exact h
def Cb (b:Expr):Prop:=∀o i,subscripted b false o i=operate [o,i] (getItem o i)
def pf (X:Cx) (r:R2):Prop:=
 ∀(value slice:Expr) (pins:List (Addr×Obj)) (s:Shared) (σ:St) (H:Hp) (x y:V) (v u:Value) (Q:VK),af X pins σ H s→bc x v→bc y u→r x y H Q→
   subscripted slice false v u=operate [v,u] (getItem v u)→wpAny (model X.prog X.w) X.A (subscriptTail value slice v u) (EP X pins σ Q) X.xe s
def Bb (X:Cx) (id:String) (r:V→List V→Hp→VK→Prop):Prop:=
 ∀(pins:List (Addr×Obj)) (s:Shared) (σ:St) (H:Hp) (x:V) (xs:List V) (v:Value) (us:List Value) (Q:VK),af X pins σ H s→bc x v→aH xs us→r x xs H Q→
   wpAny (model X.prog X.w) X.A (call (.builtin id) (v :: us)) (EP X pins σ Q) X.xe s
section
variable {X:Cx}{a b:Expr}{ta tb:TE}{pos:Pos}
theorem pf.or {r r':R2} (h:pf X r) (h':pf X r'):pf X (fun x y H Q=>r x y H Q∨r' x y H Q):=by
 intro value slice pins s σ H x y v u Q I rx ry q hs
 rcases q with q | q
 ·exact h value slice pins s σ H x y v u Q I rx ry q hs
 ·exact h' value slice pins s σ H x y v u Q I rx ry q hs
theorem aq {r:R2} (hr:pf X r) (ha:PE X a ta) (hb:PE X b tb) (hs:Cb b):PE X (.Subscript a b pos) (Bc r ta tb):=by
 intro pins s σ H Q I h
 exact Subscript_ (zS ha hb I h fun v u s2 x y H2 I2 rx ry q=>hr a b pins s2 σ H2 x y v u Q I2 rx ry q (hs _ _))
inductive FD (K:PySem.W.Frag) (x:V) (y:V) (H:Hp) (Q:VK):Prop
 | mk (p:_) (xs:_) (i:_) (v:_) (h0:x=.ref p) (h1:y=.int i) (h2:aG K H p xs) (h3:ma xs i=some v) (h4:Q v H)
def AN (K:PySem.W.Frag):R2:=fun x y H Q=>FD K x y H Q
inductive Ff (K:PySem.W.Frag) (x:V) (y:V) (H:Hp) (Q:VK):Prop
 | mk (p:_) (xs:_) (i:_) (v:_) (h0:x=.ref p) (h1:y=.int i) (h2:au K H p xs) (h3:ma xs i=some v) (h4:Q v H)
def Aa (K:PySem.W.Frag):R2:=fun x y H Q=>Ff K x y H Q
inductive EW (x:V) (y:V) (H:Hp) (Q:VK):Prop
 | mk (z:_) (i:_) (c:_) (h0:x=.str z) (h1:y=.int i) (h2:z.length≤sizeLine) (h3:ma z.cps.toList i=some c) (h4:Q (.str ⟨#[c]⟩) H)
def Du:R2:=fun x y H Q=>EW  x y H Q
theorem xg:pf X (AN X.K):=by
 intro value slice pins s σ H x y v u Q I rx ry h hs
 obtain ⟨p,xs,i,z,rfl,rfl,hq,he,q⟩:=h
 cases rx
 obtain ⟨t,rfl⟩:=ry
 obtain ⟨its,r,pl,hz⟩:=I.list hq
 obtain ⟨j,h1,h2,h3,h4,h5⟩:=tO he
 obtain ⟨w,ew,rw'⟩:=r.get h2
 have hl:=r.length
 have hn:=p8
 have fin:EP X pins σ Q w s:=⟨z,H,I,rw',q⟩
 by_cases h0:0≤i
 ·have hj:i.toNat=j:=by
   rw [seqIndex_of h0 h5] at h1
   exact Option.some.inj h1
  exact item_listR pl.isList h0 (by trivial) (by rw [hj];simpa using ew) fin hs
 ·have hj:(i+(its.toArray.size:Int)).toNat=j:=by
   rw [seqIndex_neg (by trivial) h4] at h1
   rw [List.size_toArray,←hl]
   exact Option.some.inj h1
  exact subscriptTail_builtinR (x:=w) pl.isList.typeIs slot_list_getitem.lookup
   (wpAny_getItem_list_neg (Q:=fun r s'=>r=w∧EP X pins σ Q r s') pl.isList (by trivial) (by rw [List.size_toArray] <;> trivial) (by trivial) (by rw [hj];simpa using ew) ⟨rfl,fin⟩) hs
theorem yx:pf X (Aa X.K):=by
 intro value slice pins s σ H x y v u Q I rx ry h hs
 obtain ⟨p,xs,i,z,rfl,rfl,hq,he,q⟩:=h
 cases rx
 obtain ⟨t,rfl⟩:=ry
 obtain ⟨its,r,pl,hz⟩:=I.tuple hq
 obtain ⟨j,h1,h2,h3,h4,h5⟩:=tO he
 obtain ⟨w,ew,rw'⟩:=r.get h2
 have hl:=r.length
 have hn:=p8
 have fin:EP X pins σ Q w s:=⟨z,H,I,rw',q⟩
 exact subscriptTail_builtinR (x:=w) pl.typeIs slot_tuple_getitem.lookup
  (getItem_tuple (j:=j) (Q:=fun r s'=>r=w∧EP X pins σ Q r s') pl (by trivial) (by trivial) (by rw [List.size_toArray,←hl];exact h1) (by simpa using ew) ⟨rfl,fin⟩) hs
theorem vU:pf X Du:=by
 intro value slice pins s σ H x y v u Q I rx ry h hs
 obtain ⟨z,i,c,rfl,rfl,hz,he,q⟩:=h
 obtain ⟨t,rfl⟩:=rx
 obtain ⟨t',rfl⟩:=ry
 obtain ⟨j,h1,h2,h3,h4,h5⟩:=tO he
 have hl:z.cps.toList.length=z.length:=by simp [Str.length]
 rw [hl] at h1 h4 h5
 have hn:=p8
 exact tail_any (typeIs_str s z t) slot_str_getitem.lookup (getItem_str (c:=c) (by
  have e1:decide (i < -(2 ^ 63:Int))=false:=decide_eq_false (by trivial)
  have e2:decide (i≥2 ^ 63)=false:=decide_eq_false (by trivial)
  rw [e1,e2,Bool.or_false]) (by rw [h1];simpa using h2) ⟨.str ⟨#[c]⟩,H,I.tok _,⟨_,rfl⟩,q⟩) hs
def G6 (K:PySem.W.Frag):R2:=fun x y H Q=>AN K x y H Q∨Aa K x y H Q∨Du x y H Q
theorem kz:pf X (G6 X.K):=xg.or (yx.or vU)
theorem x9 (its:List Value) (n j:Nat) (u:Value):Obj.mapSeq (·.setIfInBounds j u) { cls:=.type "list",data:=.seq its.toArray n }={ cls:=.type "list",data:=.seq (its.set j u).toArray n }:=by
 simp [Obj.mapSeq]
theorem af.lst {pins:List (Addr×Obj)}{σ:St}{H:Hp}{s:Shared}{p:Addr}{xs:List V} (I:af X pins σ H s) (h:H p=some (.lst xs)) :
 bz fun (its:List Value) (n:Nat)=>aH xs its∧s.heap.get? p=some { cls:=.type "list",data:=.seq its.toArray n }∧xs.length≤sizeLine:=by
 obtain ⟨z,its,n,r,e⟩:=I.hok p _ h
 exact ⟨its,n,r,e,z⟩
theorem af.lstUpd {pins:List (Addr×Obj)}{σ:St}{H:Hp}{s:Shared}{p:Addr}{xs ys:List V}{its its':List Value}{n n':Nat}{f:Obj→Obj} (I:af X pins σ H s) (h:H p=some (.lst xs))
 (ho:s.heap.get? p=some { cls:=.type "list",data:=.seq its.toArray n }) (hf:f { cls:=.type "list",data:=.seq its.toArray n }={ cls:=.type "list",data:=.seq its'.toArray n' }) (r:aH ys its') (hz:ys.length≤sizeLine) (t:Nat) :
 af X pins σ (aI H p (.lst ys)) { s with heap:=s.heap.update p f,toks:=t }:=by
 have e:(s.heap.update p f).get? p=some { cls:=.type "list",data:=.seq its'.toArray n' }:=by
  rw [Heap.get?_update_self f ho (by rw [hf] <;> rfl),hf]
 refine I.write (x:=p) (e:=p) (by rw [h];trivial) (.inl rfl) (fun b u hb q=>(Heap.get?_update_other _ _ (Ne.symm hb)).trans q) ⟨_,e⟩ ?_
 exact ⟨hz,its',n',r,e⟩
inductive Dd (o:V) (i:V) (v:V) (H:Hp) (Q:(Hp→Prop)):Prop
 | mk (p:_) (xs:_) (k:_) (j:_) (h0:o=.ref p) (h1:i=.int k) (h2:H p=some (.lst xs)) (h3:qc xs.length k=some j) (h4:Q (aI H p (.lst (xs.set j v))))
def Fo:V→V→V→Hp→(Hp→Prop)→Prop:=fun o i v H Q=>Dd  o i v H Q
theorem so:xE X Fo:=by
 intro pins s σ H o i v ov iv u Q I ro ri rv h
 obtain ⟨p,xs,k,j,rfl,rfl,hp,hj,q⟩:=h
 cases ro
 obtain ⟨t,rfl⟩:=ri
 obtain ⟨its,n,r,ho,hz⟩:=I.lst hp
 obtain ⟨h1,h2,h3,h4⟩:=xc hj
 have hl:=r.length
 have hn:=p8
 have I':af X pins σ (aI H p (.lst (xs.set j v))) { s with heap:=s.heap.update p (Obj.mapSeq (·.setIfInBounds j u)) }:=
  I.lstUpd hp ho (x9 its n j u) (r.set rv j) (by rw [List.length_set];exact hz) s.toks
 by_cases h0:0≤k
 ·have hk:k.toNat=j:=by
   rw [seqIndex_of h0 h4] at h1
   exact Option.some.inj h1
  exact PySem.W.ki_setAt ho h0 (by trivial) (by rw [List.size_toArray,←hl];exact h4) (by rw [hk];exact ⟨_,I',q⟩)
 ·have hk:(k+(its.toArray.size:Int)).toNat=j:=by
   rw [seqIndex_neg (by trivial) h3] at h1
   rw [List.size_toArray,←hl]
   exact Option.some.inj h1
  exact PySem.W.ki_setBack ho (by trivial) (by rw [List.size_toArray,←hl];exact h3) (by trivial) (by rw [hk];exact ⟨_,I',q⟩)
theorem vF (lo hi:Option Int) (n:Nat):(sliceBounds lo hi none n).1=((HT.sIx n 0 lo:Nat):Int)∧(sliceBounds lo hi none n).2.1=((HT.sIx n n hi:Nat):Int)∧(sliceBounds lo hi none n).2.2=1:=by
 refine ⟨?_,?_,rfl⟩
 ·cases lo with
  | none=>simp [sliceBounds,HT.sIx]
  | some i=>
   simp only [sliceBounds,HT.sIx,Option.getD_none,show (1:Int) > 0 by decide,if_true]
   by_cases h:i<0
   ·simp only [h,if_true] <;> trivial
   ·simp only [h,if_false] <;> trivial
 ·cases hi with
  | none=>simp [sliceBounds,HT.sIx]
  | some i=>
   simp only [sliceBounds,HT.sIx,Option.getD_none,show (1:Int) > 0 by decide,if_true]
   by_cases h:i<0
   ·simp only [h,if_true] <;> trivial
   ·simp only [h,if_false] <;> trivial
theorem vc (its:List Value) (lo hi:Option Int):slicePick its.toArray lo hi none=((its.drop (HT.sIx its.length 0 lo)).take (HT.sIx its.length its.length hi - HT.sIx its.length 0 lo)).toArray:=by
 obtain ⟨h1,h2,h3⟩:=vF lo hi its.toArray.size
 unfold slicePick
 rw [h1,h2,h3]
 simp only [sliceRange_one,pick_run,List.size_toArray] <;> rfl
inductive Fz (K:PySem.W.Frag) (x:V) (lo:Option Int) (hi:Option Int) (H:Hp) (Q:VK):Prop
 | mk (a:_) (xs:_) (h0:x=.ref a) (h1:aG K H a xs) (h2:∀p,H p=none→Q (.ref p) (aI H p (.lst (dk xs lo hi))))
def Gm (K:PySem.W.Frag):V→Option Int→Option Int→Hp→VK→Prop:=fun x lo hi H Q=>Fz K x lo hi H Q
theorem Bm:yX X (Gm X.K):=by
 intro pins s σ H x v vl vu lo hi sl Q I rx hs pl pu h
 obtain ⟨a,xs,rfl,hx,q⟩:=h
 cases rx
 obtain ⟨its,r,ht,hz⟩:=I.list hx
 have hlen:=r.length
 refine ⟨"list",_,slot_list_getitem.lookup,ht.isList.typeIs,?_⟩
 refine wpAny_getItem_list_slice ht.isList hs pl pu .none (by simp) ?_ (by rw [List.size_toArray] <;> trivial)
 rw [vc,←hlen]
 refine ⟨.ref s.heap.objs.size,_,I.laid (t':=s.toks) (o:=.lst (dk xs lo hi)) (fun b ob q=>Heap.get?_push_of_some _ q) (Nat.le_refl _) ?_,rfl,q _ (I.hok.fresh (Nat.le_refl _))⟩
 exact ⟨Nat.le_trans (qX xs lo hi) hz,_,0,(r.drop (HT.sIx xs.length 0 lo)).take (HT.sIx xs.length xs.length hi - HT.sIx xs.length 0 lo),Heap.get?_push_size _ rfl⟩
def lp:V→Bool
 | .non=>true
 | .bl _=>true
 | .int _=>true
 | .str _=>true
 | _=>false
def qp:V→V→Bool
 | .non,.non=>true
 | .bl a,.bl b=>a==b
 | .bl a,.int b=>(if a then 1 else 0)==b
 | .int a,.bl b=>a==(if b then 1 else 0)
 | .int a,.int b=>a==b
 | .str a,.str b=>a==b
 | _,_=>false
theorem EF {A:Around}{s:Shared}{y x:V}{u v:Value} (ry:bc y u) (rx:bc x v) (fy:lp y=true) (fx:lp x=true):SeqAt.EqAt A s u v (qp y x):=by
 cases y with
 | non=>
  cases ry
  cases x with
  | non=>cases rx;exact SeqAt.EqAt.same _
  | bl b=>cases rx;exact SeqAt.EqAt.none_bool b
  | int b=>obtain ⟨t,rfl⟩:=rx;exact SeqAt.EqAt.none_int b t
  | str b=>obtain ⟨t,rfl⟩:=rx;exact SeqAt.EqAt.none_str b t
  | _=>exact absurd (show false=true from fx) Bool.false_ne_true
 | bl a=>
  cases ry
  cases x with
  | non=>cases rx;exact SeqAt.EqAt.bool_none a
  | bl b=>cases rx;exact SeqAt.EqAt.bool_bool a b
  | int b=>obtain ⟨t,rfl⟩:=rx;exact SeqAt.EqAt.bool_int a b t
  | str b=>obtain ⟨t,rfl⟩:=rx;exact SeqAt.EqAt.bool_str a b t
  | _=>exact absurd (show false=true from fx) Bool.false_ne_true
 | int a=>
  obtain ⟨t',rfl⟩:=ry
  cases x with
  | non=>cases rx;exact SeqAt.EqAt.int_none a t'
  | bl b=>cases rx;exact SeqAt.EqAt.int_bool a t' b
  | int b=>obtain ⟨t,rfl⟩:=rx;exact SeqAt.EqAt.int_int a t' b t
  | str b=>obtain ⟨t,rfl⟩:=rx;exact SeqAt.EqAt.int_str a t' b t
  | _=>exact absurd (show false=true from fx) Bool.false_ne_true
 | str a=>
  obtain ⟨t',rfl⟩:=ry
  cases x with
  | non=>cases rx;exact SeqAt.EqAt.str_none a t'
  | bl b=>cases rx;exact SeqAt.EqAt.str_bool a t' b
  | int b=>obtain ⟨t,rfl⟩:=rx;exact SeqAt.EqAt.str_int a t' b t
  | str b=>obtain ⟨t,rfl⟩:=rx;exact SeqAt.EqAt.str_str a t' b t
  | _=>exact absurd (show false=true from fx) Bool.false_ne_true
 | _=>exact absurd (show false=true from fy) Bool.false_ne_true
def sy (x:V) (u:Value):Bool:=match u with
 | .none=>qp .non x
 | .bool b=>qp (.bl b) x
 | .int i _=>qp (.int i) x
 | .str z _=>qp (.str z) x
 | _=>false
theorem yL {x y:V}{u:Value} (r:bc y u) (f:lp y=true):sy x u=qp y x:=by
 cases y with
 | non=>cases r;rfl
 | bl b=>cases r;rfl
 | int i=>obtain ⟨t,rfl⟩:=r;rfl
 | str z=>obtain ⟨t,rfl⟩:=r;rfl
 | _=>exact absurd (show false=true from f) Bool.false_ne_true
theorem tH {x:V}:∀{xs:List V}{us:List Value},aH xs us→xs.all lp=true→us.any (sy x)=xs.any fun y=>qp y x
 | _,_,.nil,_=>rfl
 | y :: xs,u :: us,.cons r t,f=>by
  rw [List.all_cons,Bool.and_eq_true] at f
  rw [List.any_cons,List.any_cons,yL r f.1,tH t f.2]
theorem rT {A:Around}{s:Shared}{x:V}{v:Value} (rx:bc x v) (fx:lp x=true):∀{xs:List V}{us:List Value},aH xs us→xs.all lp=true→∀u∈us,SeqAt.EqAt A s u v (sy x u)
 | _,_,.nil,_=>fun u hu=>by cases hu
 | y :: xs,u :: us,.cons r t,f=>fun u' hu=>by
  rw [List.all_cons,Bool.and_eq_true] at f
  rcases List.mem_cons.mp hu with rfl | hu
  ·rw [yL r f.1];exact EF r rx f.1 fx
  ·exact rT rx fx t f.2 u' hu
def ze (x:V) (xs:List V):Bool:=xs.any fun y=>qp y x
inductive Gs (K:PySem.W.Frag) (neg:Bool) (x:V) (y:V) (H:Hp) (Q:VK):Prop
 | mk (p:_) (xs:_) (h0:y=.ref p) (h1:(aG K H p xs∨au K H p xs)) (h2:lp x=true) (h3:xs.all lp=true) (h4:Q (.bl (if neg then !ze x xs else ze x xs)) H)
def Gh (K:PySem.W.Frag) (neg:Bool):R2:=fun x y H Q=>Gs K neg x y H Q
theorem wt:cD X (compareOp .NotIn) (Gh X.K true):=by
 intro pins s σ H x y v u Q I rx ry h
 obtain ⟨p,xs,rfl,hq,fx,fs,q⟩:=h
 cases ry
 rcases hq with hq | hq
 ·obtain ⟨its,r,pl,hz⟩:=I.list hq
  refine SeqAt.notIn_listAt (sy x) pl.isList (fun w hw=>rT rx fx r fs w (by simpa using hw)) ⟨.bl _,H,I,rfl,?_⟩
  rw [show its.toArray.any (sy x)=its.any (sy x) by simp,tH r fs]
  exact q
 ·obtain ⟨its,r,pl,hz⟩:=I.tuple hq
  refine SeqAt.notIn_tupleAt (sy x) pl (fun w hw=>rT rx fx r fs w (by simpa using hw)) ⟨.bl _,H,I,rfl,?_⟩
  rw [show its.toArray.any (sy x)=its.any (sy x) by simp,tH r fs]
  exact q
theorem pR:fe X (.builtin "len") (fun xs H Q=>bz fun p ys=>xs=[.ref p]∧(aG X.K H p ys∨au X.K H p ys)∧Q (.int ys.length) H):=by
 intro pins s σ H xs us Q I r h
 obtain ⟨p,ys,rfl,hq,q⟩:=h
 obtain ⟨u,rfl,rx⟩:=qz r
 cases rx
 have hn:=p8
 rcases hq with hq | hq
 ·obtain ⟨its,r',pl,hz⟩:=I.list hq
  have hlen:=r'.length
  exact Calls.call_len_list pl.isList (by simp only [List.size_toArray] <;> trivial) ⟨.int ys.length,H,I.tok _,⟨s.toks+1,by rw [List.size_toArray,hlen]⟩,q⟩
 ·obtain ⟨its,r',pl,hz⟩:=I.tuple hq
  have hlen:=r'.length
  exact len_tuple pl (by simp only [List.size_toArray] <;> trivial) ⟨.int ys.length,H,I.tok _,⟨s.toks+1,by rw [List.size_toArray,hlen]⟩,q⟩
theorem wc:fe X (.type "list") (fun xs H Q=>bz fun p ys=>xs=[.ref p]∧(aG X.K H p ys∨au X.K H p ys)∧∀l,H l=none→Q (.ref l) (aI H l (.lst ys))):=by
 intro pins s σ H xs us Q I r h
 obtain ⟨p,ys,rfl,hq,q⟩:=h
 obtain ⟨u,rfl,rx⟩:=qz r
 cases rx
 have fin:∀(its:List Value),aH ys its→ys.length≤sizeLine→∀(h':Heap) (c':Nat),(∀b o',s.heap.get? b=some o'→h'.get? b=some o')→
  h'.get? s.heap.objs.size=some { cls:=.type "list",dict:=none,data:=.seq its.toArray c',slots:=#[] }→EP X pins σ Q (.ref s.heap.objs.size) { s with heap:=h' }:=fun its r' hz h' c' kp e=>
  ⟨.ref s.heap.objs.size,_,I.laid (t':=s.toks) kp (Nat.le_refl _) (show bo X.prog X.w _ h' _ (.lst ys) from ⟨hz,its,c',r',e⟩),rfl,q _ (I.hok.fresh (Nat.le_refl _))⟩
 rcases hq with hq | hq
 ·obtain ⟨its,r',pl,hz⟩:=I.list hq
  have hlen:=r'.length
  obtain ⟨o,ho,hc,n,hd⟩:=pl.isList
  exact call_list_seq p (.inl rfl) ho hc hd (fun h' c' kp e=>fin its r' hz h' c' kp e) (by simp only [List.size_toArray] <;> trivial)
 ·obtain ⟨its,r',pl,hz⟩:=I.tuple hq
  have hlen:=r'.length
  obtain ⟨o,ho,hc,n,hd⟩:=pl
  exact call_list_seq p (.inr rfl) ho hc hd (fun h' c' kp e=>fin its r' hz h' c' kp e) (by simp only [List.size_toArray] <;> trivial)
theorem uZ:fe X (.type "tuple") (fun xs H Q=>bz fun p ys=>xs=[.ref p]∧((aG X.K H p ys∧∀l,H l=none→Q (.ref l) (aI H l (.tup ys)))∨(au X.K H p ys∧Q (.ref p) H))):=by
 intro pins s σ H xs us Q I r h
 obtain ⟨p,ys,rfl,h⟩:=h
 obtain ⟨u,rfl,rx⟩:=qz r
 cases rx
 rcases h with ⟨hq,q⟩ | ⟨hq,q⟩
 ·obtain ⟨its,r',pl,hz⟩:=I.list hq
  have hlen:=r'.length
  refine call_tuple_list pl.isList (fun h' kp=>?_) (by simp only [List.size_toArray] <;> trivial)
  have I1:af X pins σ H { s with heap:=h' }:=I.kept (t':=s.toks) kp
  have I2:af X pins σ (aI H h'.objs.size (.tup ys)) { s with heap:=h'.push { cls:=.type "tuple",data:=.seq its.toArray } }:=
   I1.laid (t':=s.toks) (fun b o e=>Heap.get?_push_of_some _ e) (Nat.le_refl _) (show bo X.prog X.w _ _ _ (.tup ys) from ⟨hz,its,r',IsTup.new _ _,_,Heap.get?_push_size _ rfl,rfl⟩)
  exact ⟨.ref h'.objs.size,_,I2,rfl,q _ (I1.hok.fresh (Nat.le_refl _))⟩
 ·obtain ⟨its,r',pl,hz⟩:=I.tuple hq
  exact call_tuple_same pl ⟨.ref p,H,I,rfl,q⟩
def Gk (K:PySem.W.Frag) (T:String) (x:V) (H:Hp):Prop:=match x with
 | .str _=>T = "str"
 | .int _=>T = "int"
 | .ref p=>(T = "list"∧∃xs,aG K H p xs)∨(T = "tuple"∧∃o,K.lookup p=some o∧o.cls=.type "tuple"∧o.dict=none)∨
  (T = "dict"∧((∃kvs,H p=some (.dK kvs))∨∃kvs,H p=some (.dT kvs)))∨(T = "set"∧bz fun S n=>H p=some (.set S n))
 | _=>False
theorem CT {pins:List (Addr×Obj)}{σ:St}{H:Hp}{s:Shared}{T:String}{x:V}{v:Value} (I:af X pins σ H s) (r:bc x v) (ty:Gk X.K T x H) :
 s.TypeIs v T∧∀a,v=.ref a→∃ob,s.heap.get? a=some ob∧ob.dict=none:=by
 cases x with
 | str z=>
  obtain ⟨t,rfl⟩:=r
  cases (show T = "str" from ty)
  exact ⟨typeIs_str s z t,fun _ e=>nomatch e⟩
 | int i=>
  obtain ⟨t,rfl⟩:=r
  cases (show T = "int" from ty)
  exact ⟨typeIs_int s i t,fun _ e=>nomatch e⟩
 | ref p=>
  cases r
  rcases ty with ⟨rfl,xs,hq⟩ | ⟨rfl,o,hk,hc,hd⟩ | ⟨rfl,hk⟩ | ⟨rfl,S,n,hk⟩
  ·obtain ⟨its,_,pl,_⟩:=I.list hq
   refine ⟨pl.isList.typeIs,fun a e=>?_⟩
   cases e
   obtain ⟨o,n,e,c,hd,_⟩:=pl
   exact ⟨o,e,hd⟩
  ·refine ⟨⟨o,I.kIn p o hk,hc⟩,fun a e=>?_⟩
   cases e
   exact ⟨o,I.kIn _ o hk,hd⟩
  ·have z:∃o,s.heap.get? p=some o∧o.ExactDict:=by
    rcases hk with ⟨kvs,hk⟩ | ⟨kvs,hk⟩
    ·obtain ⟨_,_,_,_,o,_,_,e,ex,_⟩:=I.hok p _ hk
     exact ⟨o,e,ex⟩
    ·obtain ⟨_,_,_,_,o,_,_,e,ex,_⟩:=I.hok p _ hk
     exact ⟨o,e,ex⟩
   obtain ⟨o,e,ex⟩:=z
   refine ⟨⟨o,e,ex.1⟩,fun a e2=>?_⟩
   cases e2
   exact ⟨o,e,ex.2.1⟩
  ·obtain ⟨o,_,_,_,e,ex,_⟩:=I.hok p _ hk
   refine ⟨⟨o,e,ex.1⟩,fun a e2=>?_⟩
   cases e2
   exact ⟨o,e,ex.2.1⟩
 | _=>exact False.elim ty
def Gf (K:PySem.W.Frag) (T:String) (r:V→List V→Hp→VK→Prop) (to:TE) (t:TA):TE:=fun σ H Q=>to σ H fun x H1=>Gk K T x H1∧t σ H1 fun xs H2=>r x xs H2 Q
variable {o e:Expr}{es:List Expr}{to:TE}{t:TA}{name:Str}{apos cpos:Pos}{T id:String}{r:V→List V→Hp→VK→Prop}
theorem E5 (pa:PlainAttrs T) (slot:Slot T name id) (hty:typeOf (.builtin id)=pure (.type "method_descriptor")) (hm:Bb X id r) (ho:PE X o to) (ha:PA X (e :: es) t)
 (hbase:attributeBase o name X.env (eval o X.env)=eval o X.env:=by rfl)
 (hfew:((backTo cpos (starEach (e :: es) X.env)).all (fun x=>!x.1) && (backToKw cpos (keywordEach [] X.env)).all (fun x=>x.1.isSome)
  && decide ((e :: es).length+([]:List Keyword).length+(if ([]:List Keyword).isEmpty then 0 else 1)<30))=true:=by rfl)
 (hline:(apos.endLine==cpos.line)=true:=by rfl) (hs:starEach (e :: es) X.env=(false,eval e X.env) :: starEach es X.env:=by rfl) (hplain:(backTo cpos (starEach es X.env)).any (·.1)=false:=by rfl) :
 PE X (.Call (.Attribute o name apos) (e :: es) [] cpos) (Gf X.K T r to t):=by
 intro pins s σ H Q I h
 refine wpAny_Call_method_late hbase hfew hline rfl (aR (ho pins s σ H _ I h) fun v s1 ⟨x,H1,I1,r1,ty,q1⟩=>?_)
 obtain ⟨h1,h2⟩:=CT I1 r1 ty
 refine ⟨T,id,pa,slot,hty,h1,h2,?_⟩
 have hA:=ha cpos pins s1 σ H1 _ I1 q1
 rw [hs] at hA ⊢
 refine Calls.callWith_builtin (by show (false || (backTo cpos (starEach es X.env)).any (·.1))=false;rw [hplain] <;> rfl) (Calls.evalArgs_plain ?_)
 exact aR hA fun us s2 ⟨vs,H2,I2,r2,q2⟩=>hm pins s2 σ H2 x vs v us Q I2 r1 r2 q2
/- xs.append(e), list.index on a module's tuple .. are Bb facts of 06m -/
end
end L2
namespace L2
open PySem PySem.Spec PyProof.Rows
def vN (X:Cx) (id:String) (r:V→List V→Hp→VK→Prop):Prop:=
 ∀(pins:List (Addr×Obj)) (s:Shared) (σ:St) (H:Hp) (x:V) (xs:List V) (v:Value) (us:List Value) (Q:VK),af X pins σ H s→bc x v→aH xs us→r x xs H Q→
   wpAny (model X.prog X.w) X.A (call (.builtin id) (v :: us)) (EP X pins σ Q) X.xe s
theorem Paired.un {α β:Type}{R:α→β→Prop}{x:α}{xs:List α}{us:List β} (h:Paired R (x :: xs) us):bz fun u vs=>us=u :: vs∧R x u∧Paired R xs vs:=by
 cases h with
 | cons r q=>exact ⟨_,_,rfl,r,q⟩
theorem Paired.un0 {α β:Type}{R:α→β→Prop}{us:List β} (h:Paired R [] us):us=[]:=by
 cases h with
 | nil=>rfl
theorem aH.one {x:V}{us:List Value} (h:aH [x] us):∃u,us=[u]∧bc x u:=by
 obtain ⟨u,vs,rfl,r,q⟩:=Paired.un h
 rw [Paired.un0 q]
 exact ⟨u,rfl,r⟩
theorem aH.two {x y:V}{us:List Value} (h:aH [x,y] us):bz fun u v=>us=[u,v]∧bc x u∧bc y v:=by
 obtain ⟨u,vs,rfl,r,q⟩:=Paired.un h
 obtain ⟨v,rfl,q2⟩:=aH.one q
 exact ⟨u,v,rfl,r,q2⟩
theorem aH.eraseIdx:∀{xs:List V}{us:List Value} (i:Nat),aH xs us→aH (xs.eraseIdx i) (us.eraseIdx i)
 | _,_,_,.nil=>.nil
 | _,_,0,.cons _ t=>t
 | _,_,i+1,.cons r t=>.cons r (aH.eraseIdx i t)
theorem aH.rep {xs:List V}{us:List Value} (h:aH xs us):∀k:Nat,aH (List.replicate k xs).flatten (List.replicate k us).flatten
 | 0=>.nil
 | k+1=>by
  rw [List.replicate_succ,List.replicate_succ,List.flatten_cons,List.flatten_cons]
  exact aH.append h (aH.rep h k)
theorem um {α:Type}:∀(l:List α) (i:Nat),(l.eraseIdx i).length≤l.length
 | [],_=>Nat.le_refl _
 | _ :: _,0=>Nat.le_succ _
 | _ :: r,i+1=>Nat.succ_le_succ (um r i)
theorem uL (its:List Value):∀(k:Nat) (acc:List Value),
 List.foldl (fun x1 x2=>x1++x2) acc.toArray (List.replicate k its.toArray)=(acc++(List.replicate k its).flatten).toArray
 | 0,acc=>by simp
 | k+1,acc=>by
  have e:acc.toArray++its.toArray=(acc++its).toArray:=by simp
  have e2:(acc++its)++(List.replicate k its).flatten=acc++(List.replicate (k+1) its).flatten:=by
   rw [List.replicate_succ,List.flatten_cons,List.append_assoc]
  rw [←e2,←uL its k (acc++its),←e,List.replicate_succ,List.foldl_cons]
section
variable {X:Cx}{pins:List (Addr×Obj)}{σ:St}{H:Hp}{s:Shared}{l b:Addr}{xs ys zs:List V}
theorem af.lset {its its':List Value}{n:Nat}{f:Array Value→Array Value}{t':Nat} (I:af X pins σ H s) (hH:H l=some (.lst xs))
 (e:s.heap.get? l=some { cls:=.type "list",data:=.seq its.toArray n }) (hf:f its.toArray=its'.toArray) (hv:aH ys its') (hz:ys.length≤sizeLine) :
 af X pins σ (aI H l (.lst ys)) { s with heap:=s.heap.update l (Obj.mapSeq f),toks:=t' }:=by
 have q:=PySem.IsL.update e f
 rw [hf] at q
 refine I.write (x:=l) (e:=l) (by rw [hH];exact trivial) (.inl rfl) (fun b' u hb hu=>(Heap.get?_update_other s.heap (Obj.mapSeq f) (Ne.symm hb)).trans hu) ⟨_,q⟩ ?_
 exact ⟨hz,its',_,hv,q⟩
theorem af.lnew {its:List Value}{t':Nat} (I:af X pins σ H s) (hv:aH ys its) (hz:ys.length≤sizeLine) :
 af X pins σ (aI H s.heap.objs.size (.lst ys)) { s with heap:=s.heap.push { cls:=.type "list",data:=.seq its.toArray },toks:=t' }:=
 I.laid (fun _ _ q=>Heap.get?_push_of_some _ q) (Nat.le_refl _) ⟨hz,its,0,hv,Heap.get?_push_size _ rfl⟩
theorem af.fresh (I:af X pins σ H s):H s.heap.objs.size=none:=I.hok.fresh (Nat.le_refl _)
theorem af.lstM (I:af X pins σ H s) (hH:H l=some (.lst xs)):xs.length≤sizeLine∧bz fun (its:List Value) (n:Nat)=>aH xs its∧xs.length=its.length∧s.heap.get? l=some { cls:=.type "list",data:=.seq its.toArray n }:=by
 obtain ⟨z,its,n,r,e⟩:=I.hok l _ hH
 exact ⟨z,its,n,r,r.length,e⟩
theorem Ar {n:Nat} (h:n≤sizeLine):Builtin.List.listTooLong n=false:=by
 unfold Builtin.List.listTooLong
 exact decide_eq_false (by trivial)
end
section
variable {X:Cx}
inductive Af (x:V) (vs:List V) (H:Hp) (Q:VK):Prop
 | mk (l:_) (xs:_) (y:_) (h0:x=.ref l) (h1:vs=[y]) (h2:H l=some (.lst xs)) (h3:xs.length<sizeLine) (h4:Q .non (aI H l (.lst (xs++[y]))))
def Bt:V→List V→Hp→VK→Prop:=fun x vs H Q=>Af  x vs H Q
theorem tZ:vN X "list.append" Bt:=by
 intro pins s σ H x vs v us Q I rx rv h
 obtain ⟨l,xs,y,rfl,rfl,hH,hz,q⟩:=h
 cases rx
 obtain ⟨u,rfl,ru⟩:=rv.one
 obtain ⟨z,its,n,r,hl,e⟩:=I.lstM hH
 refine call_meets F.slot_list_append ⟨_,e,rfl⟩ F.entry_list_append (F.args_list_append_2 _ _) (PySem.list_append l its.toArray n u (by rw [List.size_toArray];trivial)) ⟨e,?_⟩
 refine ⟨.non,_,I.lset (its':=its++[u]) hH e (by simp) (r.append (.cons ru .nil)) ?_,rfl,q⟩
 rw [List.length_append,List.length_singleton]
 trivial
inductive BN (x:V) (vs:List V) (H:Hp) (Q:VK):Prop
 | mk (l:_) (xs:_) (i:_) (k:_) (y:_) (h0:x=.ref l) (h1:vs=[.int i]) (h2:H l=some (.lst xs)) (h3:-(2 ^ 63)≤i) (h4:i<2 ^ 63) (h5:seqIndex? i xs.length=some k) (h6:xs[k]?=some y) (h7:Q y (aI H l (.lst (xs.eraseIdx k))))
def DG:V→List V→Hp→VK→Prop:=fun x vs H Q=>BN  x vs H Q
theorem Ah:vN X "list.pop" DG:=by
 intro pins s σ H x vs v us Q I rx rv h
 obtain ⟨l,xs,i,k,y,rfl,rfl,hH,h1,h2,hk,hy,q⟩:=h
 cases rx
 obtain ⟨u,rfl,ru⟩:=rv.one
 obtain ⟨t,rfl⟩:=ru
 obtain ⟨z,its,n,r,hl,e⟩:=I.lstM hH
 obtain ⟨w,hw,rw'⟩:=r.get hy
 refine call_meets F.slot_list_pop ⟨_,e,rfl⟩ F.entry_list_pop (F.args_list_pop_2 _ _)
  (MeetsSeq.list_pop_at l its.toArray n i t k w (fitsIndex_both h1 h2) (by rw [List.size_toArray,←hl];exact hk) (by rw [←Array.getElem?_toList];exact hw) (by rw [List.size_toArray];trivial)) ⟨e,?_⟩
 refine ⟨y,_,I.lset (its':=its.eraseIdx k) hH e ?_ (r.eraseIdx k) ?_,rw',q⟩
 ·show its.toArray.eraseIdxIfInBounds k=(its.eraseIdx k).toArray
  rw [List.eraseIdxIfInBounds_toArray]
 ·have:=um xs k
  trivial
inductive FU (x:V) (y:V) (H:Hp) (Q:VK):Prop
 | mk (l:_) (b:_) (xs:_) (zs:_) (h0:x=.ref l) (h1:y=.ref b) (h2:H l=some (.lst xs)) (h3:H b=some (.lst zs)) (h4:xs.length+zs.length≤sizeLine) (h5:∀p,H p=none→Q (.ref p) (aI H p (.lst (xs++zs))))
def GC:R2:=fun x y H Q=>FU  x y H Q
theorem DV:cD X (binaryOp .Add) GC:=by
 intro pins s σ H x y v u Q I rx ry h
 obtain ⟨l,b,xs,zs,rfl,rfl,hH,hB,hz,q⟩:=h
 cases rx
 cases ry
 obtain ⟨z,its,n,r,hl,e⟩:=I.lstM hH
 obtain ⟨z2,its2,n2,r2,hl2,e2⟩:=I.lstM hB
 refine PySem.P.add_list e e2 ?_ (by rw [List.size_toArray,List.size_toArray];trivial)
 have ea:its.toArray++its2.toArray=(its++its2).toArray:=by simp
 rw [ea]
 exact ⟨.ref _,_,I.lnew (t':=s.toks) (r.append r2) (by rw [List.length_append];trivial),rfl,q _ I.fresh⟩
inductive Fp (x:V) (y:V) (H:Hp) (Q:VK):Prop
 | mk (l:_) (k:_) (xs:_) (h0:x=.ref l) (h1:y=.int k) (h2:H l=some (.lst xs)) (h3:-(2 ^ 63)≤k) (h4:k<2 ^ 63) (h5:xs.length*k.toNat≤sizeLine) (h6:∀p,H p=none→Q (.ref p) (aI H p (.lst (List.replicate k.toNat xs).flatten)))
def Gq:R2:=fun x y H Q=>Fp  x y H Q
theorem xr {α:Type} (xs:List α) (k:Nat):(List.replicate k xs).flatten.length=k*xs.length:=by
 induction k with
 | zero=>simp
 | succ k ih=>rw [List.replicate_succ,List.flatten_cons,List.length_append,ih,Nat.succ_mul,Nat.add_comm]
theorem C9:cD X (binaryOp .Mult) Gq:=by
 intro pins s σ H x y v u Q I rx ry h
 obtain ⟨l,k,xs,rfl,rfl,hH,h1,h2,hz,q⟩:=h
 cases rx
 obtain ⟨t,rfl⟩:=ry
 obtain ⟨z,its,n,r,hl,e⟩:=I.lstM hH
 have hlen:its.toArray.size*k.toNat≤sizeLine:=by rw [List.size_toArray,←hl];exact hz
 have hcap:¬its.toArray.size*k.toNat > (2 ^ 63 - 1) / 8:=by
  have:(sizeLine:Nat)≤(2 ^ 63 - 1) / 8:=by decide
  trivial
 have hfit:¬(!Builtin.List.listFitsIndex k)=true:=by
  rw [fitsIndex_both h1 h2]
  exact Bool.false_ne_true
 have hlong:¬Builtin.List.listTooLong (its.toArray.size*k.toNat)=true:=by
  rw [Ar hlen]
  exact Bool.false_ne_true
 have hnew:List.foldl (fun x1 x2=>x1++x2) #[] (List.replicate (if its.toArray.isEmpty=true then 0 else k.toNat) its.toArray)=(List.replicate k.toNat its).flatten.toArray:=by
  have f0:∀m:Nat,List.foldl (fun x1 x2=>x1++x2) #[] (List.replicate m its.toArray)=(List.replicate m its).flatten.toArray:=fun m=>by
   have:=uL its m []
   rw [List.nil_append] at this
   exact this
  rw [f0]
  cases its with
  | nil=>simp
  | cons a r'=>rw [if_neg (by simp)]
 refine wpAny_binaryOp_repeat_ref (T := "list") (U := "int") (by decide) ⟨_,e,rfl⟩ (fun s'=>typeIs_int s' k t) noFill_list_mul F.fills_int_mul F.slot_int_rmul repeat_list F.slot_int_index.lookup
  (call_meets F.slot_int_rmul (typeIs_int s k t) F.entry_int_rmul (F.args_int_rmul_2 _ _) (int___rmul___int_list k t l its.toArray n)
   ⟨e,rfl,⟨_,e,rfl⟩,call_meets F.slot_list_mul ⟨_,e,rfl⟩ F.entry_list_mul (F.args_list_mul_2 _ _) (AutoListH.list___mul___list_int_3 l its.toArray n k t hfit hcap hlong) ⟨e,?_⟩⟩)
 rw [hnew]
 exact ⟨.ref _,_,I.lnew (t':=s.toks) (r.rep k.toNat) (by rw [xr,Nat.mul_comm];exact hz),rfl,q _ I.fresh⟩
end
section
variable {prog:Program}{w:World}{A:Around}{E:Value→Shared→Prop}{s:Shared}
set_option maxRecDepth 100000 in
end
section
variable {X:Cx}
end
end L2
namespace Att
open PySem PySem.W PySem.Calls PyProof.Rows
theorem tu {P:Params}{h:Heap}:∀(ns:List Int) (vs:List Value),WellAll P h vs (ns.map WData.int)→IntsAre vs ns:=by
 intro ns
 induction ns with
 | nil=>
  intro vs w
  rw [List.map_nil] at w
  cases w
  exact .nil
 | cons n ns ih=>
  intro vs w
  rw [List.map_cons] at w
  cases w with
  | cons a b=>
   cases a
   exact .cons _ _ (ih _ b)
theorem yW {l:OpenLaw}{n:Nat} (hn:l.most=some n) {P:Params}{h:Heap}{args:List WData}{vals:List Value}
 (hpre:l.row.toRowW.claim.pre args=true) (hwl:WellAll P h vals args) :
 ∃a vs ns,vals=[Value.ref a]∧args=[WData.list (ns.map WData.int)]∧h.get? a=some { cls:=.type "list",data:=.seq vs.toArray }∧IntsAre vs ns∧ns.length≤n:=by
 have hsh:WShape.hasAll [] args [.list .int]=true:=(pre_splitW hpre).1
 have hc:l.pre.holds [] { args:=args }=true:=(pre_splitW hpre).2
 obtain ⟨d,r,rfl,h1,h2⟩:=hasAllW_cons hsh
 obtain rfl:=hasAllW_nil h2
 obtain ⟨xs,rfl,h3⟩:=hasW_list h1
 obtain ⟨ns,rfl⟩:=items_int h3
 have hlen:ns.length≤n:=by
  unfold OpenLaw.pre at hc
  have h4:(WTm.not (.lt (.lit (.int (n:Int))) (.len (.arg 0)))).holds [] { args:=[.list (ns.map .int)] }=true:=by
   have h4:=(holds_andW hc).1
   rw [hn] at h4
   exact h4
  have h5:=condW_of h4 (w_not (w_lt w_lit (w_len_list (w_arg rfl))))
  rw [List.length_map] at h5
  refine Nat.le_of_not_lt fun q=>?_
  have q':(n:Int)<((ns.length:Nat):Int):=by trivial
  first
   | (rw [decide_eq_true q'] at h5;exact absurd h5 (by decide))
   | (simp at h5;trivial)
 cases hwl with
 | cons w1 w2=>
  cases w2
  cases w1 with
  | list ho hall=>exact ⟨_,_,ns,rfl,rfl,ho,tu ns _ hall,hlen⟩
theorem yM (l:OpenLaw) (args:List WData):l.row.toRowW.claim.post args (.bool true) args=true:=
 postW_of (r:=l.row.toRowW) (X:=(true==true))
  (show WShape.has [] (.bool true) .bool=true by first | rfl | decide | simp [WShape.has,WShape.arms,WShape.armsAll])
  (show (WTm.eq .res (.lit (.bool true))).value [] { args:=args,res:=some (.bool true),after:=args }=some (.bool (true==true)) from w_eq_bool (w_res rfl) w_lit) rfl
theorem attach_call {l:OpenLaw}{n:Nat}{q:Program}{loose:List Str}{XP:(Str→Option Value)→Heap→Prop}{YP:World→Heap→Prop}{d:DefRec}
 (hn:l.most=some n) (hdf:d.params.defaults=[])
 (call:∀(w:World) (s₀ s₁:Shared) (mg mb:Str→Option Value) (fa:Addr) (o:Obj) (pm cd doc:Value) (a:Addr) (vs:List Value) (ns:List Int),
  Ground q loose [] XP w s₀ mg mb s₁.heap→YP w s₁.heap→
  s₁.heap.get? fa=some o→o.data=.func (docDef d.name d.params d.body d.scope pm cd doc)→s₁.heap.CodeRec cd d.name→mg d.name=some (.ref fa)→
  s₁.heap.get? a=some { cls:=.type "list",data:=.seq vs.toArray }→IntsAre vs ns→ns.length≤n→s₁.gens=#[]→
  codeAny (model l.prog w) callerA (.call (.ref fa) ⟨[.ref a],[]⟩) (fun r s'=>r=.ok (.ret (.bool true))∧OldK s₁.heap s'.heap∧s'.os=s₁.os∧AllBare s'.gens) s₁) :
 WalkO q loose XP YP l.row.toRowW d [] (fun f vs=>PySem.call f vs):=by
 intro w s₀ s₁ mg mb G Y fa o pm cd doc dV kV ho hd hcd hD hmg hg args vals as hpre hlay hrd hwl hlo
 obtain rfl:dV=.none:=Dflts.none hD hdf
 obtain rfl:kV=.none:=Dflts.noKw hD
 obtain ⟨a,vs,ns,rfl,rfl,hobj,hints,hlen⟩:=yW hn hpre hwl
 refine enter_call (codeAny_mono (call w s₀ s₁ mg mb fa o pm cd doc a vs ns G Y ho (fd_plain hd) hcd hmg hobj hints hlen hg) fun r s' hq=>?_)
 obtain ⟨rfl,h2,h3,h4⟩:=hq
 exact ⟨.inl ⟨.bool true,.bool true,[],rfl,fun _=>rfl,.bool true,yM l _,fun _=>⟨List.Pairwise.nil,fun _ hm=>(nomatch hm)⟩⟩,h2,h3,h4⟩
section
variable {prog:Program}{w:World}{A:Around}{E:Value→Shared→Prop}{s:Shared}{K:Frag}
end
end Att
namespace L2
open PySem PySem.Spec PyProof.Rows
theorem uM:∀{vs:List Value}{ns:List Int},IntsAre vs ns→aH (ns.map V.int) vs
 | _,_,.nil=>.nil
 | _,_,.cons n t h=>.cons ⟨t,rfl⟩ (uM h)
def vD (H:Hp):Prop:=∀b,H b=none∨bz fun o xs=>H b=some (.frz o (.lst xs))
theorem At {P:Program}{w:World}{K:PySem.W.Frag}{mg mb:Str→Option Value}{CX:kW}{k:Nat}{fa a:Addr}{fd:FuncData}{x:Str}{sp:Sp}{s₁:Shared}{vs:List Value}{ns:List Int}
 (KX:K.In s₁.heap) (hns:s₁.heap.Ns mainGlobals mg) (hb:s₁.heap.Ns builtinsNs mb) (hbb:∀x:Str,x≠"__name__"→mb x=bootBuiltins x) (hlim:s₁.heap.NoLimit) (hg:s₁.gens=#[])
 (ha:s₁.heap.get? a=some { cls:=.type "list",data:=.seq vs.toArray }) (hi:IntsAre vs ns) (hl:ns.length≤sizeLine) (hr:dC k callerA)
 (F:∀base:Heap,K.In base→base.Ns mainGlobals mg→bv P w K mg base CX k fa fd [x] sp) (hbind:∀(s:Shared) (u:Value),BindsTo s fd ⟨[u],[]⟩ [(x,u)])
 (hsp:∀H:Hp,vD H→aG K H a (ns.map V.int)→sp [.ref a] H (fun v _=>v=.bl true) fun _ _ _=>False)
 (hCX:∀H e s',CX [] H s₁ (fun _ _ _=>False) e s'→False) :
 codeAny (model P w) callerA (.call (.ref fa) ⟨[.ref a],[]⟩) (fun r s'=>r=.ok (.ret (.bool true))∧OldK s₁.heap s'.heap∧s'.os=s₁.os∧AllBare s'.gens) s₁:=by
 have rv:=uM hi
 have lenV:=hi.length
 have core:∀H:Hp,vD H→aG K H a (ns.map V.int)→dJ P w H s₁.heap→(∀b,H b≠none→b=a)→(H a≠none→K.lookup a=none)→
  codeAny (model P w) callerA (.call (.ref fa) ⟨[.ref a],[]⟩) (fun r s'=>r=.ok (.ret (.bool true))∧OldK s₁.heap s'.heap∧s'.os=s₁.os∧AllBare s'.gens) s₁:=by
  intro H hO hS hok hA hK
  have base_of:∀{b:Addr}{o:Obj},s₁.heap.get? b=some o→H b=none→(oO s₁.heap H).get? b=some o:=fun e n=>Ao e n
  have noA:∀{b:Addr}{o:Obj}{es:Array DictEntry}{ep:Nat},s₁.heap.get? b=some o→o.data=.dict es ep→H b=none:=fun {b o es ep} e d=>by
   cases q:H b with
   | none=>rfl
   | some u=>
    have e':b=a:=hA b (by rw [q];simp)
    subst e'
    rw [ha] at e;cases e
    have d':Data.seq vs.toArray _=Data.dict es ep:=d
    cases d'
  have nsK:∀{b:Addr}{m:Str→Option Value},s₁.heap.Ns b m→(oO s₁.heap H).Ns b m:=fun {b m} ⟨o,es,ep,e,d,r⟩=>⟨o,es,ep,base_of e (noA e d),d,r⟩
  have hKb:K.In (oO s₁.heap H):=fun b o e=>base_of (KX b o e) (by
   cases q:H b with
   | none=>rfl
   | some u=>
    have e':b=a:=hA b (by rw [q];simp)
    subst e'
    rw [hK (by rw [q];simp)] at e;cases e)
  have hM:Mod K mg (oO s₁.heap H):=⟨hKb,nsK hns,⟨mb,nsK hb,hbb⟩,let ⟨mc,h1,h2⟩:=hlim;⟨mc,nsK h1,h2⟩⟩
  have e0:rM P w K mg (oO s₁.heap H) callerA [] s₁ H:=⟨rfl,hM,fun b o e=>CC e,Nat.le_of_eq (zm _ _),trivial,fun b hb=>absurd (show b∈([]:List Addr) from hb) (by simp),hok,.of_eq hg⟩
  refine codeAny_mono ((F _ hKb (nsK hns)).run callerA [] s₁ H ⟨[.ref a],[]⟩ [.ref a] [.ref a] _ _ hr e0 (hbind s₁ (.ref a)) (.cons rfl .nil) (hsp H hO hS)) fun r s' h=>?_
  cases r with
  | error e=>exact (hCX H e s' h).elim
  | ok fl=>
   cases fl with
   | next=>exact False.elim h
   | brk=>exact False.elim h
   | cont=>exact False.elim h
   | ret u=>
    obtain ⟨v,H',os,bare,un,hok',r',q⟩:=h
    have q':v=.bl true:=q
    subst q'
    obtain rfl:u=Value.bool true:=r'
    refine ⟨rfl,OldK.of_keep fun b o e=>?_,os,bare⟩
    cases q:H b with
    | none=>exact un.keep b o e q (by intro z;exact absurd (show b∈([]:List Addr) from z) (by simp)) (by simp)
    | some u=>
     rcases hO b with z | ⟨ob,xs,z⟩
     ·rw [q] at z;cases z
     ·have z2:=un.frzs b ob _ z
      obtain ⟨e1,_⟩:=hok b _ z
      obtain ⟨e2,_⟩:=hok' b _ z2
      rw [e] at e1;cases e1
      exact e2
 cases hk:K.lookup a with
 | some o=>
  have e:=KX a o hk
  rw [ha] at e
  cases e
  refine core (fun _=>none) (fun _=>.inl rfl) (.inr ⟨_,vs.toArray,_,hk,rfl,rfl,rfl,by rw [List.size_toArray,lenV];exact hl,by simpa using rv⟩) (fun b u z=>by have z':(none:Option HO)=some u:=z;cases z') (fun b z=>absurd rfl z) fun z=>absurd rfl z
 | none=>
  refine core (fun b=>if b=a then some (.frz { cls:=.type "list",data:=.seq vs.toArray } (.lst (ns.map V.int))) else none) (fun b=>?_) (.inl (.inr ⟨{ cls:=.type "list",data:=.seq vs.toArray },if_pos rfl⟩)) (fun b u z=>?_) (fun b z=>?_) fun _=>hk
  ·by_cases hb:b=a
   ·exact .inr ⟨_,_,if_pos hb⟩
   ·exact .inl (if_neg hb)
  ·by_cases hb:b=a
   ·have z':=(if_pos hb).symm.trans z
    cases z'
    subst hb
    exact ⟨ha,by rw [List.length_map];exact hl,vs,_,rv,ha⟩
   ·have z':=(if_neg hb).symm.trans z
    cases z'
  ·by_cases hb:b=a
   ·exact hb
   ·exact absurd (if_neg hb) z
end L2
namespace L2
open PySem PySem.Spec PyProof.Rows
abbrev KOf {K:PySem.W.Frag}{h:Heap} (_:K.In h):PySem.W.Frag:=K
theorem walk_of {l:PySem.W.OpenLaw}{n k:Nat}{q:Program}{loose:List Str}{XP:(Str→Option Value)→Heap→Prop}{YP:World→Heap→Prop}{d:DefRec}{K:Params→PySem.W.Frag}{CX:World→kW}{sp:World→Sp}{x:Str}
 (hn:l.most=some n) (hn2:n≤sizeLine) (hdf:d.params.defaults=[]) (hr:dC k callerA)
 (hY:∀(w:World) (h:Heap),YP w h→(K w.params).In h)
 (F:∀(w:World) (mg:Str→Option Value) (fa:Addr) (h:Heap),(K w.params).In h→h.Ns mainGlobals mg→mg d.name=some (.ref fa)→
  ∃fd:FuncData,(∀(s:Shared) (u:Value),BindsTo s fd ⟨[u],[]⟩ [(x,u)])∧
   ∀base:Heap,(K w.params).In base→base.Ns mainGlobals mg→bv l.prog w (K w.params) mg base (CX w) k fa fd [x] (sp w))
 (hsp:∀(w:World) (H:Hp) (a:Addr) (ns:List Int),ns.length≤n→vD H→aG (K w.params) H a (ns.map V.int)→sp w [.ref a] H (fun v _=>v=.bl true) fun _ _ _=>False)
 (hCX:∀(w:World) (H:Hp) (s:Shared) (e:Value) (s':Shared),CX w [] H s (fun _ _ _=>False) e s'→False) :
 PySem.W.WalkO q loose XP YP l.row.toRowW d [] (fun f vs=>PySem.call f vs):=by
 refine Att.attach_call hn hdf fun w s₀ s₁ mg mb fa o pm cd doc a vs ns G Y ho hd hcd hmg hobj hints hlen hg=>?_
 have KX:=hY w _ Y
 obtain ⟨fd,hb,hF⟩:=F w mg fa _ KX G.T.g hmg
 exact At KX G.T.g G.T.b G.T.builtins G.T.nolimit hg hobj hints (Nat.le_trans hlen hn2) hr hF hb (fun H hO hS=>hsp w H a ns hlen hO hS) fun H e s'=>hCX w H s₁ e s'
theorem walk_ofK {l:PySem.W.OpenLaw}{n k:Nat}{q:Program}{loose:List Str}{XP:(Str→Option Value)→Heap→Prop}{YP:World→Heap→Prop}{d:DefRec}{K:Params→PySem.W.Frag}{CX:kW}{sp:PySem.W.Frag→Sp}{x:Str}
 (hn:l.most=some n) (hn2:n≤sizeLine) (hdf:d.params.defaults=[]) (hr:dC k callerA)
 (hY:∀(w:World) (h:Heap),YP w h→(K w.params).In h)
 (F:∀(w:World) (mg:Str→Option Value) (fa:Addr) (h:Heap),(K w.params).In h→h.Ns mainGlobals mg→mg d.name=some (.ref fa)→
  ∃fd:FuncData,(∀(s:Shared) (u:Value),BindsTo s fd ⟨[u],[]⟩ [(x,u)])∧
   ∀base:Heap,(K w.params).In base→base.Ns mainGlobals mg→bv l.prog w (K w.params) mg base CX k fa fd [x] (sp (K w.params)))
 (hsp:∀(K:PySem.W.Frag) (H:Hp) (a:Addr) (ns:List Int),ns.length≤n→vD H→aG K H a (ns.map V.int)→sp K [.ref a] H (fun v _=>v=.bl true) fun _ _ _=>False)
 (hCX:∀(H:Hp) (s:Shared) (e:Value) (s':Shared),CX [] H s (fun _ _ _=>False) e s'→False) :
 PySem.W.WalkO q loose XP YP l.row.toRowW d [] (fun f vs=>PySem.call f vs):=
 walk_of (K:=K) (CX:=fun _=>CX) (sp:=fun w=>sp (K w.params)) hn hn2 hdf hr hY F (fun w H a ns h1 h2 h3=>hsp (K w.params) H a ns h1 h2 h3) fun _ H s e s'=>hCX H s e s'
end L2
/- THE LAST THEOREM (shape; LID, My.* are yours):
 My.Adr: a structure of the addresses that your layer names (classes, functions); My.Txt K t: a structure (Prop) of the equations over K;
 My.txt_mk : {K} {implicit addresses ..} (e1 : nsIn K mainGlobals "law" = some (some (.ref f))) (e2 : K.lookup f = some ⟨oc, od, .func (fnOf "law" "law" params body scope dV kV doc pm an cdv ct), sl⟩) (e3 : codeIn K cdv "law" = true) .. : ∃ t, My.Txt K t
set_option maxRecDepth 100000 in
set_option maxHeartbeats 0 in
theorem PySem.Challenge.cw_LID_holds : PySem.Challenge.rw_LID.Holds := by
 w_on; o_law; k_head; (case hw => w_witness2)
 k_fill
 refine L2.walk_of (l := PySem.Challenge.rw_LID) (n := 63) (k := 40) (x := "script") (CX := fun w => ..) (sp := fun _ => My.sp_law) rfl (by decide) rfl ⟨rfl, by decide, by decide⟩ (fun w h Y => PySem.W.kIn_of Y) ?F ?S ?C
 case F =>
  intro w mg fa h KX G hmg
  have T : ∃ t, My.Txt (L2.KOf KX) t := by
   dsimp only [L2.KOf]                          -- K must stand as «<heap const> w.params» for k_is
   refine' My.txt_mk ?e1 ?e2 ?e3 ..
   (case e1 => PySem.W.k_is)                    -- in the order: a name -> its address -> its object -> its parts
   (case e2 => PySem.W.k_is)
   ..
  obtain ⟨t, T⟩ := T
  have e0 := hmg.symm.trans (PySem.W.mg_of KX G T.law)
  cases e0                                       -- fa is the law's own address
  exact ⟨_, fun s u => .of_eq rfl, fun base kb nb => My.law_fn T kb nb⟩     -- if «.of_eq rfl» comes too early: refine' ⟨_, ?b, fun base kb nb => My.law_fn T kb nb⟩; exact fun s u => .of_eq rfl
 case S => exact fun w H a ns hl hO hS => ..
 case C => exact ..
(the tactic k_is has no namespace: write k_is) -/
namespace L2
open PySem PySem.Spec PyProof.Rows
def aT (s:Stmt):Arguments:=match s with
 | .FunctionDef _ a _ _ _ _ _ _ _ _=>a
 | _=>{ posonlyargs:=[],args:=[],vararg:=none,kwonlyargs:=[],kw_defaults:=[],kwarg:=none,defaults:=[] }
def aQ (s:Stmt):List Stmt:=match s with
 | .FunctionDef _ _ b _ _ _ _ _ _ _=>b
 | _=>[]
def ag (s:Stmt):Scope:=match s with
 | .FunctionDef _ _ _ _ _ _ sc _ _ _=>sc
 | _=>{ kind:=.function,names:=[],isGenerator:=false,isCoroutine:=false }
abbrev CX0:kW:=fun _ _ _ _ _ _=>False
abbrev E0:XK:=fun _ _ _=>False
theorem aK {X:Cx}:qb CX0 X E0:=fun _ _ _ _ _ _ _ h=>h.elim
structure sQ (K:PySem.W.Frag) (x qual:Str) (st:Stmt) (f:Addr) (fd:FuncData):Prop where
 ex:G4 fun (oc:Value) (od:Option Addr) (kV doc pm:Value) (an:Option Addr) (cdv ct:Value) (osl:Array (Option Value))=>
  fd=PySem.W.fnOf x qual (aT st) (aQ st) (ag st) .none kV doc pm an cdv ct∧K.lookup f=some ⟨oc,od,.func fd,osl⟩∧PySem.W.codeIn K cdv qual=true
 kp:PySem.W.keepIn K (.ref f)=true
section
variable {P:Program}{w:World}{K:PySem.W.Frag}{mg:Str→Option Value}{base:Heap}
theorem sQ.ok {x qual:Str}{st:Stmt}{f:Addr}{fd:FuncData}{N ps:List Str}{k:Nat}{sp:Sp} (F:sQ K x qual st f fd) (S:aS N ps (ag st)) (len:∀vs H Q E,sp vs H Q E→vs.length=ps.length)
 (hbody:∀(cdv:Value) (A:Around) (outer:List Env) (s:Shared) (H:Hp) (vs:List V) (Q:VK) (E:XK),dC k (A.deeper (envOfC qual (ag st) s.heap.objs.size f cdv))→sp vs H Q E→
  ∃t,kX (oK CX0 P w K mg base N qual (ag st) f cdv A outer s H E).nox (aQ st) t∧t { nx:=fun _ H'=>Q .non H',rt:=Q } (lw N vs) H):bv P w K mg base CX0 (k+1) f fd ps sp:=by
 obtain ⟨oc,od,kV,doc,pm,an,cdv,ct,osl,rfl,lk,hcd⟩:=F.ex
 refine AU lk hcd S len fun A outer s H vs Q E hr hsp=>?_
 obtain ⟨t,h,q⟩:=hbody cdv A outer s H vs Q E hr hsp
 exact ⟨t,h.nox,q⟩
theorem sQ.binds {x qual:Str}{st:Stmt}{f:Addr}{fd:FuncData}{ps:List Str} (F:sQ K x qual st f fd)
 (h:∀(kV doc pm:Value) (an:Option Addr) (cdv ct:Value) (us:List Value),us.length=ps.length→bindArgs (PySem.W.fnOf x qual (aT st) (aQ st) (ag st) .none kV doc pm an cdv ct) ⟨us,[]⟩=pure (ps.zip us)):kc K fd ps []:=by
 obtain ⟨oc,od,kV,doc,pm,an,cdv,ct,osl,rfl,lk,hcd⟩:=F.ex
 exact .all (h kV doc pm an cdv ct)
theorem aA {x qual:Str}{st:Stmt}{f:Addr}{oc:Value}{od an:Option Addr}{osl:Array (Option Value)}{kV doc pm cdv ct:Value} (l:K.lookup f=some ⟨oc,od,.func (PySem.W.fnOf x qual (aT st) (aQ st) (ag st) .none kV doc pm an cdv ct),osl⟩)
 (c:PySem.W.codeIn K cdv qual=true) (k:PySem.W.keepIn K (.ref f)=true):sQ K x qual st f (PySem.W.fnOf x qual (aT st) (aQ st) (ag st) .none kV doc pm an cdv ct):=⟨⟨oc,od,kV,doc,pm,an,cdv,ct,osl,rfl,l,c⟩,k⟩
end
section
variable {X:Cx}
theorem pv (i:Nat) {x:Str}{pos:Pos} (hN:X.N[i]?=some x:=by rfl) (hv:zk X.env.scope x:=by first | exact Or.inl rfl | exact Or.inr (Or.inl rfl) | exact Or.inr (Or.inr rfl)) (hd:(x==("__debug__" : Str))=false:=by decide)
 (hcd:(x==("__classdict__" : Str))=false:=by decide):PE X (.Name x pos) (AC i):=zF hN hv hd hcd
end
theorem cm {A B:Prop} (h:B):if false=true then A else B:=by
 rw [if_neg Bool.false_ne_true]
 exact h
theorem cW {A B:Prop} (h:A):if true=true then A else B:=by
 rw [if_pos rfl]
 exact h
theorem vL {c A B:Prop} [Decidable c] (h1:c→A) (h2:¬c→B):if c then A else B:=by
 by_cases h:c
 ·rw [if_pos h]
  exact h1 h
 ·rw [if_neg h]
  exact h2 h
def aj (H H':Hp):Prop:=∀b o,H b=some o→H' b=some o
theorem aj.refl (H:Hp):aj H H:=fun _ _ h=>h
theorem aj.trans {H H1 H2:Hp} (a:aj H H1) (b:aj H1 H2):aj H H2:=fun c o h=>b c o (a c o h)
theorem aj.free {H H':Hp} (e:aj H H') {l:Addr} (h:H' l=Option.none):H l=Option.none:=by
 cases q:H l with
 | none=>rfl
 | some o=>
  rw [e l o q] at h
  cases h
theorem aj.seq {K:PySem.W.Frag}{H H':Hp}{a:Addr}{xs:List V} (e:aj H H') (h:aG K H a xs):aG K H' a xs:=by
 rcases h with (h | ⟨o,h⟩) | h
 ·exact .inl (.inl (e _ _ h))
 ·exact .inl (.inr ⟨o,e _ _ h⟩)
 ·exact .inr h
end L2
namespace L2
open PySem
theorem qC {scope:Scope}{env:Env} (h:∀y∈scope.names,y.2=.free→∃c,env.cells.lookup y.1=some c) :
 ∃cl,closureFor scope env=pure cl∧(∀x c,cl.lookup x=some c→env.cells.lookup x=some c)∧(∀y∈scope.names,y.2=.free→∃c,cl.lookup y.1=some c):=by
 have go:∀(names:List (Str×NameKind)) (acc:List (Str×Addr)),(∀y∈names,y.2=.free→∃c,env.cells.lookup y.1=some c)→(∀x c,acc.lookup x=some c→env.cells.lookup x=some c)→
  ∃cl,(forIn names acc (fun (x:Str×NameKind) (cs:List (Str×Addr))=>match x with
   | (name,kind)=>if (kind==.free)=true then (do let a ←cellOf env name;pure (ForInStep.yield ((name,a) :: cs))) else pure (ForInStep.yield cs)):Sem (List (Str×Addr)))=pure cl∧
   (∀x c,cl.lookup x=some c→env.cells.lookup x=some c)∧(∀y∈names,y.2=.free→∃c,cl.lookup y.1=some c)∧(∀x c,acc.lookup x=some c→∃c',cl.lookup x=some c'):=by
  intro names
  induction names with
  | nil=>intro acc _ ha;exact ⟨acc,rfl,ha,fun y hy=>(by cases hy),fun x c e=>⟨c,e⟩⟩
  | cons x r ih=>
   intro acc hn ha
   obtain ⟨name,kind⟩:=x
   rw [List.forIn_cons]
   by_cases hk:kind=.free
   ·subst hk
    obtain ⟨c,hc⟩:=hn (name,.free) List.mem_cons_self rfl
    have e:cellOf env name=pure c:=by unfold cellOf;rw [hc]
    obtain ⟨cl,e1,e2,e3,e4⟩:=ih ((name,c) :: acc) (fun y hy=>hn y (List.mem_cons_of_mem _ hy)) (fun x c' hx=>by
     rw [List.lookup_cons] at hx
     split at hx
     ·rename_i hb
      have:x=name:=by simpa using hb
      subst this
      cases hx;exact hc
     ·exact ha x c' hx)
    refine ⟨cl,?_,e2,fun y hy hf=>?_,fun x c' hx=>?_⟩
    ·simp only [beq_self_eq_true,if_true]
     rw [e,pure_bind,pure_bind]
     exact e1
    ·rcases List.mem_cons.mp hy with rfl | hy
     ·exact e4 name c (by simp)
     ·exact e3 y hy hf
    ·by_cases hb:(x==name)=true
     ·have:x=name:=by simpa using hb
      subst this
      exact e4 x c (by simp)
     ·exact e4 x c' (by rw [List.lookup_cons];simp only [Bool.not_eq_true] at hb;rw [hb];exact hx)
   ·have hb:(kind==NameKind.free)=false:=by simpa using hk
    obtain ⟨cl,e1,e2,e3,e4⟩:=ih acc (fun y hy=>hn y (List.mem_cons_of_mem _ hy)) ha
    refine ⟨cl,?_,e2,fun y hy hf=>?_,e4⟩
    ·simp only [hb,Bool.false_eq_true,if_false]
     rw [pure_bind]
     exact e1
    ·rcases List.mem_cons.mp hy with rfl | hy
     ·exact absurd hf hk
     ·exact e3 y hy hf
 obtain ⟨cl,e1,e2,e3,_⟩:=go scope.names [] h (fun x c e=>by simp at e)
 refine ⟨cl,?_,e2,e3⟩
 unfold closureFor
 show (forIn scope.names _ _ >>= fun cs=>pure cs)=_
 rw [bind_pure]
 exact e1
section
variable {prog:Program}{w:World}{A:Around}{R:Result→Shared→Prop}{s:Shared}
theorem vM {elt target iter:Expr}{ifs:List Expr}{scope:Scope}{pos:Pos}{it acc:Value}{env:Env} (I:Nat→Shared→Prop)
 (turn:∀n s,I n s→wpAny (model prog w) A (pyNext it) (fun r s₁=>match r with
  | none=>R (.ok .next) s₁
  | some v=>wpAny (model prog w) A (letOwnedTupleGo target it v) (fun _ s₁'=>wpAny (model prog w) A (assign target env v) (fun _ s₂=>
   wpAny (model prog w) A (forIn ifs true fun c r=>if r=true then do let ok ←isTrue c env (eval c env);pure (ForInStep.yield ok) else pure (ForInStep.yield r)) (fun ok s₃=>
    if ok=true then wpAny (model prog w) A (eval elt env) (fun x s₄=>
     wpAny (model prog w) A (call (.builtin "list.append") [acc,x]) (fun _ s₅=>∃m,m<n∧I m s₅) (fun _ _=>False) s₄) (fun _ _=>False) s₃
    else ∃m,m<n∧I m s₃) (fun _ _=>False) s₂) (fun _ _=>False) s₁') (fun _ _=>False) s₁) (fun _ _=>False) s)
 (n:Nat) (h:I n s) :
 codeAny (model prog w) A (.compLoop (.ListComp elt [⟨target,iter,ifs,0⟩] scope pos) 0 it acc env) R s:=by
 refine codeAny_loop rfl I (fun n s hI=>?_) n h
 show wpAny _ A ((compTurn (.ListComp elt [⟨target,iter,ifs,0⟩] scope pos) 0 it acc env).onRaise (fun x=>do noteFrame x env;theTreesLotGoes x)) _ _ s
 refine wpAny_noted ?_
 rw [compTurn_list]
 refine wpAny_bind (wpAny_standAt (wpAny_bind (wpAny_mono (turn n s hI) (fun r s₁ h₁=>?_) fun _ _ h'=>h'.elim)))
 cases r with
 | none=>exact wpAny_pure h₁
 | some v=>
  refine wpAny_bind (wpAny_mono h₁ (fun _ s₁' h₁'=>?_) fun _ _ h'=>h'.elim)
  refine wpAny_bind (wpAny_mono h₁' (fun _ s₂ h₂=>wpAny_bind (wpAny_mono h₂ (fun ok s₃ h₃=>?_) fun _ _ h'=>h'.elim)) fun _ _ h'=>h'.elim)
  cases ok with
  | false=>exact wpAny_pure ⟨rfl,h₃⟩
  | true=>
   exact wpAny_bind (wpAny_bind (wpAny_mono h₃ (fun x s₄ h₄=>wpAny_bind (wpAny_mono h₄ (fun _ s₅ h₅=>wpAny_pure (wpAny_pure ⟨rfl,h₅⟩)) fun _ _ h'=>h'.elim)) fun _ _ h'=>h'.elim))
end
end L2
namespace L2
open PySem PySem.Spec PyProof.Rows
section
variable {X:Cx}
theorem wJ:fe X (.builtin "isinstance") (fun xs H Q=>ml fun x T t b=>xs=[x,.ty T]∧iV X.K H x t∧PySem.W.kitOne X.K t (.type T)=some b∧Q (.bl b) H):=by
 intro pins s σ H xs us Q I r h
 obtain ⟨x,T,t,b,rfl,ty,e,q⟩:=h
 obtain ⟨u,c,rfl,ru,rc⟩:=r.two
 obtain rfl:c=Value.type T:=rc
 exact yC I ru ty e fun tk=>⟨.bl b,H,I.tok tk,rfl,q⟩
end
def cV (X:Cx) (scope:Scope) (cl:List (Str×Addr)) (C:Addr) (N':List Str) (s:Shared) (H:Hp) (ex:List Addr) (pn:List (Addr×Obj)):Cx:=
 { X with N:=N',s₀:=s,H₀:=H,env:=compEnvC scope cl C X.env,outer:=X.stack,ex:=ex,fn:=fun _=>false,pn:=pn,xe:=fun _ _=>False }
def gO (L:Nat) (src:List Nat) (σ:St):St:=List.replicate L none++src.map fun j=>(σ[j]?).join
def iS (σ σ':St):Prop:=σ'.length=σ.length∧∀(i:Nat) v,σ[i]?=some (some v)→σ'[i]?=some (some v)
theorem fF {x:V}{r:St}:iS (none :: r) (some x :: r):=⟨rfl,fun i v e=>by
 cases i with
 | zero=>simp at e
 | succ i=>simpa using e⟩
theorem EQ {x y:V}{r:St}:iS (none :: none :: r) (some x :: some y :: r):=⟨rfl,fun i v e=>by
 cases i with
 | zero=>simp at e
 | succ i=>
  cases i with
  | zero=>simp at e
  | succ i=>simpa using e⟩
def mV (X:Cx) (ifs:List Expr) (t:TT):Prop:=
 ∀(pins:List (Addr×Obj)) (s:Shared) (σ:St) (H:Hp) (Q:Bool→Hp→Prop),af X pins σ H s→t σ H Q→
   wpAny (model X.prog X.w) X.A (forIn ifs true fun c r=>if r=true then do let ok ←isTrue c X.env (eval c X.env);pure (ForInStep.yield ok) else pure (ForInStep.yield r)) (TP X pins σ Q) X.xe s
def tT:TT:=fun _ H Q=>Q true H
theorem ca {X:Cx}:mV X [] tT:=fun _ _ _ H _ I h=>wpAny_pure ⟨H,I,h⟩
theorem zX {X:Cx}{c:Expr}{t:TT} (hc:PT X c t):mV X [c] t:=by
 intro pins s σ H Q I h
 rw [List.forIn_cons]
 refine wpAny_bind ?_
 rw [if_pos rfl]
 exact wpAny_bind (aR (hc pins s σ H Q I h) fun b s1 q=>wpAny_pure (wpAny_pure q))
def qq (esc:Scope) (N:List Str) (scope:Scope) (N':List Str) (L:Nat) (src:List Nat):Bool:=
 (scope.kind==.function) && scope.names.all (fun y=>y.2 != .cell && (y.2 != .local || scope.names.lookup y.1==some .local) && (y.2 != .free || esc.names.lookup y.1==some .cell || esc.names.lookup y.1==some .free)) &&
  (N'.length==L+src.length) && (List.range src.length).all fun i=>match src[i]?,N'[L+i]? with
   | some j,some x=>(N[j]?==some x) && (scope.names.lookup x==some .free)
   | _,_=>false
structure yJ (esc:Scope) (N:List Str) (scope:Scope) (N':List Str) (L:Nat) (src:List Nat):Prop where
 kind:scope.kind=.function
 nocell:∀y∈scope.names,y.2≠.cell
 loc:∀y∈scope.names,y.2=.local→scope.names.lookup y.1=some .local
 free:∀y∈scope.names,y.2=.free→esc.names.lookup y.1=some .cell∨esc.names.lookup y.1=some .free
 len:N'.length=L+src.length
 frees:∀(i j:Nat),src[i]?=some j→∃x,N'[L+i]?=some x∧N[j]?=some x∧scope.names.lookup x=some .free
theorem tY {esc:Scope}{N:List Str}{scope:Scope}{N':List Str}{L:Nat}{src:List Nat} (h:qq esc N scope N' L src=true):yJ esc N scope N' L src:=by
 unfold qq at h
 simp only [Bool.and_eq_true,List.all_eq_true] at h
 obtain ⟨⟨⟨h1,h2⟩,h3⟩,h4⟩:=h
 refine ⟨by simpa using h1,fun y hy=>?_,fun y hy e=>?_,fun y hy e=>?_,by simpa using h3,fun i j e=>?_⟩
 ·have:=(h2 y hy).1.1
  simpa using this
 ·have:=(h2 y hy).1.2
  rw [e] at this
  simpa using this
 ·have:=(h2 y hy).2
  rw [e] at this
  simpa using this
 ·have hi:i<src.length:=(List.getElem?_eq_some_iff.mp e).1
  have:=h4 i (List.mem_range.mpr hi)
  rw [e] at this
  cases q:N'[L+i]? with
  | none=>rw [q] at this;simp at this
  | some x=>
   rw [q] at this
   simp only [Bool.and_eq_true,beq_iff_eq] at this
   exact ⟨x,rfl,this.1,this.2⟩
def oN (J:It) (σc:St) (g:TG) (tt:TT) (te:TE) (D:Addr) (H1:Hp) (Q:VK):Prop:=
 ∃W:Nat→Nat→Hp→List V→Prop,(∃m,W 0 m (aI H1 D (.lst [])) [])∧∀i m H ys,W i m H ys→H D=some (.lst ys)∧
  ((J.stop i H∧Q (.ref D) H)∨(J.go i H∧ys.length<sizeLine∧∃N:Hp→List V→Prop,(∀H' ys',N H' ys'→∃m',m'<m∧W (i+1) m' H' ys')∧
    ∀x H',J.yld i H x H'→g x σc H' fun σ2 H2=>iS σc σ2∧tt σ2 H2 fun b H3=>if b=true then te σ2 H3 fun y H4=>H4 D=some (.lst ys)∧N (aI H4 D (.lst (ys++[y]))) (ys++[y]) else N H3 ys))
def yi (wi:TI) (L:Nat) (src:List Nat) (g:TG) (tt:TT) (te:TE):TE:=fun σ H Q=>wi σ H fun J H1=>∀D,H1 D=none→oN J (gO L src σ) g tt te D H1 Q
section
variable {X:Cx}{elt tg iter:Expr}{ifs:List Expr}{scope:Scope}{pos:Pos}{N':List Str}{L:Nat}{src:List Nat}{wi:TI}{g:TG}{tt:TT}{te:TE}
end
theorem qf {J:It}{n:Nat}{H1:Hp}{D:Addr}{σc:St}{g:TG}{tt:TT}{te:TE}{Q:VK} (Pv:Nat→Hp→List V→Prop) (hz:n≤sizeLine) (h0:Pv 0 (aI H1 D (.lst [])) [])
 (hD:∀i H ys,Pv i H ys→H D=some (.lst ys)∧ys.length≤i)
 (hgo:∀i H ys,i<n→Pv i H ys→J.go i H) (hst:∀H ys,Pv n H ys→J.stop n H)
 (hs:∀i H ys x H',i<n→Pv i H ys→J.yld i H x H'→g x σc H' fun σ2 H2=>iS σc σ2∧tt σ2 H2 fun b H3=>if b=true then te σ2 H3 fun y H4=>H4 D=some (.lst ys)∧Pv (i+1) (aI H4 D (.lst (ys++[y]))) (ys++[y]) else Pv (i+1) H3 ys)
 (hd:∀H ys,Pv n H ys→Q (.ref D) H):oN J σc g tt te D H1 Q:=by
 refine ⟨fun i m H ys=>m=n - i∧i≤n∧Pv i H ys,⟨n,by simp,Nat.zero_le _,h0⟩,?_⟩
 rintro i m H ys ⟨rfl,hi,p⟩
 obtain ⟨q1,q2⟩:=hD i H ys p
 refine ⟨q1,?_⟩
 by_cases hlt:i<n
 ·exact .inr ⟨hgo i H ys hlt p,by trivial,Pv (i+1),fun H' ys' p'=>⟨n - (i+1),by trivial,rfl,hlt,p'⟩,fun x H' y=>hs i H ys x H' hlt p y⟩
 ·have e:i=n:=by trivial
  subst e
  exact .inl ⟨hst H ys p,hd H ys p⟩
theorem kJ {J:It}{n:Nat}{H1:Hp}{D:Addr}{σc:St}{g:TG}{te:TE}{Q:VK} (Pv:Nat→Hp→List V→Prop) (hz:n≤sizeLine) (h0:Pv 0 (aI H1 D (.lst [])) [])
 (hD:∀i H ys,Pv i H ys→H D=some (.lst ys)∧ys.length≤i)
 (hgo:∀i H ys,i<n→Pv i H ys→J.go i H) (hst:∀H ys,Pv n H ys→J.stop n H)
 (hs:∀i H ys x H',i<n→Pv i H ys→J.yld i H x H'→g x σc H' fun σ2 H2=>iS σc σ2∧te σ2 H2 fun y H4=>H4 D=some (.lst ys)∧Pv (i+1) (aI H4 D (.lst (ys++[y]))) (ys++[y]))
 (hd:∀H ys,Pv n H ys→Q (.ref D) H):oN J σc g tT te D H1 Q:=by
 refine qf Pv hz h0 hD hgo hst (fun i H ys x H' hi p y=>?_) hd
 have e:=hs i H ys x H' hi p y
 have q:(fun (σ2:St) (H2:Hp)=>iS σc σ2∧tT σ2 H2 fun b H3=>if b=true then te σ2 H3 fun y H4=>H4 D=some (.lst ys)∧Pv (i+1) (aI H4 D (.lst (ys++[y]))) (ys++[y]) else Pv (i+1) H3 ys) =
  (fun σ2 H2=>iS σc σ2∧te σ2 H2 fun y H4=>H4 D=some (.lst ys)∧Pv (i+1) (aI H4 D (.lst (ys++[y]))) (ys++[y])):=by
  funext σ2 H2
  unfold tT
  dsimp only
  rw [if_pos rfl]
 rw [q]
 exact e
end L2
namespace L2
open PySem PySem.Spec PyProof.Rows
section
variable {X:Cx}{pins:List (Addr×Obj)}{σ:St}{H:Hp}{s:Shared}{h':Heap}
theorem af.turnedNew {t':Nat}{ch:List Addr}{T:Addr}{o:HO} (I:af X pins σ H s) (hf:∀b∈ch,iT X pins H b) (k:∀b u,b∉ch→s.heap.get? b=some u→h'.get? b=some u)
 (hT:s.heap.objs.size≤T) (new:bo X.prog X.w (aI H T o) h' T o):af X pins σ (aI H T o) { s with heap:=h',toks:=t' }:=by
 have hn:H T=none:=I.hok.fresh hT
 refine I.step (g':=s.gens) (d':=s.drawn) (ch:=ch) (fun b hb=>?_) (fun b o _ _ hc e _=>k b o hc e) (fun b o _ _ hc e _=>⟨o.slots,k b o hc e⟩) (fun b o hc e n=>?_)
  (fun b o hc e=>⟨o,k b o hc e⟩) (fun b xs e=>?_) (fun b o u e=>?_) (fun b ps e=>?_) (fun m hm=>?_) (fun b u e=>?_) I.bare
 ·obtain ⟨f0,f1,f2,f3,f4,f5⟩:=hf b hb
  exact ⟨f3,f1,f4,f5⟩
 ·rw [av (Nat.ne_of_lt (Nat.lt_of_lt_of_le (Heap.lt_size e) hT))];exact n
 ·rw [av (bq e hn)];exact e
 ·rw [av (bq e hn)];exact e
 ·exact ⟨#[],by rw [av (bq e hn),e];simp⟩
 ·obtain ⟨o,es,ep,ho,r⟩:=hm
  exact ⟨o,es,ep,k _ o (fun z=>(hf _ z).2.1 rfl) ho,r⟩
 ·by_cases hb:b=T
  ·subst hb;rw [aC] at e;cases e;exact new
  ·rw [av hb] at e
   refine (I.hok b u e).stay (fun c v hc q=>k c v (fun z=>?_) q) (fun c q=>by rw [av (bq q hn)];exact q) fun c xs q=>by rw [av (bq q hn)];exact q
   have hcn:=(hf c z).1
   rcases hc with rfl | hc
   ·rw [e] at hcn;cases hcn
   ·rw [hc] at hcn;cases hcn
end
section
variable {X:Cx}
theorem yO {bs:List Bool}{us:List Value} (r:aH (bs.map V.bl) us) {i:Nat}{v:Value} (e:us[i]?=some v):∃b,bs[i]?=some b∧v=.bool b:=by
 have hl:=r.length
 rw [List.length_map] at hl
 have hi:i<us.length:=(List.getElem?_eq_some_iff.mp e).1
 have hb:bs[i]?=some bs[i]:=by simp [hl,hi]
 obtain ⟨u,h1,h2⟩:=r.get (i:=i) (x:=.bl bs[i]) (by rw [List.getElem?_map,hb];rfl)
 rw [e] at h1
 cases h1
 exact ⟨_,hb,h2⟩
theorem BC {s:Shared}{h':Heap}{o:Obj} (hk:∀b x,b∉[s.heap.objs.size]→(s.heap.push o).get? b=some x→h'.get? b=some x):∀b x,s.heap.get? b=some x→h'.get? b=some x:=
 fun b x e=>hk b x (fun hm=>by rw [List.mem_singleton.mp hm] at e;exact Nat.lt_irrefl _ (Heap.lt_size e)) (Heap.get?_push_of_some _ e)
theorem As (hc:X.calm=true):fe X (.builtin "all") (fun xs H Q=>bz fun (l:Addr) (bs:List Bool)=>xs=[.ref l]∧aG X.K H l (bs.map V.bl)∧Q (.bl (bs.all id)) H):=by
 intro pins s σ H xs us Q I r h
 obtain ⟨l,bs,rfl,hq,q⟩:=h
 obtain ⟨u,rfl,ru⟩:=r.one
 obtain rfl:u=.ref l:=ru
 obtain ⟨its,rv,p,hz⟩:=I.list hq
 have hl:=p.isList
 have hlt:l<s.heap.objs.size:=by obtain ⟨_,e,_⟩:=hl;exact Heap.lt_size e
 refine call_all_walk (wpAny_pyIter_list hl ?_)
 refine ⟨s.heap.objs.size,[s.heap.objs.size,l],[s.heap.objs.size],its.toArray.size,_,_,fun i=>(bs[i]?).getD true,rfl,Walks.list (A:=X.A.in1) (I.ok.hd hc) _ l (Nat.ne_of_lt hlt) its.toArray,
  ⟨⟨_,Heap.get?_push_size _ rfl,rfl,rfl⟩,hl.push _⟩,fun i v s' Q' E' hP hQ=>?_,fun h' tk hk=>?_⟩
 ·obtain ⟨b,e,rfl⟩:=yO rv (i:=i) (v:=v) (by simpa using hP)
  simp only [e,Option.getD_some] at hQ
  exact wpAny_truthy_bool hQ
 ·have e:((List.range its.toArray.size).all fun i=>(bs[i]?).getD true)=bs.all id:=by
   rw [List.size_toArray,←rv.length,List.length_map];exact LSm.range_all bs
  rw [e]
  exact ⟨.bl _,H,I.kept (BC hk),rfl,q⟩
end
end L2
namespace L2
open PySem PySem.Spec PyProof.Rows
theorem cq:bootBuiltins "len" = some (.builtin "len"):=by decide +kernel
theorem jo:bootBuiltins "abs" = some (.builtin "abs"):=by decide +kernel
theorem xO:bootBuiltins "min" = some (.builtin "min"):=by decide +kernel
theorem yj:bootBuiltins "max" = some (.builtin "max"):=by decide +kernel
theorem sB:bootBuiltins "all" = some (.builtin "all"):=by decide +kernel
theorem va:bootBuiltins "divmod" = some (.builtin "divmod"):=by decide +kernel
theorem dH:bootBuiltins "isinstance" = some (.builtin "isinstance"):=by decide +kernel
theorem mU:bootBuiltins "int" = some (.type "int"):=by decide +kernel
theorem vB:bootBuiltins "bool" = some (.type "bool"):=by decide +kernel
theorem hV:bootBuiltins "list" = some (.type "list"):=by decide +kernel
theorem dE:bootBuiltins "tuple" = some (.type "tuple"):=by decide +kernel
theorem sx {X:Cx}{x:Str}{T:String}{pos:Pos} (hg:Gl X x) (hm:X.mg x=none) (hv:bootBuiltins x=some (.type T)) (hn:x≠"__name__" := by decide) (hd:(x==("__debug__" : Str))=false:=by decide):PE X (.Name x pos) (tC (.ty T)):=
 BU (v:=.ty T) hg hm hv rfl hn hd
mutual
inductive bE (E:Addr→Prop) (H:Hp):V→PyData→Prop
 | non:bE E H .non .none
 | bl (b:Bool):bE E H (.bl b) (.bool b)
 | int (i:Int):bE E H (.int i) (.int i)
 | str (x:Str):bE E H (.str x) (.str x)
 | lst {a:Addr}{xs:List V}{ds:List PyData} (h:H a=some (.lst xs)) (ne:¬E a) (r:aJ E H xs ds):bE E H (.ref a) (.list ds)
 | tup {a:Addr}{xs:List V}{ds:List PyData} (h:H a=some (.tup xs)) (r:aJ E H xs ds):bE E H (.ref a) (.tuple ds)
inductive aJ (E:Addr→Prop) (H:Hp):List V→List PyData→Prop
 | nil:aJ E H [] []
 | cons {x:V}{xs:List V}{d:PyData}{ds:List PyData} (h:bE E H x d) (r:aJ E H xs ds):aJ E H (x :: xs) (d :: ds)
end
structure bh (E:Addr→Prop) (H H':Hp):Prop where
 old:∀a o,¬E a→H a=some o→H' a=some o
 tup:∀a xs,H a=some (.tup xs)→H' a=some (.tup xs)
mutual
theorem bE.mono {E:Addr→Prop}{H H':Hp} (k:bh E H H'):∀{v:V}{d:PyData},bE E H v d→bE E H' v d
 | _,_,.non=>.non
 | _,_,.bl b=>.bl b
 | _,_,.int i=>.int i
 | _,_,.str x=>.str x
 | _,_,.lst h ne r=>.lst (k.old _ _ ne h) ne (aJ.mono k r)
 | _,_,.tup h r=>.tup (k.tup _ _ h) (aJ.mono k r)
theorem aJ.mono {E:Addr→Prop}{H H':Hp} (k:bh E H H'):∀{vs:List V}{ds:List PyData},aJ E H vs ds→aJ E H' vs ds
 | _,_,.nil=>.nil
 | _,_,.cons h r=>.cons (bE.mono k h) (aJ.mono k r)
end
theorem bh.trans {E:Addr→Prop}{H H1 H2:Hp} (a:bh E H H1) (b:bh E H1 H2):bh E H H2:=⟨fun c o n h=>b.old c o n (a.old c o n h),fun c xs h=>b.tup c xs (a.tup c xs h)⟩
theorem aj.toE {E:Addr→Prop}{H H':Hp} (a:aj H H'):bh E H H':=⟨fun c o _ h=>a c o h,fun c xs h=>a c _ h⟩
theorem aj.new {H:Hp}{p:Addr}{o:HO} (h:H p=none):aj H (aI H p o):=fun b u e=>by rw [av (bq e h)];exact e
theorem aJ.length {E:Addr→Prop}{H:Hp}:∀{vs:List V}{ds:List PyData},aJ E H vs ds→vs.length=ds.length
 | _,_,.nil=>rfl
 | _,_,.cons _ r=>by simp [aJ.length r]
theorem aJ.get {E:Addr→Prop}{H:Hp}:∀{vs:List V}{ds:List PyData}{i:Nat}{v:V},aJ E H vs ds→vs[i]?=some v→∃d,ds[i]?=some d∧bE E H v d
 | _,_,_,_,.nil,e=>by simp at e
 | _,_,0,_,.cons h _,e=>by simp at e;subst e;exact ⟨_,rfl,h⟩
 | _,_,i+1,v,.cons _ r,e=>by
  obtain ⟨d,h1,h2⟩:=aJ.get (i:=i) (v:=v) r (by simpa using e)
  exact ⟨d,by simpa using h1,h2⟩
theorem aJ.append {E:Addr→Prop}{H:Hp}:∀{vs ws:List V}{ds es:List PyData},aJ E H vs ds→aJ E H ws es→aJ E H (vs++ws) (ds++es)
 | _,_,_,_,.nil,s=>s
 | _,_,_,_,.cons h r,s=>.cons h (aJ.append r s)
mutual
theorem bE.reads {E:Addr→Prop}{P:Program}{w:World}{H:Hp}{h:Heap} (ok:dJ P w H h):∀{v:V}{d:PyData},bE E H v d→∀{u:Value},bc v u→∃as,Reads h u d as
 | _,_,.non,u,r=>by obtain rfl:u=.none:=r;exact ⟨_,.none⟩
 | _,_,.bl b,u,r=>by obtain rfl:u=.bool b:=r;exact ⟨_,.bool b⟩
 | _,_,.int i,u,r=>by obtain ⟨t,rfl⟩:=r;exact ⟨_,.int i t⟩
 | _,_,.str x,u,r=>by obtain ⟨t,rfl⟩:=r;exact ⟨_,.str x t⟩
 | _,_,.lst (a:=a) (xs:=xs) e _ q,u,r=>by
  obtain rfl:u=.ref a:=r
  obtain ⟨_,its,n,rv,e1⟩:=(show bo P w H h a (.lst xs) from ok a _ e)
  obtain ⟨as,ra⟩:=aJ.reads ok q rv
  exact ⟨_,.list e1 rfl rfl (by simpa using ra)⟩
 | _,_,.tup (a:=a) (xs:=xs) e q,u,r=>by
  obtain rfl:u=.ref a:=r
  obtain ⟨_,its,rv,⟨o,e1,c,n,dd⟩,_⟩:=(show bo P w H h a (.tup xs) from ok a _ e)
  obtain ⟨as,ra⟩:=aJ.reads ok q rv
  exact ⟨_,.tuple e1 c dd (by simpa using ra)⟩
theorem aJ.reads {E:Addr→Prop}{P:Program}{w:World}{H:Hp}{h:Heap} (ok:dJ P w H h):∀{vs:List V}{ds:List PyData},aJ E H vs ds→∀{us:List Value},aH vs us→∃as,ReadsAll h us ds as
 | _,_,.nil,us,r=>by cases r;exact ⟨_,.nil⟩
 | _,_,.cons q qs,us,r=>by
  cases r with
  | cons r1 rr=>
   obtain ⟨as,h1⟩:=bE.reads ok q r1
   obtain ⟨bs,h2⟩:=aJ.reads ok qs rr
   exact ⟨_,.cons h1 h2⟩
end
section
variable {X:Cx}
def yb (_ j:Int):Prop:=0<j∧j.natAbs.log2<9000
theorem wF:cD X (binaryOp .FloorDiv) (rI yb fun i j=>.int (i / j)):=uC fun i j _ _ _ _ _ hc q=>by
 rw [←Int.fdiv_eq_ediv_of_nonneg _ (Int.le_of_lt hc.1)] at q
 exact floordiv_int (Int.ne_of_gt hc.1) q (.inl (PyProof.noPylong_of_log2 hc.2))
end
end L2
namespace L2
open PySem PySem.Spec PyProof.Rows
def zK:PyData→String
 | .none => "NoneType"
 | .bool _ => "bool"
 | .int _ => "int"
 | .str _ => "str"
 | .list _ => "list"
 | .tuple _ => "tuple"
 | .dict _ => "dict"
theorem bE.ty {K:PySem.W.Frag}{E:Addr→Prop}{H:Hp}{v:V}{d:PyData} (h:bE E H v d):iV K H v (.type (zK d)):=by
 cases h with
 | non=>exact .non
 | bl b=>exact .bl b
 | int i=>exact .int i
 | str x=>exact .str x
 | lst h ne r=>exact .lst h
 | tup h r=>exact .tup h
def DT:PyData→Bool
 | .int _=>true
 | .bool _=>true
 | _=>false
def Cg:PyData→Bool
 | .bool _=>true
 | _=>false
def El:PyData→Bool
 | .tuple _=>true
 | _=>false
def EK:PyData→Bool
 | .list _=>true
 | _=>false
theorem Br {K:PySem.W.Frag} (d:PyData):PySem.W.kitOne K (.type (zK d)) (.type "int")=some (DT d):=by cases d <;> rfl
theorem Aj {K:PySem.W.Frag} (d:PyData):PySem.W.kitOne K (.type (zK d)) (.type "bool")=some (Cg d):=by cases d <;> rfl
theorem yR {K:PySem.W.Frag} (d:PyData):PySem.W.kitOne K (.type (zK d)) (.type "tuple")=some (El d):=by cases d <;> rfl
theorem vT {K:PySem.W.Frag} (d:PyData):PySem.W.kitOne K (.type (zK d)) (.type "list")=some (EK d):=by cases d <;> rfl
inductive FI (K:PySem.W.Frag) (xs:List V) (H:Hp) (Q:VK):Prop
 | mk (x:_) (T:_) (t:_) (b:_) (h0:xs=[x,.ty T]) (h1:iV K H x t) (h2:PySem.W.kitOne K t (.type T)=some b) (h3:Q (.bl b) H)
def GG (K:PySem.W.Frag):List V→Hp→VK→Prop:=fun xs H Q=>FI K xs H Q
end L2
namespace L2
open PySem PySem.Spec PyProof.Rows
section
variable {X:Cx}
theorem wn:fe X (.builtin "divmod") (fun xs H Q=>bz fun i j=>xs=[.int i,.int j]∧yb i j∧∀p,H p=none→Q (.ref p) (aI H p (.tup [.int (i / j),.int (i % j)]))):=by
 intro pins s σ H xs us Q I r h
 obtain ⟨i,j,rfl,⟨h1,h2⟩,q⟩:=h
 obtain ⟨u,w',rfl,⟨t,rfl⟩,⟨t',rfl⟩⟩:=vg r
 refine divmod_int (by trivial) ?_ (.inl (PyProof.noPylong_of_log2 h2))
 rw [Int.fdiv_eq_ediv_of_nonneg i (by trivial),Int.fmod_eq_emod_of_nonneg i (by trivial)]
 have hn:H s.heap.objs.size=none:=I.hok.fresh (Nat.le_refl _)
 refine ⟨.ref s.heap.objs.size,_,?_,rfl,q _ hn⟩
 refine I.laid (fun b o e=>Heap.get?_push_of_some _ e) (Nat.le_refl _) ⟨by simp only [List.length_cons,List.length_nil];rw [sizeLine_eq];decide,[.int (i / j) s.toks,.int (i % j) (s.toks+1)],.cons ⟨_,rfl⟩ (.cons ⟨_,rfl⟩ .nil),?_⟩
 exact ⟨⟨_,Heap.get?_push_size s.heap rfl,rfl,0,rfl⟩,_,Heap.get?_push_size s.heap rfl,rfl⟩
end
theorem G7 (c:Bool):-(2 ^ 64)<(if c=true then (1:Int) else 0)∧(if c=true then (1:Int) else 0)<2 ^ 64:=by cases c <;> decide
theorem vq (x:Int):0≤(if x<0 then -x else x):=by split <;> trivial
theorem E4 {x:Int} (c:Bool) (h:0≤x):0≤x*(if c=true then (1:Int) else 0):=by cases c <;> simp [h]
theorem BP {ms:List Int}{k:Int} (h0:0≤k) (h:k.toNat<ms.length):ma (ms.map V.int) k=some (V.int ms[k.toNat]):=by
 have q:=bH (xs:=ms.map V.int) (j:=k.toNat) (v:=V.int ms[k.toNat]) (by rw [List.getElem?_map];simp [h])
 rwa [Int.toNat_of_nonneg h0] at q
inductive Bx (H:Hp) (b:Addr) (t:Int):Prop
 | mk (c x:Int) (h0:H b=some (.lst [.int c,.int x,.int t])) (h1:0≤c) (h2:0≤x) (h3:x<2147483647)
abbrev Eb (b:Addr):Addr→Prop:=fun a=>a=b
theorem Bx.same {H H':Hp}{b:Addr}{t:Int} (h:Bx H b t) (k:aj H H'):Bx H' b t:=by
 obtain ⟨c,x,e,r,r2,r3⟩:=h
 exact ⟨c,x,k _ _ e,r,r2,r3⟩
theorem ul {H H1:Hp}{b:Addr}{xs:List V}{o:HO} (k:aj H H1) (hb:H1 b=some (.lst xs)):bh (Eb b) H (aI H1 b o):=
 ⟨fun a u n h=>by rw [av n];exact k a u h,fun a ys h=>by
  have e:=k a _ h
  rw [av (A9 e hb (by intro z;cases z))];exact e⟩
inductive Dz (K:PySem.W.Frag) (vs:List V) (H:Hp) (Q:VK):Prop
 | mk (a:Addr) (ms:List Int) (k:Int) (h0:vs=[.ref a,.int k]) (h1:aG K H a (ms.map V.int)) (h2:0≤k) (h3:k≤63) (h4:∀p H',H p=none→aj H H'→Bx H' p 0→Q (.ref p) H')
def F1 (K:PySem.W.Frag):Sp:=fun vs H Q _=>Dz K vs H Q
inductive Co (vs:List V) (H:Hp) (Q:VK):Prop
 | mk (b:Addr) (many t:Int) (h0:vs=[.ref b,.int many]) (h1:Bx H b t) (h2:0<many) (h3:many.natAbs.log2<9000) (h4:0≤t) (h5:t≤1000000) (h6:∀r t' H',0≤r→r<many→t≤t'→t'≤t+1→bh (Eb b) H H'→Bx H' b t'→Q (.int r) H')
def En:Sp:=fun vs H Q _=>Co  vs H Q
end L2
namespace L2
open PySem PySem.Spec PyProof.Rows
def wj:List Str→Bool
 | []=>true
 | x :: r=>!r.contains x && wj r
theorem cG:∀l:List Str,wj l=true→l.Nodup
 | [],_=>List.nodup_nil
 | x :: r,h=>by
  unfold wj at h
  simp only [Bool.and_eq_true,Bool.not_eq_true',List.contains_eq_mem,decide_eq_false_iff_not] at h
  exact List.nodup_cons.mpr ⟨h.1,cG r h.2⟩
inductive Fm (K:PySem.W.Frag) (xs:List V) (H:Hp) (Q:VK):Prop
 | mk (p:_) (ys:_) (h0:xs=[.ref p]) (h1:(aG K H p ys∨au K H p ys)) (h2:Q (.int ys.length) H)
def G1 (K:PySem.W.Frag):List V→Hp→VK→Prop:=fun xs H Q=>Fm K xs H Q
section
variable {X:Cx}{K:PySem.W.Frag}
theorem lM (e:X.K=K:=by rfl):fe X (.builtin "isinstance") (GG K):=by subst e;exact fun pins s σ H xs us Q I r ⟨x,T,t,b,h1,h2,h3,q⟩=>wJ pins s σ H xs us Q I r ⟨x,T,t,b,h1,h2,h3,q⟩
theorem ju (e:X.K=K:=by rfl):fe X (.builtin "len") (G1 K):=by subst e;exact fun pins s σ H xs us Q I r ⟨p,ys,h1,h2,q⟩=>pR pins s σ H xs us Q I r ⟨p,ys,h1,h2,q⟩
theorem fb (e:X.K=K:=by rfl):pf X (AN K):=by subst e;exact xg
theorem aN (e:X.K=K:=by rfl):pf X (Aa K):=by subst e;exact yx
theorem Ci (e:X.K=K:=by rfl):cD X (compareOp .NotIn) (Gh K true):=by subst e;exact wt
inductive FN (K:PySem.W.Frag) (xs:List V) (H:Hp) (Q:VK):Prop
 | mk (l:Addr) (bs:List Bool) (h0:xs=[.ref l]) (h1:aG K H l (bs.map V.bl)) (h2:Q (.bl (bs.all id)) H)
def Gz (K:PySem.W.Frag):List V→Hp→VK→Prop:=fun xs H Q=>FN K xs H Q
theorem Be (hc:X.calm=true) (e:X.K=K:=by rfl):fe X (.builtin "all") (Gz K):=by subst e;exact fun pins s σ H xs us Q I r ⟨l,bs,h1,h2,q⟩=>As hc pins s σ H xs us Q I r ⟨l,bs,h1,h2,q⟩
theorem cY {pos:Pos}{es:List Expr}{k:Nat}{t:qV}{n:Nat} (hc:X.calm=true) (h:yY X es t) (e:X.K=K:=by rfl)
 (hn:(assignEach es X.env).length=n:=by rfl) (hst:(assignEach es X.env).findIdx? (·.1)=none:=by rfl):PG X (.Tuple es k pos) (CO K n t):=by
 subst e;exact zN hc h hn hst
theorem kh {tg l:Expr}{tl:TE} (hl:PE X l tl) (e:X.K=K:=by rfl):PI X tg l (AV K tl):=by subst e;exact CK hl
theorem jO {tg l:Expr}{tl:TE} (hl:PE X l tl) (e:X.K=K:=by rfl):PI X tg l (DS K tl):=by subst e;exact CU hl
end
end L2
namespace L2
open PySem PySem.Spec PyProof.Rows
def tW:Expr→Bool
 | .Starred ..=>false
 | _=>true
theorem zH {e:Expr}{es:List Expr}{env:Env} (h:tW e=true):starEach (e :: es) env=(false,eval e env) :: starEach es env:=by
 cases e <;> first | rfl | (simp [tW] at h)
section
variable {X:Cx}{e:Expr}{es:List Expr}{te:TE}{t:TA}
theorem aa (ha:PE X e te) (hr:PA X es t) (hs:tW e=true:=by rfl):PA X (e :: es) (Bg te t):=dX ha hr (zH hs)
theorem pw (i:Nat) {x:Str}{pos:Pos} (hv:zk X.env.scope x) (hN:X.N[i]?=some x:=by rfl) (hd:(x==("__debug__" : Str))=false:=by decide) (hcd:(x==("__classdict__" : Str))=false:=by decide):PE X (.Name x pos) (AC i):=zF hN hv hd hcd
end
end L2
namespace KM
theorem gcd_fmod (n d:Int):Int.gcd d (n.fmod d)=Int.gcd n d:=by
 apply Nat.dvd_antisymm
 ·apply Int.dvd_gcd
  ·have h1:((Int.gcd d (n.fmod d):Nat):Int) ∣ d:=Int.gcd_dvd_left ..
   have h2:((Int.gcd d (n.fmod d):Nat):Int) ∣ n.fmod d:=Int.gcd_dvd_right ..
   have h3:=Int.dvd_add h2 (Int.dvd_mul_of_dvd_left (c:=n.fdiv d) h1)
   rw [Int.fmod_add_mul_fdiv] at h3
   exact h3
  ·exact Int.gcd_dvd_left ..
 ·apply Int.dvd_gcd
  ·exact Int.gcd_dvd_right ..
  ·rw [Int.fmod_def]
   exact Int.dvd_sub (Int.gcd_dvd_left ..) (Int.dvd_mul_of_dvd_left (Int.gcd_dvd_right ..))
theorem fmod_natAbs_lt (n d:Int) (h:d≠0):(n.fmod d).natAbs<d.natAbs:=by
 rcases Int.lt_trichotomy d 0 with hd | hd | hd
 ·have e:n.fmod d=-((-n).fmod (-d)):=by
   rw [Int.fmod_def,Int.fmod_def]
   have:(-n).fdiv (-d)=n.fdiv d:=Int.neg_fdiv_neg n d
   rw [this,Int.neg_mul];trivial
  have h1:=Int.fmod_nonneg_of_pos (-n) (b:=-d) (by trivial)
  have h2:=Int.fmod_lt_of_pos (-n) (b:=-d) (by trivial)
  trivial
 ·exact absurd hd h
 ·have h1:=Int.fmod_nonneg_of_pos n hd
  have h2:=Int.fmod_lt_of_pos n hd
  trivial
theorem gcd_zero_abs (n:Int):((Int.gcd n 0:Nat):Int)=if n<0 then -n else n:=by
 rw [Int.gcd_zero_right]
 split <;> trivial
theorem gcd_emod (n d:Int):Int.gcd d (n % d)=Int.gcd n d:=by
 by_cases h:d=0
 ·subst h;rw [Int.emod_zero,Int.gcd_comm]
 ·apply Nat.dvd_antisymm
  ·apply Int.dvd_gcd
   ·have h1:((Int.gcd d (n % d):Nat):Int) ∣ d:=Int.gcd_dvd_left ..
    have h2:((Int.gcd d (n % d):Nat):Int) ∣ n % d:=Int.gcd_dvd_right ..
    have h3:=Int.dvd_add h2 (Int.dvd_mul_of_dvd_left (c:=n / d) h1)
    rw [Int.emod_add_mul_ediv] at h3
    exact h3
   ·exact Int.gcd_dvd_left ..
  ·apply Int.dvd_gcd
   ·exact Int.gcd_dvd_right ..
   ·rw [Int.emod_def]
    exact Int.dvd_sub (Int.gcd_dvd_left ..) (Int.dvd_mul_of_dvd_left (Int.gcd_dvd_right ..))
end KM
namespace KM
def low (n d:Int):Int×Int:=if 0<d then (n / (Int.gcd n d:Nat),d / (Int.gcd n d:Nat)) else (-n / (Int.gcd n d:Nat),-d / (Int.gcd n d:Nat))
theorem gcd_pos {n d:Int} (h:d≠0):0<Int.gcd n d:=by
 apply Nat.pos_of_ne_zero
 intro e
 exact h (Int.gcd_eq_zero_iff.mp e).2
theorem gcd_abs (n d:Int):Int.gcd (if n<0 then -n else n) (if d<0 then -d else d)=Int.gcd n d:=by
 split <;> split <;> simp [Int.gcd_neg,Int.neg_gcd]
theorem low_spec (n d:Int) (h:d≠0):1≤(low n d).2∧(low n d).1*d=n*(low n d).2∧Int.gcd (low n d).1 (low n d).2=1∧(low n d).1.natAbs≤n.natAbs∧(low n d).2.natAbs≤d.natAbs:=by
 have g0:=gcd_pos (n:=n) h
 have gi:((Int.gcd n d:Nat):Int)≠0:=by trivial
 have d1:((Int.gcd n d:Nat):Int) ∣ n:=Int.gcd_dvd_left ..
 have d2:((Int.gcd n d:Nat):Int) ∣ d:=Int.gcd_dvd_right ..
 obtain ⟨a,ha⟩:=d1
 obtain ⟨b,hb⟩:=d2
 have ea:n / ((Int.gcd n d:Nat):Int)=a:=by
  conv=>lhs;lhs;rw [ha]
  exact Int.mul_ediv_cancel_left _ gi
 have eb:d / ((Int.gcd n d:Nat):Int)=b:=by
  conv=>lhs;lhs;rw [hb]
  exact Int.mul_ediv_cancel_left _ gi
 have ena:-n / ((Int.gcd n d:Nat):Int)=-a:=by
  have:-n=((Int.gcd n d:Nat):Int)*(-a):=by rw [Int.mul_neg];trivial
  rw [this]
  exact Int.mul_ediv_cancel_left _ gi
 have enb:-d / ((Int.gcd n d:Nat):Int)=-b:=by
  have:-d=((Int.gcd n d:Nat):Int)*(-b):=by rw [Int.mul_neg];trivial
  rw [this]
  exact Int.mul_ediv_cancel_left _ gi
 have hco:Int.gcd a b=1:=by
  have:=Int.gcd_ediv_gcd_ediv_gcd (i:=n) (j:=d) g0
  rw [ea,eb] at this
  exact this
 have hgp:(0:Int)<((Int.gcd n d:Nat):Int):=by trivial
 have habs:n.natAbs=Int.gcd n d*a.natAbs:=by
  conv=>lhs;rw [ha]
  rw [Int.natAbs_mul];rfl
 have hbbs:d.natAbs=Int.gcd n d*b.natAbs:=by
  conv=>lhs;rw [hb]
  rw [Int.natAbs_mul];rfl
 have la:a.natAbs≤n.natAbs:=by rw [habs];exact Nat.le_mul_of_pos_left _ g0
 have lb:b.natAbs≤d.natAbs:=by rw [hbbs];exact Nat.le_mul_of_pos_left _ g0
 have hab:a*d=n*b:=by
  generalize ((Int.gcd n d:Nat):Int)=g at ha hb
  subst ha hb
  rw [Int.mul_comm g a,Int.mul_assoc]
 unfold low
 split
 ·rename_i hd
  refine ⟨?_,?_,?_,?_,?_⟩
  ·show 1≤d / _
   rw [eb]
   have:0<b:=by
    apply Int.pos_of_mul_pos_right (a:=((Int.gcd n d:Nat):Int)) _ hgp
    rw [←hb];exact hd
   trivial
  ·show n / _*d=n*(d / _)
   rw [ea,eb];exact hab
  ·show Int.gcd (n / _) (d / _)=1
   rw [ea,eb];exact hco
  ·show (n / _).natAbs≤_
   rw [ea];exact la
  ·show (d / _).natAbs≤_
   rw [eb];exact lb
 ·rename_i hd
  refine ⟨?_,?_,?_,?_,?_⟩
  ·show 1≤-d / _
   rw [enb]
   have:0 < -b:=by
    apply Int.pos_of_mul_pos_right (a:=((Int.gcd n d:Nat):Int)) _ hgp
    rw [Int.mul_neg,←hb];trivial
   trivial
  ·show -n / _*d=n*(-d / _)
   rw [ena,enb,Int.neg_mul,Int.mul_neg,hab]
  ·show Int.gcd (-n / _) (-d / _)=1
   rw [ena,enb,Int.gcd_neg,Int.neg_gcd];exact hco
  ·show (-n / _).natAbs≤_
   rw [ena,Int.natAbs_neg];exact la
  ·show (-d / _).natAbs≤_
   rw [enb,Int.natAbs_neg];exact lb
end KM
namespace KM
theorem low_uniq {n d a b:Int} (hd:d≠0) (hb:1≤b) (hg:Int.gcd a b=1) (he:a*d=n*b):low n d=(a,b):=by
 obtain ⟨h1,h2,h3,_,_⟩:=low_spec n d hd
 generalize low n d=z at *
 obtain ⟨x,y⟩:=z
 dsimp only at h1 h2 h3
 have e1:x*b=a*y:=by
  apply Int.eq_of_mul_eq_mul_right hd
  calc x*b*d=(x*d)*b:=by rw [Int.mul_assoc,Int.mul_comm b d,←Int.mul_assoc]
   _=n*y*b:=by rw [h2]
   _=(n*b)*y:=by rw [Int.mul_assoc,Int.mul_comm y b,←Int.mul_assoc]
   _=a*d*y:=by rw [he]
   _=a*y*d:=by rw [Int.mul_assoc,Int.mul_comm d y,←Int.mul_assoc]
 have d1:y ∣ b:=by
  apply Int.natAbs_dvd_natAbs.mp
  apply Nat.Coprime.dvd_of_dvd_mul_left (k:=y.natAbs) (m:=x.natAbs)
  ·show Nat.gcd y.natAbs x.natAbs=1
   rw [Nat.gcd_comm];exact h3
  ·rw [←Int.natAbs_mul]
   exact Int.natAbs_dvd_natAbs.mpr ⟨a,by rw [e1,Int.mul_comm]⟩
 have d2:b ∣ y:=by
  apply Int.natAbs_dvd_natAbs.mp
  apply Nat.Coprime.dvd_of_dvd_mul_left (k:=b.natAbs) (m:=a.natAbs)
  ·show Nat.gcd b.natAbs a.natAbs=1
   rw [Nat.gcd_comm];exact hg
  ·rw [←Int.natAbs_mul]
   exact Int.natAbs_dvd_natAbs.mpr ⟨x,by rw [←e1,Int.mul_comm]⟩
 have e2:y=b:=Int.dvd_antisymm (by trivial) (by trivial) d1 d2
 subst e2
 have e3:x=a:=Int.eq_of_mul_eq_mul_right (by trivial) e1
 rw [e3]
theorem low_self {a b:Int} (hb:1≤b) (hg:Int.gcd a b=1):low a b=(a,b):=low_uniq (by trivial) hb hg rfl
section
variable {p0 p1 q0 q1:Int}
end
theorem fdiv_low {n d:Int} (hd:d≠0):(n.fdiv (if d<0 then -((Int.gcd n d:Nat):Int) else ((Int.gcd n d:Nat):Int)),d.fdiv (if d<0 then -((Int.gcd n d:Nat):Int) else ((Int.gcd n d:Nat):Int)))=low n d:=by
 have g0:(0:Int)≤((Int.gcd n d:Nat):Int):=Int.natCast_nonneg _
 unfold low
 by_cases h:d<0
 ·rw [if_pos h,if_neg (by trivial)]
  have e:∀x:Int,x.fdiv (-((Int.gcd n d:Nat):Int))=-x / ((Int.gcd n d:Nat):Int):=fun x=>by
   rw [←Int.fdiv_eq_ediv_of_nonneg _ g0,←Int.neg_fdiv_neg,Int.neg_neg]
  rw [e,e]
 ·rw [if_neg h,if_pos (by trivial),Int.fdiv_eq_ediv_of_nonneg _ g0,Int.fdiv_eq_ediv_of_nonneg _ g0]
end KM
namespace KM
abbrev Fra:=Int×Int
theorem wL {p q:Fra} (hp:1≤p.2) (hq:1≤q.2) (gp:Int.gcd p.1 p.2=1) (gq:Int.gcd q.1 q.2=1) (h:q.1*p.2=p.1*q.2):p=q:=by
 have e1:=low_self hp gp
 have e2:=low_uniq (n:=p.1) (d:=p.2) (a:=q.1) (b:=q.2) (by trivial) hq gq h
 rw [e1] at e2
 exact e2
theorem low_sgn {n d:Int} (hd:0<d):(0<(low n d).1↔0<n)∧((low n d).1<0↔n<0):=by
 obtain ⟨h1,h2,_,_,_⟩:=low_spec n d (by trivial)
 generalize low n d=z at *
 obtain ⟨x,y⟩:=z
 dsimp only at *
 have hy:0<y:=by trivial
 constructor
 ·constructor
  ·intro h
   have:0<x*d:=Int.mul_pos h hd
   rw [h2] at this
   exact Int.pos_of_mul_pos_left this hy
  ·intro h
   have:0<n*y:=Int.mul_pos h hy
   rw [←h2] at this
   exact Int.pos_of_mul_pos_left this hd
 ·constructor
  ·intro h
   have:x*d<0:=Int.mul_neg_of_neg_of_pos h hd
   rw [h2] at this
   apply Decidable.byContradiction
   intro hn
   have:=Int.mul_nonneg (show 0≤n by trivial) (show 0≤y by trivial)
   trivial
  ·intro h
   have:n*y<0:=Int.mul_neg_of_neg_of_pos h hy
   rw [←h2] at this
   apply Decidable.byContradiction
   intro hn
   have:=Int.mul_nonneg (show 0≤x by trivial) (show 0≤d by trivial)
   trivial
end KM
namespace KM
def vl (p:Fra):Rat:=Rat.divInt p.1 p.2
def Rd (p:Fra):Prop:=1≤p.2∧Int.gcd p.1 p.2=1
theorem Rd.low {n d:Int} (h:d≠0):Rd (KM.low n d):=⟨(low_spec n d h).1,(low_spec n d h).2.2.1⟩
theorem Dm {n d:Int} (h:d≠0):vl (low n d)=Rat.divInt n d:=by
 obtain ⟨h1,h2,_⟩:=low_spec n d h
 exact (Rat.divInt_eq_divInt_iff (by trivial) h).mpr (by rw [h2])
theorem Rd.eq {p q:Fra} (hp:Rd p) (hq:Rd q) (h:vl p=vl q):p=q:=by
 have:=(Rat.divInt_eq_divInt_iff (d₁:=p.2) (d₂:=q.2) (by have:=hp.1;trivial) (by have:=hq.1;trivial)).mp h
 exact wL hp.1 hq.1 hp.2 hq.2 this.symm
theorem Dg {a b:Int} (h:a≠0) (k:b≠0):a*b≠0:=Int.mul_ne_zero h k
def lTim (p q:Fra):Fra:=low (p.1*q.1) (p.2*q.2)
theorem vl_tim {p q:Fra} (hp:p.2≠0) (hq:q.2≠0):vl (lTim p q)=vl p*vl q:=by
 unfold lTim
 rw [Dm (Dg hp hq)]
 exact (Rat.divInt_mul_divInt _ _).symm
theorem vl_zero:vl (0,1)=0:=Rat.zero_divInt 1
end KM
namespace L2
open PySem PySem.Spec PyProof.Rows
section
variable {prog:Program}{w:World}{A:Around}{E:Value→Shared→Prop}{s:Shared}
theorem xX {it t:Addr}{i:Nat}{its:Array Value}{x:Value}{Q:Value→Shared→Prop} (hit:s.heap.IsTupleIter it t i) (ht:s.heap.IsTuple t its) (hx:its[i]?=some x)
 (q:∀h',h'.IsTupleIter it t (i+1)→Heap.SameBut it s.heap h'→Q x { s with heap:=h' }):wpAny (model prog w) A (Builtin.SmallTypes.nextOf (.ref it)) Q E s:=by
 obtain ⟨o,e1,e2,e3⟩:=id hit;obtain ⟨u,e4,_,k,e5⟩:=ht;unfold Builtin.SmallTypes.nextOf
 refine wpAny_bind (wpAny_callSpecial?_slot (name:=Str.ofString "__next__") hit.typeIs F.slot_tuple_iterator_next (wpAny_call_entry F.slot_tuple_iterator_next hit.typeIs F.entry_tuple_iterator_next ?_ (F.args_tuple_iterator_next_1 _)))
 show wpAny _ _ (field (.ref it) 0 >>= _) _ _ s;refine wpAny_bind (wpAny_field e1 e3 (x:=.ref t) rfl ?_)
 show wpAny _ _ (if (Value.ref t==Value.none)=true then _ else _) _ _ s;rw [if_neg (show ¬((Value.ref t==Value.none)=true) from Bool.false_ne_true)]
 show wpAny _ _ (field (.ref it) 1 >>= _) _ _ s;refine wpAny_bind (wpAny_field e1 e3 (x:=.int i 0) rfl ?_)
 show wpAny _ _ (seqItems? (.ref t) >>= _) _ _ s;refine wpAny_bind (wpAny_seqItems e4 e5 ?_)
 simp only [Int.toNat_natCast,hx];refine wpAny_bind (wpAny_setField e1 e3 (by simp) (wpAny_pure ⟨x,rfl,wpAny_pure (q _ ?_ (Heap.SameBut.update ..))⟩))
 exact ⟨_,Heap.get?_update_self _ e1 (Obj.isFreed_of_fields (Obj.data_mapFields e3 _)),(Obj.cls_mapFields ..).trans e2,by rw [Obj.data_mapFields e3];simp [rawInt]⟩
theorem uV {it t:Addr}{i:Nat}{its:Array Value}{Q:Value→Shared→Prop} (hh:A.handled=none) (hit:s.heap.IsTupleIter it t i) (ht:s.heap.IsTuple t its) (hx:its[i]?=none)
 (q:∀h' e,Heap.ExtBut it s.heap h'→(∃o,h'.get? e=some o∧o.cls=.type "StopIteration")→E (.ref e) { s with heap:=h' }):wpAny (model prog w) A (Builtin.SmallTypes.nextOf (.ref it)) Q E s:=by
 obtain ⟨o,e1,e2,e3⟩:=id hit;obtain ⟨u,e4,_,k,e5⟩:=ht;unfold Builtin.SmallTypes.nextOf
 refine wpAny_bind (wpAny_callSpecial?_slot (name:=Str.ofString "__next__") hit.typeIs F.slot_tuple_iterator_next (wpAny_call_entry F.slot_tuple_iterator_next hit.typeIs F.entry_tuple_iterator_next ?_ (F.args_tuple_iterator_next_1 _)))
 show wpAny _ _ (field (.ref it) 0 >>= _) _ _ s;refine wpAny_bind (wpAny_field e1 e3 (x:=.ref t) rfl ?_)
 show wpAny _ _ (if (Value.ref t==Value.none)=true then _ else _) _ _ s;rw [if_neg (show ¬((Value.ref t==Value.none)=true) from Bool.false_ne_true)]
 show wpAny _ _ (field (.ref it) 1 >>= _) _ _ s;refine wpAny_bind (wpAny_field e1 e3 (x:=.int i 0) rfl ?_)
 show wpAny _ _ (seqItems? (.ref t) >>= _) _ _ s;refine wpAny_bind (wpAny_seqItems e4 e5 ?_)
 simp only [Int.toNat_natCast,hx];refine wpAny_bind (wpAny_rule (wpAny_bind (wpAny_setField e1 e3 (by simp) ?_)))
 show wpAny _ _ (newExc (.type "StopIteration") [] >>= _) _ _ _;refine wpAny_bind ?_;simp only [newExc,newTuple]
 refine wpAny_bind (wpAny_newObj_type ?_ (by size_fits));refine wpAny_bind (m:=firstArgMember _ _) (wpAny_of_eq (a:=Value.none) (by first | rfl | (simp only [firstArgMember];rfl)) ?_);refine wpAny_newObj_type ?_ (by size_fits)
 simp only [raiseNew];refine wpAny_bind (wpAny_handled ?_);first | rw [show A.in1.handled=none from hh] | rw [hh]
 refine wpAny_bind (wpAny_pure (wpAny_throw ?_));exact q _ _ (((Heap.SameBut.update ..).extBut.push _).push _) ⟨_,Heap.get?_push_size _ rfl,rfl⟩
end
def dA (h:Heap) (l:Addr) (its:Array Value):Bool→Prop
 | true=>h.IsList l its
 | false=>h.IsTuple l its
def cA (h:Heap) (it l:Addr) (i:Nat):Bool→Prop
 | true=>h.IsListIter it l i
 | false=>h.IsTupleIter it l i
theorem dA.at {h h':Heap}{l:Addr}{its:Array Value}:∀{b:Bool},dA h l its b→(∀o,h.get? l=some o→h'.get? l=some o)→dA h' l its b
 | true,q,k=>Heap.IsList.at q k
 | false,q,k=>Heap.IsTuple.at q k
theorem cA.at {h h':Heap}{it l:Addr}{i:Nat}:∀{b:Bool},cA h it l i b→(∀o,h.get? it=some o→h'.get? it=some o)→cA h' it l i b
 | true,q,k=>Heap.IsListIter.at q k
 | false,q,k=>Heap.IsTupleIter.at q k
theorem dA.lt {h:Heap}{l:Addr}{its:Array Value}:∀{b:Bool},dA h l its b→l<h.objs.size
 | true,⟨_,e,_⟩=>Heap.lt_size e
 | false,⟨_,e,_⟩=>Heap.lt_size e
theorem cA.some {h:Heap}{it l:Addr}{i:Nat}:∀{b:Bool},cA h it l i b→∃o,h.get? it=some o∧∀v,o.data≠.cell v
 | true,⟨o,e,_,d⟩=>⟨o,e,fun v z=>by rw [d] at z;cases z⟩
 | false,⟨o,e,_,d⟩=>⟨o,e,fun v z=>by rw [d] at z;cases z⟩
theorem iP {prog:Program}{w:World}{A:Around} (hh:A.handled=none) (it l:Addr) (hne:l≠it) (its:Array Value):∀b:Bool,
 Draws prog w A it [it,l] its.size (fun i v=>its[i]?=some v) (fun i h=>cA h it l i b∧dA h l its b)
 | true=>Draws.list hh it l hne its
 | false=>{
  live:=fun _ _ st=>let ⟨o,ho,_⟩:=st.1;⟨o,ho⟩
  frame:=fun _ _ _ st hk=>⟨Heap.IsTupleIter.at st.1 fun o e=>hk it (by simp) o e,Heap.IsTuple.at st.2 fun o e=>hk l (by simp) o e⟩
  item:=fun i s Q E hi st q=>xX st.1 st.2 (x:=its[i]) (by simp [hi]) fun h' it' same=>q _ h' s.toks (by simp [hi]) ⟨it',Heap.IsTuple.extBut st.2 same.extBut hne⟩ same
  done:=fun s Q E st q=>uV hh st.1 st.2 (by simp) q }
end L2
namespace L2
open PySem PySem.Spec PyProof.Rows
structure gY (z TI TO i1 i2:Addr):Prop where
 a1:TI≠z
 a2:TO≠z
 a3:i1≠z
 a4:i2≠z
 a5:TI≠TO
 a6:TI≠i1
 a7:TI≠i2
 a8:TO≠i1
 a9:TO≠i2
 a0:i1≠i2
section
variable {prog:Program}{w:World}{A:Around}{E:Value→Shared→Prop}{s:Shared}
variable {z TI TO i1 i2 l1 l2:Addr}{k:Nat}{xs ys:Array Value}{a b:Value}{c1 c2:Bool}
theorem BE {x y:Value}{Q:Value→Shared→Prop} (D:gY z TI TO i1 i2) (n1:∀c,c=l1∨c=l2→c≠z∧c≠TO∧c≠i1∧c≠i2)
 (hz:IsZip s.heap z TI TO .none) (hTI:IsPair s.heap TI (.ref i1) (.ref i2)) (hTO:IsPair s.heap TO a b) (hh:A.handled=none)
 (h1:cA s.heap i1 l1 k c1) (h2:cA s.heap i2 l2 k c2) (q1:dA s.heap l1 xs c1) (q2:dA s.heap l2 ys c2) (hx:xs[k]?=some x) (hy:ys[k]?=some y)
 (hQ:∀h' tk,IsZip h' z TI TO (rawInt s.heap.objs.size)→IsPair h' TO x y→cA h' i1 l1 (k+1) c1→cA h' i2 l2 (k+1) c2→IsPair h' s.heap.objs.size x y→h'.objs.size=s.heap.objs.size+1→
  (∀c o,c≠z→c≠TO→c≠i1→c≠i2→s.heap.get? c=some o→h'.get? c=some o)→Q (.ref s.heap.objs.size) { s with heap:=h',toks:=tk }) :
 wpAny (model prog w) A (Builtin.«zip.__next__» ⟨[.ref z],[]⟩) (fun fin s'=>∃v,fin=.done (.ret v)∧Q v s') E s:=by
 obtain ⟨m1,m2,m3,m4⟩:=n1 l1 (.inl rfl)
 obtain ⟨m5,m6,m7,m8⟩:=n1 l2 (.inr rfl)
 have kx:k<xs.size:=(Array.getElem?_eq_some_iff.mp hx).1
 have ky:k<ys.size:=(Array.getElem?_eq_some_iff.mp hy).1
 have D1:=iP (prog:=prog) (w:=w) hh i1 l1 m3 xs c1
 have D2:=iP (prog:=prog) (w:=w) hh i2 l2 m8 ys c2
 show wpAny _ _ (field (.ref z) 2 >>= _) _ _ _;refine wpAny_bind (wpAny_field hz rfl (x:=.bool false) rfl ?_)
 show wpAny _ _ (field (.ref z) 3 >>= _) _ _ _;refine wpAny_bind (wpAny_field hz rfl (x:=.ref TI) rfl (wpAny_bind (wpAny_seqItems hTI rfl ?_)))
 show wpAny _ _ (Builtin.SmallTypes.ownedTupleIsFree (.ref z) >>= _) _ _ _;refine wpAny_bind ?_;unfold Builtin.SmallTypes.ownedTupleIsFree
 refine wpAny_bind (wpAny_field hz rfl (x:=.none) rfl (wpAny_pure ?_));simp only [if_true]
 refine wpAny_bind (wpAny_rule (wpAny_bind (wpAny_field hz rfl (x:=.ref TO) rfl (wpAny_bind (wpAny_setField_rec hz (by simp) fun g1 z1 t1=>?_)))))
 replace z1:IsZip g1 z TI TO .ellipsis:=z1
 refine wpAny_bind ?_;simp only [List.zipIdx_cons,List.zipIdx_nil,List.forIn_cons,List.forIn_nil];refine wpAny_bind (wpAny_bind (wpAny_onRaise ?_))
 show wpAny _ _ (Builtin.SmallTypes.nextOf (.ref i1) >>= _) _ _ _
 refine wpAny_bind (D1.item k _ _ _ kx ⟨h1.at fun o e=>t1.extBut _ _ D.a3 e,q1.at fun o e=>t1.extBut _ _ m1 e⟩ fun x' g2 tk2 p1 st1 t2=>wpAny_pure ?_)
 have ex:x=x':=Option.some.inj (hx.symm.trans p1)
 subst ex
 have TO2:IsPair g2 TO a b:=t2.extBut _ _ D.a8 (t1.extBut _ _ D.a2 hTO)
 refine wpAny_bind (wpAny_seqItems TO2 rfl (wpAny_bind (wpAny_updateSeq_pair TO2 fun g3 TO3 t3=>?_)))
 replace TO3:IsPair g3 TO x b:=TO3
 refine wpAny_bind (wpAny_letGo (wpAny_pure ?_));refine wpAny_bind (wpAny_bind (wpAny_onRaise ?_));show wpAny _ _ (Builtin.SmallTypes.nextOf (.ref i2) >>= _) _ _ _
 refine wpAny_bind (D2.item k _ _ _ ky ⟨h2.at fun o e=>t3.extBut _ _ D.a9.symm (t2.extBut _ _ D.a0.symm (t1.extBut _ _ D.a4 e)),q2.at fun o e=>t3.extBut _ _ m6 (t2.extBut _ _ m7 (t1.extBut _ _ m5 e))⟩ fun y' g4 tk4 p2 st2 t4=>wpAny_pure ?_)
 have ey:y=y':=Option.some.inj (hy.symm.trans p2)
 subst ey
 have TO4:IsPair g4 TO x b:=t4.extBut _ _ D.a9 TO3
 refine wpAny_bind (wpAny_seqItems TO4 rfl (wpAny_bind (wpAny_updateSeq_pair TO4 fun g5 TO5 t5=>?_)))
 replace TO5:IsPair g5 TO x y:=TO5
 refine wpAny_bind (wpAny_letGo (wpAny_pure (wpAny_pure ?_)));refine wpAny_bind (wpAny_seqItems TO5 rfl (wpAny_bind (wpAny_newTuple ?_)))
 have sz:g5.objs.size=s.heap.objs.size:=by rw [t5.1,t4.1,t3.1,t2.1,t1.1]
 have z5:IsZip g5 z TI TO .ellipsis:=t5.extBut _ _ D.a2.symm (t4.extBut _ _ D.a4.symm (t3.extBut _ _ D.a2.symm (t2.extBut _ _ D.a3.symm z1)))
 have keep:∀c o,c≠z→c≠TO→c≠i1→c≠i2→s.heap.get? c=some o→g5.get? c=some o:=fun c o d1 d2 d3 d4 e=>t5.extBut _ _ d2 (t4.extBut _ _ d4 (t3.extBut _ _ d2 (t2.extBut _ _ d3 (t1.extBut _ _ d1 e))))
 have it1:cA g5 i1 l1 (k+1) c1:=st1.1.at fun o e=>t5.extBut _ _ D.a8.symm (t4.extBut _ _ D.a0 (t3.extBut _ _ D.a8.symm e))
 have it2:cA g5 i2 l2 (k+1) c2:=st2.1.at fun o e=>t5.extBut _ _ D.a9.symm e
 have zlt:z<g5.objs.size:=Heap.lt_size z5
 show wpAny _ _ (Builtin.SmallTypes.ownedTupleHandOut (.ref z) (.ref g5.objs.size) >>= _) _ _ _;refine wpAny_bind ?_;unfold Builtin.SmallTypes.ownedTupleHandOut
 have z6:IsZip (g5.push { cls:=.type "tuple",data:=.seq #[x,y] }) z TI TO .ellipsis:=Heap.get?_push_of_some _ z5
 refine wpAny_bind (wpAny_setField_rec z6 (by simp) fun g7 z7 t7=>?_)
 replace z7:IsZip g7 z TI TO (rawInt g5.objs.size):=z7
 refine wpAny_setField_rec z7 (by simp) fun g8 z8 t8=>?_
 replace z8:IsZip g8 z TI TO (rawInt g5.objs.size):=z8
 have up:∀c o,c≠z→g5.get? c=some o→g8.get? c=some o:=fun c o d e=>t8.extBut _ _ d (t7.extBut _ _ d (Heap.get?_push_of_some _ e))
 have T8:IsPair g8 g5.objs.size x y:=t8.extBut _ _ (Nat.ne_of_gt zlt) (t7.extBut _ _ (Nat.ne_of_gt zlt) (Heap.get?_push_size _ rfl))
 have s8:g8.objs.size=g5.objs.size+1:=by rw [t8.1,t7.1,Heap.size_push]
 rw [sz] at z8 T8 s8
 refine wpAny_pure ⟨_,rfl,?_⟩;show Q (.ref g5.objs.size) _;rw [sz]
 exact hQ g8 _ z8 (up _ _ D.a2 TO5) (it1.at fun o e=>up _ o D.a3 e) (it2.at fun o e=>up _ o D.a4 e) T8 s8 fun c o d1 d2 d3 d4 e=>up c o d1 (keep c o d1 d2 d3 d4 e)
theorem Ew {Q:Fin→Shared→Prop} (hh:A.handled=none) (D:gY z TI TO i1 i2) (n1:∀c,c=l1∨c=l2→c≠z∧c≠TO∧c≠i1∧c≠i2)
 (hz:IsZip s.heap z TI TO .none) (hTI:IsPair s.heap TI (.ref i1) (.ref i2)) (hTO:IsPair s.heap TO a b)
 (h1:cA s.heap i1 l1 k c1) (h2:cA s.heap i2 l2 k c2) (q1:dA s.heap l1 xs c1) (q2:dA s.heap l2 ys c2) (hend:xs.size=k∨(k<xs.size∧ys.size=k))
 (hE:∀h' e tk,(∀c o,c≠z→c≠TO→c≠i1→c≠i2→s.heap.get? c=some o→h'.get? c=some o)→(∃o,h'.get? e=some o∧o.cls=.type "StopIteration")→E (.ref e) { s with heap:=h',toks:=tk }) :
 wpAny (model prog w) A (Builtin.«zip.__next__» ⟨[.ref z],[]⟩) Q E s:=by
 obtain ⟨m1,m2,m3,m4⟩:=n1 l1 (.inl rfl)
 obtain ⟨m5,m6,m7,m8⟩:=n1 l2 (.inr rfl)
 have D1:=iP (prog:=prog) (w:=w) hh i1 l1 m3 xs c1
 have D2:=iP (prog:=prog) (w:=w) hh i2 l2 m8 ys c2
 show wpAny _ _ (field (.ref z) 2 >>= _) _ _ _;refine wpAny_bind (wpAny_field hz rfl (x:=.bool false) rfl ?_)
 show wpAny _ _ (field (.ref z) 3 >>= _) _ _ _;refine wpAny_bind (wpAny_field hz rfl (x:=.ref TI) rfl (wpAny_bind (wpAny_seqItems hTI rfl ?_)))
 show wpAny _ _ (Builtin.SmallTypes.ownedTupleIsFree (.ref z) >>= _) _ _ _;refine wpAny_bind ?_;unfold Builtin.SmallTypes.ownedTupleIsFree
 refine wpAny_bind (wpAny_field hz rfl (x:=.none) rfl (wpAny_pure ?_));simp only [if_true]
 refine wpAny_bind (wpAny_rule (wpAny_bind (wpAny_field hz rfl (x:=.ref TO) rfl (wpAny_bind (wpAny_setField_rec hz (by simp) fun g1 z1 t1=>?_)))))
 replace z1:IsZip g1 z TI TO .ellipsis:=z1
 refine wpAny_bind ?_;simp only [List.zipIdx_cons,List.zipIdx_nil,List.forIn_cons,List.forIn_nil];refine wpAny_bind (wpAny_bind (wpAny_onRaise ?_))
 show wpAny _ _ (Builtin.SmallTypes.nextOf (.ref i1) >>= _) _ _ _
 have st0:cA g1 i1 l1 k c1∧dA g1 l1 xs c1:=⟨h1.at fun o e=>t1.extBut _ _ D.a3 e,q1.at fun o e=>t1.extBut _ _ m1 e⟩
 rcases hend with hk | ⟨kx,hk⟩
 ·refine wpAny_bind (D1.done _ _ _ (by rw [hk];exact st0) fun g2 e t2 he=>?_)
  obtain ⟨oe,e1,e2⟩:=he
  have z2:IsZip g2 z TI TO .ellipsis:=t2 _ _ D.a3.symm z1
  have ez:e≠z:=fun q=>by subst q;rw [z2] at e1;cases e1;simp at e2
  exact wpAny_setField_rec z2 (by simp) fun g3 _ t3=>hE g3 e _ (fun c o d1 _ d3 _ q=>t3.extBut _ _ d1 (t2 _ _ d3 (t1.extBut _ _ d1 q))) ⟨oe,t3.extBut _ _ ez e1,e2⟩
 ·refine wpAny_bind (D1.item k _ _ _ kx st0 fun x g2 tk2 p1 st1 t2=>wpAny_pure ?_)
  have TO2:IsPair g2 TO a b:=t2.extBut _ _ D.a8 (t1.extBut _ _ D.a2 hTO)
  refine wpAny_bind (wpAny_seqItems TO2 rfl (wpAny_bind (wpAny_updateSeq_pair TO2 fun g3 TO3 t3=>?_)))
  refine wpAny_bind (wpAny_letGo (wpAny_pure ?_));refine wpAny_bind (wpAny_bind (wpAny_onRaise ?_));show wpAny _ _ (Builtin.SmallTypes.nextOf (.ref i2) >>= _) _ _ _
  have st2:cA g3 i2 l2 k c2∧dA g3 l2 ys c2:=⟨h2.at fun o e=>t3.extBut _ _ D.a9.symm (t2.extBut _ _ D.a0.symm (t1.extBut _ _ D.a4 e)),q2.at fun o e=>t3.extBut _ _ m6 (t2.extBut _ _ m7 (t1.extBut _ _ m5 e))⟩
  refine wpAny_bind (D2.done _ _ _ (by rw [hk];exact st2) fun g4 e t4 he=>?_)
  obtain ⟨oe,e1,e2⟩:=he
  have z4:IsZip g4 z TI TO .ellipsis:=t4 _ _ D.a4.symm (t3.extBut _ _ D.a2.symm (t2.extBut _ _ D.a3.symm z1))
  have ez:e≠z:=fun q=>by subst q;rw [z4] at e1;cases e1;simp at e2
  exact wpAny_setField_rec z4 (by simp) fun g5 _ t5=>hE g5 e _ (fun c o d1 d2 d3 d4 q=>t5.extBut _ _ d1 (t4 _ _ d4 (t3.extBut _ _ d2 (t2.extBut _ _ d3 (t1.extBut _ _ d1 q))))) ⟨oe,t5.extBut _ _ ez e1,e2⟩
end
end L2
namespace L2
open PySem PySem.Spec PyProof.Rows
def DR:Bool→String
 | true => "list_iterator"
 | false => "tuple_iterator"
abbrev zA (h:Heap) (l1:Addr) (c1:Bool):Heap:=h.push { cls:=.type (DR c1),data:=.fields #[.ref l1,.int 0 0] }
abbrev zB (h:Heap) (l1 l2:Addr) (c1 c2:Bool):Heap:=(zA h l1 c1).push { cls:=.type (DR c2),data:=.fields #[.ref l2,.int 0 0] }
abbrev zC (h:Heap) (l1 l2:Addr) (c1 c2:Bool):Heap:=(zB h l1 l2 c1 c2).push { cls:=.type "tuple",data:=.seq #[.ref h.objs.size,.ref (zA h l1 c1).objs.size] }
abbrev zD (h:Heap) (l1 l2:Addr) (c1 c2:Bool):Heap:=(zC h l1 l2 c1 c2).push { cls:=.type "tuple",data:=.seq #[.none,.none] }
abbrev zE (h:Heap) (l1 l2:Addr) (c1 c2:Bool):Heap:=(zD h l1 l2 c1 c2).push { cls:=.type "zip",data:=.fields #[.none,.bool false,.bool false,.ref (zB h l1 l2 c1 c2).objs.size,.ref (zC h l1 l2 c1 c2).objs.size] }
set_option maxHeartbeats 8000000 in
theorem CY (l1 l2:Addr) (xs ys:Array Value) (c1 c2:Bool) :
 Meets (Builtin.«zip.__new__» ⟨[.type "zip",.ref l1,.ref l2],[]⟩) (fun _ R s=>dA s.heap l1 xs c1∧dA s.heap l2 ys c2∧R (.ok (.ret (.ref (zD s.heap l1 l2 c1 c2).objs.size))) { s with heap:=zE s.heap l1 l2 c1 c2 }):=
 .of_wp fun prog w A R s h=>by
  obtain ⟨hp,g,d,tk,os⟩:=s;obtain ⟨q1,q2,h⟩:=h
  have hsub:=sub_zip
  have L2':dA (Shared.heap ⟨zA hp l1 c1,g,d,tk,os⟩) l2 ys c2:=dA.at q2 fun o e=>Heap.get?_push_of_some _ e
  cases c1 <;> cases c2
  ·have g1:Heap.IsTuple (Shared.heap ⟨hp,g,d,tk,os⟩) l1 xs:=q1
   have g2:Heap.IsTuple (Shared.heap ⟨hp.push { cls:=.type "tuple_iterator",data:=.fields #[.ref l1,.int 0 0] },g,d,tk,os⟩) l2 ys:=L2'
   wp_walk using wpAny_pyIter_tuple g1,wpAny_pyIter_tuple g2
   exact ⟨_,rfl,h⟩
  ·have g1:Heap.IsTuple (Shared.heap ⟨hp,g,d,tk,os⟩) l1 xs:=q1
   have g2:Heap.IsList (Shared.heap ⟨hp.push { cls:=.type "tuple_iterator",data:=.fields #[.ref l1,.int 0 0] },g,d,tk,os⟩) l2 ys:=L2'
   wp_walk using wpAny_pyIter_tuple g1,wpAny_pyIter_list g2
   exact ⟨_,rfl,h⟩
  ·have g1:Heap.IsList (Shared.heap ⟨hp,g,d,tk,os⟩) l1 xs:=q1
   have g2:Heap.IsTuple (Shared.heap ⟨hp.push { cls:=.type "list_iterator",data:=.fields #[.ref l1,.int 0 0] },g,d,tk,os⟩) l2 ys:=L2'
   wp_walk using wpAny_pyIter_list g1,wpAny_pyIter_tuple g2
   exact ⟨_,rfl,h⟩
  ·have g1:Heap.IsList (Shared.heap ⟨hp,g,d,tk,os⟩) l1 xs:=q1
   have g2:Heap.IsList (Shared.heap ⟨hp.push { cls:=.type "list_iterator",data:=.fields #[.ref l1,.int 0 0] },g,d,tk,os⟩) l2 ys:=L2'
   wp_walk using wpAny_pyIter_list g1,wpAny_pyIter_list g2
   exact ⟨_,rfl,h⟩
theorem xz {h:Heap}{it l:Addr}:∀{c:Bool},h.get? it=some { cls:=.type (DR c),data:=.fields #[.ref l,.int 0 0] }→cA h it l 0 c
 | true,e=>⟨_,e,rfl,rfl⟩
 | false,e=>⟨_,e,rfl,rfl⟩
section
variable {prog:Program}{w:World}{A:Around}{E:Value→Shared→Prop}{s:Shared}
theorem uo {l1 l2:Addr}{xs ys:Array Value}{c1 c2:Bool}{Q:Value→Shared→Prop} (q1:dA s.heap l1 xs c1) (q2:dA s.heap l2 ys c2)
 (h:∀h',IsZip h' (s.heap.objs.size+4) (s.heap.objs.size+2) (s.heap.objs.size+3) .none→IsPair h' (s.heap.objs.size+2) (.ref s.heap.objs.size) (.ref (s.heap.objs.size+1))→
  IsPair h' (s.heap.objs.size+3) .none .none→cA h' s.heap.objs.size l1 0 c1→cA h' (s.heap.objs.size+1) l2 0 c2→
  (∀c o,s.heap.get? c=some o→h'.get? c=some o)→Q (.ref (s.heap.objs.size+4)) { s with heap:=h' }) :
 wpAny (model prog w) A (call (.type "zip") [.ref l1,.ref l2]) Q E s:=by
 refine callType_new F.called_zip (by decide) (F.typeCall_zip_2 _ _) (F.newCall_zip_2 _ _) (fun obj=>F.args_object_init_3 obj _ _) F.entry_zip_new (CY l1 l2 xs ys c1 c2) ⟨q1,q2,?_⟩
 have s1:(zA s.heap l1 c1).objs.size=s.heap.objs.size+1:=Heap.size_push ..
 have s2:(zB s.heap l1 l2 c1 c2).objs.size=s.heap.objs.size+2:=by rw [Heap.size_push,s1]
 have s3:(zC s.heap l1 l2 c1 c2).objs.size=s.heap.objs.size+3:=by rw [Heap.size_push,s2]
 have s4:(zD s.heap l1 l2 c1 c2).objs.size=s.heap.objs.size+4:=by rw [Heap.size_push,s3]
 have g5:(zE s.heap l1 l2 c1 c2).get? (zD s.heap l1 l2 c1 c2).objs.size=some _:=Heap.get?_push_size _ rfl
 have g4:(zE s.heap l1 l2 c1 c2).get? (zC s.heap l1 l2 c1 c2).objs.size=some _:=Heap.get?_push_of_some _ (Heap.get?_push_size _ rfl)
 have g3:(zE s.heap l1 l2 c1 c2).get? (zB s.heap l1 l2 c1 c2).objs.size=some _:=Heap.get?_push_of_some _ (Heap.get?_push_of_some _ (Heap.get?_push_size _ rfl))
 have g2:(zE s.heap l1 l2 c1 c2).get? (zA s.heap l1 c1).objs.size=some _:=Heap.get?_push_of_some _ (Heap.get?_push_of_some _ (Heap.get?_push_of_some _ (Heap.get?_push_size _ rfl)))
 have g1:(zE s.heap l1 l2 c1 c2).get? s.heap.objs.size=some _:=Heap.get?_push_of_some _ (Heap.get?_push_of_some _ (Heap.get?_push_of_some _ (Heap.get?_push_of_some _ (Heap.get?_push_size _ rfl))))
 show _∧_
 rw [s2,s3,s4] at g5
 rw [s1,s2] at g3
 rw [s3] at g4
 rw [s1] at g2
 rw [s4]
 exact ⟨⟨_,g5,rfl⟩,h _ g5 g3 g4 (xz g1) (xz g2) fun c o x=>Heap.get?_push_of_some _ (Heap.get?_push_of_some _ (Heap.get?_push_of_some _ (Heap.get?_push_of_some _ (Heap.get?_push_of_some _ x))))⟩
theorem oh {z TI TO i1 i2 l1 l2:Addr}{k:Nat}{xs ys:Array Value}{a b x y:Value}{c1 c2:Bool}{Q:Option Value→Shared→Prop} (D:gY z TI TO i1 i2) (n1:∀c,c=l1∨c=l2→c≠z∧c≠TO∧c≠i1∧c≠i2)
 (hz:IsZip s.heap z TI TO .none) (hTI:IsPair s.heap TI (.ref i1) (.ref i2)) (hTO:IsPair s.heap TO a b) (hh:A.handled=none)
 (h1:cA s.heap i1 l1 k c1) (h2:cA s.heap i2 l2 k c2) (q1:dA s.heap l1 xs c1) (q2:dA s.heap l2 ys c2) (hx:xs[k]?=some x) (hy:ys[k]?=some y)
 (hQ:∀h' tk,IsZip h' z TI TO (rawInt s.heap.objs.size)→IsPair h' TO x y→cA h' i1 l1 (k+1) c1→cA h' i2 l2 (k+1) c2→IsPair h' s.heap.objs.size x y→h'.objs.size=s.heap.objs.size+1→
  (∀c o,c≠z→c≠TO→c≠i1→c≠i2→s.heap.get? c=some o→h'.get? c=some o)→Q (some (.ref s.heap.objs.size)) { s with heap:=h',toks:=tk }) :
 wpAny (model prog w) A (pyNext (.ref z)) Q E s:=by
 have hT:s.TypeIs (.ref z) "zip" := ⟨_,hz,rfl⟩
 unfold pyNext
 exact wpAny_bind (wpAny_attempt (wpAny_callSpecial?_slot (name:=Str.ofString "__next__") hT F.slot_zip_next (wpAny_call_entry F.slot_zip_next hT F.entry_zip_next
  (BE D n1 hz hTI hTO hh h1 h2 q1 q2 hx hy fun h' tk a1 a2 a3 a4 a5 a6 a7=>wpAny_pure (hQ h' tk a1 a2 a3 a4 a5 a6 a7)) (F.args_zip_next_1 _))))
theorem pe {z TI TO i1 i2 l1 l2:Addr}{k:Nat}{xs ys:Array Value}{a b:Value}{c1 c2:Bool}{Q:Option Value→Shared→Prop} (hh:A.handled=none) (D:gY z TI TO i1 i2) (n1:∀c,c=l1∨c=l2→c≠z∧c≠TO∧c≠i1∧c≠i2)
 (hz:IsZip s.heap z TI TO .none) (hTI:IsPair s.heap TI (.ref i1) (.ref i2)) (hTO:IsPair s.heap TO a b)
 (h1:cA s.heap i1 l1 k c1) (h2:cA s.heap i2 l2 k c2) (q1:dA s.heap l1 xs c1) (q2:dA s.heap l2 ys c2) (hend:xs.size=k∨(k<xs.size∧ys.size=k))
 (hQ:∀h' tk,(∀c o,c≠z→c≠TO→c≠i1→c≠i2→s.heap.get? c=some o→h'.get? c=some o)→Q none { s with heap:=h',toks:=tk }):wpAny (model prog w) A (pyNext (.ref z)) Q E s:=by
 have hT:s.TypeIs (.ref z) "zip" := ⟨_,hz,rfl⟩
 unfold pyNext
 refine wpAny_bind (wpAny_attempt (wpAny_callSpecial?_slot (name:=Str.ofString "__next__") hT F.slot_zip_next (wpAny_call_entry F.slot_zip_next hT F.entry_zip_next
  (Ew hh D n1 hz hTI hTO h1 h2 q1 q2 hend fun h' e tk hk he=>?_) (F.args_zip_next_1 _))))
 obtain ⟨o,ho,hc⟩:=he
 refine wpAny_bind (wpAny_isInstance (T := "StopIteration") (b:=true) ⟨o,ho,hc⟩ isSubtype_stop (wpAny_pure (hQ _ tk hk)))
end
theorem af.turnedL {X:Cx}{pins:List (Addr×Obj)}{σ:St}{H:Hp}{s:Shared}{h':Heap}{t':Nat}{ch:List Addr} (I:af X pins σ H s) (hf:∀b∈ch,iT X pins H b) (k:∀b u,b∉ch→s.heap.get? b=some u→h'.get? b=some u) :
 af X pins σ H { s with heap:=h',toks:=t' }:=by
 refine I.step (g':=s.gens) (d':=s.drawn) (ch:=ch) (fun b hb=>?_) (fun b o _ _ hc e _=>k b o hc e) (fun b o _ _ hc e _=>⟨o.slots,k b o hc e⟩) (fun _ _ _ _ n=>n)
  (fun b o hc e=>⟨o,k b o hc e⟩) (fun _ _ e=>e) (fun _ _ _ e=>e) (fun b ps e=>⟨#[],by rw [e];simp⟩) (fun m hm=>?_) (fun b u e=>?_) I.bare
 ·obtain ⟨f0,f1,f2,f3,f4,f5⟩:=hf b hb
  exact ⟨f3,f1,f4,f5⟩
 ·obtain ⟨o,es,ep,ho,r⟩:=hm
  exact ⟨o,es,ep,k _ o (fun z=>(hf _ z).2.1 rfl) ho,r⟩
 ·refine (I.hok b u e).stay (fun c v hc q=>k c v (fun z=>?_) q) (fun _ q=>q) fun _ _ q=>q
  have hcn:=(hf c z).1
  rcases hc with rfl | hc
  ·rw [e] at hcn;cases hcn
  ·rw [hc] at hcn;cases hcn
def i9 (K:PySem.W.Frag) (H:Hp) (a:Addr) (xs:List V):Bool→Prop
 | true=>aG K H a xs
 | false=>au K H a xs
theorem af.seqC {X:Cx}{pins:List (Addr×Obj)}{σ:St}{H:Hp}{s:Shared}{a:Addr}{xs:List V} (I:af X pins σ H s):∀{c:Bool},i9 X.K H a xs c→∃its:List Value,aH xs its∧dA s.heap a its.toArray c
 | true,q=>let ⟨its,rv,p,_⟩:=I.list q;⟨its,rv,p.isList⟩
 | false,q=>let ⟨its,rv,p,_⟩:=I.tuple q;⟨its,rv,p⟩
theorem af.seqC_inj {X:Cx}{pins:List (Addr×Obj)}{σ:St}{H:Hp}{s:Shared}{a:Addr}{xs ys:List V} (I:af X pins σ H s):∀{c:Bool},i9 X.K H a xs c→i9 X.K H a ys c→xs=ys
 | true,p,q=>I.list_inj p q
 | false,p,q=>I.tuple_inj p q
def yG (K:PySem.W.Frag) (a1 a2:Addr) (c1 c2:Bool):It:=
 ⟨fun i H=>ml fun xs ys x y=>i9 K H a1 xs c1∧i9 K H a2 ys c2∧xs[i]?=some x∧ys[i]?=some y,
  fun i H v H'=>jq fun T x y=>H T=none∧v=.ref T∧H'=aI H T (.tup [x,y])∧(∀xs,i9 K H a1 xs c1→xs[i]?=some x)∧(∀ys,i9 K H a2 ys c2→ys[i]?=some y),
  fun i H=>bz fun xs ys=>i9 K H a1 xs c1∧i9 K H a2 ys c2∧(xs.length=i∨(i<xs.length∧ys.length=i))⟩
theorem Az {P:Program}{w:World}{K:PySem.W.Frag}{es:List Expr}{kk:Nat}{pos:Pos} (a1 a2 z TI TO i1 i2:Addr) (c1 c2:Bool) (D:gY z TI TO i1 i2) (n1:∀c,c=a1∨c=a2→c≠z∧c≠TO∧c≠i1∧c≠i2) :
 tS P w K (.Tuple es kk pos) (yG K a1 a2 c1 c2) [z,TO,i1,i2,TI] z (fun i h=>IsZip h z TI TO .none∧IsPair h TI (.ref i1) (.ref i2)∧(bz fun a b=>IsPair h TO a b)∧cA h i1 a1 i c1∧cA h i2 a2 i c2) where
 mem:=by simp
 obj:=fun i h st b hb=>by
  obtain ⟨hz,hTI,⟨a,b',hTO⟩,h1,h2⟩:=st
  have hb':b=z∨b=TO∨b=i1∨b=i2∨b=TI:=by simpa using hb
  rcases hb' with rfl | rfl | rfl | rfl | rfl
  ·exact ⟨_,hz,fun v q=>by have q':Data.fields _=Data.cell v:=q;cases q'⟩
  ·exact ⟨_,hTO,fun v q=>by have q':Data.seq _ _=Data.cell v:=q;cases q'⟩
  ·exact h1.some
  ·exact h2.some
  ·exact ⟨_,hTI,fun v q=>by have q':Data.seq _ _=Data.cell v:=q;cases q'⟩
 keep:=fun i h h' st k=>by
  obtain ⟨hz,hTI,⟨a,b',hTO⟩,h1,h2⟩:=st
  exact ⟨k z (by simp) _ hz,k TI (by simp) _ hTI,⟨a,b',k TO (by simp) _ hTO⟩,h1.at fun o q=>k i1 (by simp) o q,h2.at fun o q=>k i2 (by simp) o q⟩
 item:=by
  intro X hP hw hK hc i pins s σ H E I hf st hg
  subst hP hw hK
  obtain ⟨hz,hTI,⟨a,b',hTO⟩,h1,h2⟩:=st
  obtain ⟨xs,ys,x,y,p1,p2,hx,hy⟩:=hg
  obtain ⟨its1,rv1,k1⟩:=I.seqC p1
  obtain ⟨its2,rv2,k2⟩:=I.seqC p2
  obtain ⟨u,hu,ru⟩:=rv1.get hx
  obtain ⟨v,hv,rw'⟩:=rv2.get hy
  have hnT:H s.heap.objs.size=none:=I.fresh
  refine oh D n1 hz hTI hTO (I.ok.hd hc) h1 h2 k1 k2 (x:=u) (y:=v) (by simpa using hu) (by simpa using hv) fun h' tk zo TO' t1 t2 T' sz keep=>?_
  refine ⟨_,rfl,wpAny_letOwnedTupleGo_zip (s:={ s with heap:=h',toks:=tk }) zo fun h2' z2 s2=>?_⟩
  have zlt:z<s.heap.objs.size:=Heap.lt_size hz
  have TOlt:TO<s.heap.objs.size:=Heap.lt_size hTO
  have TIlt:TI<s.heap.objs.size:=Heap.lt_size hTI
  have i1lt:i1<s.heap.objs.size:=let ⟨_,e,_⟩:=h1.some;Heap.lt_size e
  have i2lt:i2<s.heap.objs.size:=let ⟨_,e,_⟩:=h2.some;Heap.lt_size e
  have hT2:h2'.get? s.heap.objs.size=some { cls:=.type "tuple",data:=.seq #[u,v] }:=(s2.2 _ (Nat.ne_of_gt zlt)).trans T'
  refine ⟨.ref s.heap.objs.size,aI H s.heap.objs.size (.tup [x,y]),I.turnedNew (ch:=[z,TO,i1,i2,TI]) (t':=tk) hf (fun b o hb q=>?_) (Nat.le_refl _) ?_,rfl,
   ⟨_,x,y,hnT,rfl,rfl,fun zs hs=>by rw [I.seqC_inj hs p1];exact hx,fun zs hs=>by rw [I.seqC_inj hs p2];exact hy⟩,⟨z2,(s2.2 _ D.a1).trans (keep _ _ D.a1 D.a5 D.a6 D.a7 hTI),⟨_,_,(s2.2 _ D.a2).trans TO'⟩,t1.at fun o e=>(s2.2 _ D.a3).trans e,t2.at fun o e=>(s2.2 _ D.a4).trans e⟩,fun b hb=>?_⟩
  ·have e1:b≠z:=fun q=>hb (by simp [q])
   have e2:b≠TO:=fun q=>hb (by simp [q])
   have e3:b≠i1:=fun q=>hb (by simp [q])
   have e4:b≠i2:=fun q=>hb (by simp [q])
   exact (s2.2 b e1).trans (keep b o e1 e2 e3 e4 q)
  ·exact ⟨by show 2≤sizeLine;decide,[u,v],.cons ru (.cons rw' .nil),⟨_,hT2,rfl,_,rfl⟩,_,hT2,rfl⟩
  ·have hb':b=z∨b=TO∨b=i1∨b=i2∨b=TI:=by simpa using hb
   have hlt:b<s.heap.objs.size:=by rcases hb' with rfl | rfl | rfl | rfl | rfl <;> assumption
   rw [av (Nat.ne_of_lt hlt)]
   exact (hf b hb).1
 done:=by
  intro X hP hw hK hc i pins s σ H E I hf st hg
  subst hP hw hK
  obtain ⟨hz,hTI,⟨a,b',hTO⟩,h1,h2⟩:=st
  obtain ⟨xs,ys,p1,p2,hl⟩:=hg
  obtain ⟨its1,rv1,k1⟩:=I.seqC p1
  obtain ⟨its2,rv2,k2⟩:=I.seqC p2
  have l1:=rv1.length
  have l2:=rv2.length
  refine pe (I.ok.hd hc) D n1 hz hTI hTO h1 h2 k1 k2 (by simp;trivial) fun h' tk keep=>⟨rfl,I.turnedL (ch:=[z,TO,i1,i2,TI]) (t':=tk) hf fun b o hb q=>?_⟩
  exact keep b o (fun q=>hb (by simp [q])) (fun q=>hb (by simp [q])) (fun q=>hb (by simp [q])) (fun q=>hb (by simp [q])) q
 self:=fun _ _ _ _ _ st h=>wpAny_pyIter_zip st.1 h
def Ez (K:PySem.W.Frag) (ta:TA):TI:=fun σ H R=>ta σ H fun vs H1=>ml fun a1 a2 c1 c2=>vs=[.ref a1,.ref a2]∧(∃xs,i9 K H1 a1 xs c1)∧(∃ys,i9 K H1 a2 ys c2)∧R (yG K a1 a2 c1 c2) H1
theorem vR:bootBuiltins "zip" = some (.type "zip"):=by decide +kernel
theorem Eo {X:Cx}{es:List Expr}{kk:Nat}{tp:Pos}{a b:Expr}{ta:TA}{p pos:Pos} (hg:Gl X "zip") (hm:X.mg "zip" = none) (ha:PA X [a,b] ta) (hs:starEach [a,b] X.env=[(false,eval a X.env),(false,eval b X.env)]:=by rfl) (hs2:starEach [b] X.env=[(false,eval b X.env)]:=by rfl) :
 PI X (.Tuple es kk tp) (.Call (.Name "zip" p) [a,b] [] pos) (Ez X.K ta):=by
 intro pins s σ H R I h
 refine Call_ (gZ I hg hm vR (PyProof.Rows.callWith_type1 (aR (ha pos pins s σ H _ I h) fun us s1 ⟨vs,H1,I1,r1,q1⟩=>?_) (by rw [hs,hs2]) (by rw [hs2];rfl)))
 obtain ⟨a1,a2,c1,c2,rfl,⟨xs,p1⟩,⟨ys,p2⟩,q⟩:=q1
 obtain ⟨u1,u2,rfl,ru1,ru2⟩:=r1.two
 obtain rfl:u1=.ref a1:=ru1
 obtain rfl:u2=.ref a2:=ru2
 obtain ⟨its1,rv1,k1⟩:=I1.seqC p1
 obtain ⟨its2,rv2,k2⟩:=I1.seqC p2
 have d1:=k1.lt
 have d2:=k2.lt
 refine uo k1 k2 fun h' hz hTI hTO t1 t2 hk=>wpAny_pyIter_zip hz ?_
 have I2:af X pins σ H1 { s1 with heap:=h',toks:=s1.toks }:=I1.kept hk
 refine ⟨s1.heap.objs.size+4,[s1.heap.objs.size+4,s1.heap.objs.size+3,s1.heap.objs.size,s1.heap.objs.size+1,s1.heap.objs.size+2],_,_,H1,rfl,I2,Az a1 a2 (s1.heap.objs.size+4) (s1.heap.objs.size+2) (s1.heap.objs.size+3) s1.heap.objs.size (s1.heap.objs.size+1) c1 c2
  ⟨by simp,by simp,Nat.ne_of_lt (by simp),by simp,by simp,Nat.ne_of_gt (by simp),by simp,Nat.ne_of_gt (by simp),by simp,Nat.ne_of_lt (by simp)⟩ (fun c hc=>?_),⟨hz,hTI,⟨_,_,hTO⟩,t1,t2⟩,fun b hb=>?_,q⟩
 ·have:c<s1.heap.objs.size:=by rcases hc with rfl | rfl <;> assumption
  exact ⟨Nat.ne_of_lt (Nat.lt_of_lt_of_le this (Nat.le_add_right _ _)),Nat.ne_of_lt (Nat.lt_of_lt_of_le this (Nat.le_add_right _ _)),Nat.ne_of_lt this,Nat.ne_of_lt (Nat.lt_of_lt_of_le this (Nat.le_add_right _ _))⟩
 ·have hb':b=s1.heap.objs.size+4∨b=s1.heap.objs.size+3∨b=s1.heap.objs.size∨b=s1.heap.objs.size+1∨b=s1.heap.objs.size+2:=by simpa using hb
  have hle:s1.heap.objs.size≤b:=by rcases hb' with rfl | rfl | rfl | rfl | rfl <;> trivial
  exact I1.fpOk hle (I1.hok.fresh hle)
end L2
namespace L2
open PySem PySem.Spec PyProof.Rows
section
variable {X:Cx}{K:PySem.W.Frag}
end
def Sz (m:Nat) (i:Int):Prop:=i.natAbs<2 ^ m
theorem Sz.mono {m n:Nat}{i:Int} (h:Sz m i) (k:m≤n):Sz n i:=Nat.lt_of_lt_of_le h (Nat.pow_le_pow_right (by decide) k)
theorem Sz.mul {m n:Nat}{i j:Int} (h:Sz m i) (k:Sz n j):Sz (m+n) (i*j):=by
 unfold Sz at *
 rw [Int.natAbs_mul,Nat.pow_add]
 exact Nat.mul_lt_mul'' h k
theorem Sz.neg {m:Nat}{i:Int} (h:Sz m i):Sz m (-i):=by
 unfold Sz at *
 trivial
theorem Sz.le {m:Nat}{i j:Int} (h:Sz m j) (k:i.natAbs≤j.natAbs):Sz m i:=Nat.lt_of_le_of_lt k h
theorem Sz.log {m:Nat}{i:Int} (h:Sz m i) (h0:i≠0):i.natAbs.log2<m:=(Nat.log2_lt (by trivial)).mpr h
theorem Sz.bits {m:Nat}{i:Int} (h:Sz m i):Builtin.Int.intBits i≤m:=by
 unfold Builtin.Int.intBits
 by_cases h0:i=0
 ·subst h0;exact Nat.zero_le _
 ·have:=h.log h0
  rw [if_neg (by simpa using h0)]
  trivial
def A6 (i j:Int):Prop:=bz fun m n=>Sz m i∧Sz n j∧m+n≤134217728
section
variable {X:Cx}
theorem gu:cD X (binaryOp .Mult) (rI A6 fun i j=>.int (i*j)):=uC fun _ _ _ _ _ _ _ hc q=>by
 obtain ⟨m,n,h1,h2,h3⟩:=hc
 exact mul_int q (PyProof.Rows.mulOk_of_bits h1.bits h2.bits h3)
def xK (_ j:Int):Prop:=j≠0∧Sz 9000 j
theorem vY:cD X (binaryOp .FloorDiv) (rI xK fun i j=>.int (i.fdiv j)):=uC fun i j _ _ _ _ _ hc q=>
 floordiv_int hc.1 q (.inl (PyProof.noPylong_of_log2 (hc.2.log hc.1)))
end
theorem Cq {K:PySem.W.Frag}{a1 a2:Addr}{c1 c2:Bool}{xs ys:List V}{n:Nat}{g:TG}{tb:TS}{D:cF}{σ:St}{H:Hp} (Pv:Nat→St→Hp→Prop) (hn:n=min xs.length ys.length) (h0:Pv 0 σ H) (hl:∀i σ H,i≤n→Pv i σ H→i9 K H a1 xs c1∧i9 K H a2 ys c2)
 (hs:∀i x y T σ H,xs[i]?=some x→ys[i]?=some y→H T=none→Pv i σ H→g (.ref T) σ (aI H T (.tup [x,y])) fun σ2 H2=>tb { D with nx:=Pv (i+1),ct:=Pv (i+1),bk:=D.nx } σ2 H2) (hd:∀σ H,Pv n σ H→D.nx σ H) :
 ∃W:Nat→Nat→St→Hp→Prop,(∃m,W 0 m σ H)∧∀i m σ H,W i m σ H→
  ((yG K a1 a2 c1 c2).stop i H∧D.nx σ H)∨((yG K a1 a2 c1 c2).go i H∧∃N:St→Hp→Prop,(∀σ' H',N σ' H'→∃m',m'<m∧W (i+1) m' σ' H')∧∀x H',(yG K a1 a2 c1 c2).yld i H x H'→g x σ H' fun σ2 H2=>tb { D with nx:=N,ct:=N,bk:=D.nx } σ2 H2):=by
 refine ⟨fun i m σ H=>m=n - i∧i≤n∧Pv i σ H,⟨n,by simp,Nat.zero_le _,h0⟩,?_⟩
 rintro i m σ H ⟨rfl,hi,p⟩
 obtain ⟨q1,q2⟩:=hl i σ H hi p
 by_cases hlt:i<n
 ·have l1:i<xs.length:=by trivial
  have l2:i<ys.length:=by trivial
  refine .inr ⟨⟨xs,ys,xs[i],ys[i],q1,q2,by simp [l1],by simp [l2]⟩,Pv (i+1),fun σ' H' p'=>⟨n - (i+1),by trivial,rfl,hlt,p'⟩,fun x H' y=>?_⟩
  obtain ⟨T,u,v,hT,rfl,rfl,e1,e2⟩:=y
  exact hs i u v T σ H (e1 xs q1) (e2 ys q2) hT p
 ·have e:i=n:=by trivial
  subst e
  refine .inl ⟨⟨xs,ys,q1,q2,?_⟩,hd _ _ p⟩
  trivial
end L2
namespace L2
open PySem PySem.Spec PyProof.Rows
theorem gc {H H':Hp}{D:Addr}{o:HO} (hD:H D=none) (k:aj H H'):aj H (aI H' D o):=fun b u e=>by
 rw [av (bq e hD)];exact k b u e
theorem bh.free {b p:Addr}{H H9:Hp}{t9:Int} (s:bh (Eb b) H H9) (B:Bx H9 b t9) (h:H9 p=none):H p=none:=by
 cases e:H p with
 | none=>rfl
 | some o=>
  by_cases hb:p=b
  ·obtain ⟨c,x,eb,_⟩:=B
   rw [←hb,h] at eb;cases eb
  ·rw [s.old p o hb e] at h;cases h
end L2
namespace L2
open PySem PySem.Spec PyProof.Rows
abbrev fr (z:Int×Int):HO:=.tup [.int z.1,.int z.2]
abbrev GL (n1 _ n2 _:Int):Int:=n1*n2
abbrev Gy (_ d1 _ d2:Int):Int:=d1*d2
def oC (i j:Int):Int:=if i<j then -1 else if j<i then 1 else 0
inductive EB (vs:List V) (H:Hp) (Q:VK):Prop
 | mk (a b:Addr) (n1 d1 n2 d2:Int) (h0:vs=[.ref a,.ref b]) (h1:H a=some (.tup [.int n1,.int d1])) (h2:H b=some (.tup [.int n2,.int d2])) (h3:Sz 4000 n1) (h4:Sz 4000 d1) (h5:Sz 4000 n2) (h6:Sz 4000 d2) (h7:Q (.int (oC (n1*d2) (n2*d1))) H)
def FT:Sp:=fun vs H Q _=>EB  vs H Q
theorem mS {i j:Int} (h1:Sz 4000 i) (h2:Sz 4000 j):A6 i j:=⟨4000,4000,h1,h2,by decide⟩
theorem yh {i j:Int} (h1:Sz 4000 i) (h2:Sz 4000 j):Sz 9000 (i*j):=(h1.mul h2).mono (by decide)
theorem Go {n d:Int} (hd:d≠0) (h:Sz 9000 d):Sz 9000 ((Int.gcd n d:Nat):Int):=h.le (by
 rw [Int.natAbs_natCast]
 exact Nat.le_of_dvd (by trivial) (Int.ofNat_dvd_left.mp (Int.gcd_dvd_right ..)))
end L2
namespace L2
open PySem PySem.Spec PyProof.Rows
structure Nw (H:Hp) (p:Addr) (o:HO) (H':Hp):Prop where
 fr:H p=none
 sm:aj H H'
 at':H' p=some o
theorem Nw.mk' {H:Hp}{p:Addr}{o:HO} (h:H p=none):Nw H p o (aI H p o):=⟨h,aj.new h,aC⟩
section
variable {X:Cx}{es:List Expr}{t:TA}{pos:Pos}{K:PySem.W.Frag}
def FA (t:TA):TE:=fun σ H Q=>t σ H fun xs H1=>xs.length≤10000∧∀p H',Nw H1 p (.tup xs) H'→Q (.ref p) H'
def E8 (t:TA):TE:=fun σ H Q=>t σ H fun xs H1=>xs.length≤10000∧∀p H',Nw H1 p (.lst xs) H'→Q (.ref p) H'
theorem fE {n:Nat} (h:n≤10000):n≤sizeLine:=by rw [sizeLine_eq];trivial
theorem ax {x1} (h:PA X es t):PE X (.Tuple es x1 pos) (FA t):=by
 intro pins s σ H Q I hq
 refine wpAny_Tuple_spliced (aR (h pos pins s σ H _ I hq) fun us s1 ⟨xs,H1,I1,r,z',q⟩=>⟨by rw [←r.length];exact fE z',?_⟩)
 have z:=fE z'
 have hf:H1 s1.heap.objs.size=none:=I1.hok.fresh (Nat.le_refl _)
 refine ⟨.ref s1.heap.objs.size,aI H1 s1.heap.objs.size (.tup xs),I1.laid (t':=s1.toks) (fun b u e=>Heap.get?_push_of_some _ e) (Nat.le_refl _) ?_,rfl,q _ _ (.mk' hf)⟩
 exact ⟨z,us,r,⟨_,Heap.get?_push_size _ rfl,rfl,_,rfl⟩,_,Heap.get?_push_size _ rfl,rfl⟩
theorem dY (h:PA X es t):PE X (.List es pos) (E8 t):=by
 intro pins s σ H Q I hq
 refine wpAny_List_spliced (aR (h pos pins s σ H _ I hq) fun us s1 ⟨xs,H1,I1,r,z',q⟩=>⟨by rw [←r.length];exact fE z',?_⟩)
 have z:=fE z'
 have hf:H1 s1.heap.objs.size=none:=I1.hok.fresh (Nat.le_refl _)
 refine ⟨.ref s1.heap.objs.size,aI H1 s1.heap.objs.size (.lst xs),I1.laid (t':=s1.toks) (fun b u e=>Heap.get?_push_of_some _ e) (Nat.le_refl _) ?_,rfl,q _ _ (.mk' hf)⟩
 exact ⟨z,us,0,r,Heap.get?_push_size _ rfl⟩
inductive Em (x:V) (y:V) (H:Hp) (Q:VK):Prop
 | mk (l:_) (b:_) (xs:_) (zs:_) (h0:x=.ref l) (h1:y=.ref b) (h2:H l=some (.lst xs)) (h3:H b=some (.lst zs)) (h4:xs.length+zs.length≤10000) (h5:∀p H',Nw H p (.lst (xs++zs)) H'→Q (.ref p) H')
def Fc:R2:=fun x y H Q=>Em  x y H Q
theorem xj:cD X (binaryOp .Add) Fc:=fun pins s σ H x y v u Q I rx ry ⟨l,b,xs,zs,e1,e2,h1,h2,hz,q⟩=>
 DV pins s σ H x y v u Q I rx ry ⟨l,b,xs,zs,e1,e2,h1,h2,fE hz,fun p hp=>q p _ (.mk' hp)⟩
inductive F6 (K:PySem.W.Frag) (x:V) (lo:Option Int) (hi:Option Int) (H:Hp) (Q:VK):Prop
 | mk (a:_) (xs:_) (h0:x=.ref a) (h1:aG K H a xs) (h2:∀p H',Nw H p (.lst (dk xs lo hi)) H'→Q (.ref p) H')
def Gx (K:PySem.W.Frag):V→Option Int→Option Int→Hp→VK→Prop:=fun x lo hi H Q=>F6 K x lo hi H Q
theorem jV (e:X.K=K:=by rfl):yX X (Gx K):=by
 subst e
 exact fun pins s σ H x v vl vu lo hi sl Q I rx hs pl pu ⟨a,xs,e,h,q⟩=>Bm pins s σ H x v vl vu lo hi sl Q I rx hs pl pu ⟨a,xs,e,h,fun p hp=>q p _ (.mk' hp)⟩
inductive Dn (x:V) (y:V) (H:Hp) (Q:VK):Prop
 | mk (l:_) (k:_) (xs:_) (h0:x=.ref l) (h1:y=.int k) (h2:H l=some (.lst xs)) (h3:-(2 ^ 63)≤k) (h4:k<2 ^ 63) (h5:xs.length*k.toNat≤10000) (h6:∀p H',Nw H p (.lst (List.replicate k.toNat xs).flatten) H'→Q (.ref p) H')
def Gc:R2:=fun x y H Q=>Dn  x y H Q
theorem BV:cD X (binaryOp .Mult) Gc:=fun pins s σ H x y v u Q I rx ry ⟨l,k,xs,e1,e2,h1,h2,h3,hz,q⟩=>
 C9 pins s σ H x y v u Q I rx ry ⟨l,k,xs,e1,e2,h1,h2,h3,fE hz,fun p hp=>q p _ (.mk' hp)⟩
inductive BH (K:PySem.W.Frag) (xs:List V) (H:Hp) (Q:VK):Prop
 | mk (p:_) (ys:_) (h0:xs=[.ref p]) (h1:(aG K H p ys∨au K H p ys)) (h2:∀l H',Nw H l (.lst ys) H'→Q (.ref l) H')
def C1 (K:PySem.W.Frag):List V→Hp→VK→Prop:=fun xs H Q=>BH K xs H Q
theorem pb (e:X.K=K:=by rfl):fe X (.type "list") (C1 K):=by
 subst e
 exact fun pins s σ H xs us Q I r ⟨p,ys,e,h,q⟩=>wc pins s σ H xs us Q I r ⟨p,ys,e,h,fun l hl=>q l _ (.mk' hl)⟩
inductive zV (K:PySem.W.Frag) (xs:List V) (H:Hp) (Q:VK):Prop
 | mk (p:_) (ys:_) (h0:xs=[.ref p]) (h1:aG K H p ys) (h2:∀l H',Nw H l (.tup ys) H'→Q (.ref l) H')
def Bq (K:PySem.W.Frag):List V→Hp→VK→Prop:=fun xs H Q=>zV K xs H Q
theorem dW (e:X.K=K:=by rfl):fe X (.type "tuple") (Bq K):=by
 subst e
 exact fun pins s σ H xs us Q I r ⟨p,ys,e,h,q⟩=>uZ pins s σ H xs us Q I r ⟨p,ys,e,.inl ⟨h,fun l hl=>q l _ (.mk' hl)⟩⟩
end
structure Ch (H:Hp) (p:Addr) (xs:List V) (H':Hp):Prop where
 at':H' p=some (.lst xs)
 ol:∀a o,a≠p→H a=some o→H' a=some o
 fre:∀a,a≠p→H a=none→H' a=none
theorem Ch.mk' {H:Hp}{p:Addr}{xs:List V}:Ch H p xs (aI H p (.lst xs)):=⟨aC,fun a o n h=>by rw [av n];exact h,fun a n h=>by rw [av n];exact h⟩
theorem Ch.tup {H H':Hp}{p a:Addr}{xs ys zs:List V} (c:Ch H p xs H') (h:H a=some (.tup ys)) (hp:H p=some (.lst zs)):H' a=some (.tup ys):=c.ol a _ (A9 h hp (by intro z;cases z)) h
section
variable {X:Cx}
inductive CQ (o:V) (i:V) (v:V) (H:Hp) (Q:(Hp→Prop)):Prop
 | mk (p:_) (xs:_) (k:_) (j:_) (h0:o=.ref p) (h1:i=.int k) (h2:H p=some (.lst xs)) (h3:qc xs.length k=some j) (h4:∀H',Ch H p (xs.set j v) H'→Q H')
def F5:V→V→V→Hp→(Hp→Prop)→Prop:=fun o i v H Q=>CQ  o i v H Q
theorem ur:xE X F5:=fun pins s σ H o i v ov iv u Q I ro ri rv ⟨p,xs,k,j,e1,e2,h,hj,q⟩=>so pins s σ H o i v ov iv u Q I ro ri rv ⟨p,xs,k,j,e1,e2,h,hj,q _ .mk'⟩
inductive CL (x:V) (vs:List V) (H:Hp) (Q:VK):Prop
 | mk (l:_) (xs:_) (y:_) (h0:x=.ref l) (h1:vs=[y]) (h2:H l=some (.lst xs)) (h3:xs.length≤10000) (h4:∀H',Ch H l (xs++[y]) H'→Q .non H')
def EV:V→List V→Hp→VK→Prop:=fun x vs H Q=>CL  x vs H Q
theorem jm:vN X "list.append" EV:=fun pins s σ H x vs v us Q I rx rv ⟨l,xs,y,e1,e2,h,hz,q⟩=>tZ pins s σ H x vs v us Q I rx rv ⟨l,xs,y,e1,e2,h,(by rw [sizeLine_eq];trivial),q _ .mk'⟩
end
inductive CH (vs:List V) (H:Hp) (Q:VK):Prop
 | mk (n d:Int) (h0:vs=[.int n,.int d]) (h1:d≠0) (h2:Sz 9000 d) (h3:∀p H',Nw H p (fr (KM.low n d)) H'→Q (.ref p) H')
def Ei:Sp:=fun vs H Q _=>CH  vs H Q
inductive Bl (num den:Int→Int→Int→Int→Int) (vs:List V) (H:Hp) (Q:VK):Prop
 | mk (a b:Addr) (n1 d1 n2 d2:Int) (h0:vs=[.ref a,.ref b]) (h1:H a=some (.tup [.int n1,.int d1])) (h2:H b=some (.tup [.int n2,.int d2])) (h3:(Sz 4000 n1∧Sz 4000 d1∧Sz 4000 n2∧Sz 4000 d2∧den n1 d1 n2 d2≠0)) (h4:∀p H',Nw H p (fr (KM.low (num n1 d1 n2 d2) (den n1 d1 n2 d2))) H'→Q (.ref p) H')
def Ev (num den:Int→Int→Int→Int→Int):Sp:=fun vs H Q _=>Bl num den vs H Q
end L2
namespace L2
open PySem PySem.Spec PyProof.Rows
theorem Bx.ch {H H':Hp}{b p:Addr}{t:Int}{xs:List V} (h:Bx H b t) (k:Ch H p xs H') (ne:b≠p):Bx H' b t:=by
 obtain ⟨c,x,e,q,q2,q3⟩:=h
 exact ⟨c,x,k.ol b _ ne e,q,q2,q3⟩
theorem Bx.ne {H:Hp}{b p:Addr}{t:Int} (h:Bx H b t) (hp:H p=none):b≠p:=fun z=>by
 obtain ⟨c,x,e,_⟩:=h
 rw [z,hp] at e;cases e
end L2
namespace L2
open PySem PySem.Spec PyProof.Rows
section
variable {X:Cx}{e:Expr}{te:TE}{st:Expr}{ts:TO}{p2 pos:Pos}{K:PySem.W.Frag}
theorem aH.rev {xs:List V}{us:List Value} (h:aH xs us):aH xs.reverse us.reverse:=by
 induction h with
 | nil=>exact .nil
 | cons h _ ih=>rw [List.reverse_cons,List.reverse_cons];exact ih.append (.cons h .nil)
inductive Er (x:V) (vs:List V) (H:Hp) (Q:VK):Prop
 | mk (l:_) (xs:_) (k:_) (y:_) (h0:x=.ref l) (h1:vs=[.int k,y]) (h2:H l=some (.lst xs)) (h3:0≤k) (h4:k≤xs.length) (h5:xs.length≤10000) (h6:∀H',Ch H l (xs.take k.toNat++y :: xs.drop k.toNat) H'→Q .non H')
def FQ:V→List V→Hp→VK→Prop:=fun x vs H Q=>Er  x vs H Q
theorem sC:vN X "list.insert" FQ:=by
 intro pins s σ H x vs v us Q I rx rv h
 obtain ⟨l,xs,k,y,rfl,rfl,hH,h0,h1,hz,q⟩:=h
 cases rx
 obtain ⟨u1,u2,rfl,r1,r2⟩:=rv.two
 obtain ⟨t1,rfl⟩:=r1
 obtain ⟨z,its,n,r,hl,e⟩:=I.lstM hH
 have hf:Builtin.List.listFitsIndex k=true:=by
  unfold Builtin.List.listFitsIndex
  simp
  trivial
 refine call_meets F.slot_list_insert ⟨_,e,rfl⟩ F.entry_list_insert (F.args_list_insert_3 _ _ _) (AutoSeq1.list_insert_list_int_val_1 l its.toArray n k t1 u2 (by simp [hf]) (by rw [List.size_toArray];trivial)) ⟨e,?_⟩
 refine ⟨.non,_,I.lset (its':=its.take k.toNat++u2 :: its.drop k.toNat) hH e ?_ ((r.take k.toNat).append (.cons r2 (r.drop k.toNat))) ?_,rfl,q _ .mk'⟩
 ·have hk:¬k<0:=by trivial
  have hm:min k.toNat its.length=k.toNat:=by trivial
  simp only [if_neg hk,List.size_toArray,hm]
  apply Array.ext'
  simp
  exact List.take_of_length_le (by rw [List.length_drop];trivial)
 ·rw [List.length_append,List.length_cons,List.length_take,List.length_drop,sizeLine_eq]
  trivial
end
end L2
namespace L2
open PySem PySem.Spec PyProof.Rows
end L2
namespace L2
open PySem PySem.Spec PyProof.Rows
def S (l:List Nat):Str:=⟨l.toArray⟩
theorem qy {a b:List Nat} (h:S a=S b):a=b:=by
 have:a.toArray=b.toArray:=by injection h
 simpa using this
theorem xN (a b:List Nat):S a++S b=S (a++b):=by
 show (⟨a.toArray++b.toArray⟩:Str)=⟨(a++b).toArray⟩
 simp
theorem tj (a:List Nat):(S a).length=a.length:=by
 show a.toArray.size=_
 simp
theorem Eu (a:List Nat):(S a).cps.toList=a:=rfl
theorem zp (k:Nat) (l:List Nat):∀acc:List Nat,(List.replicate k l.toArray).foldl (·++·) acc.toArray=(acc++(List.replicate k l).flatten).toArray:=by
 induction k with
 | zero=>intro acc;simp
 | succ k ih=>
  intro acc
  rw [List.replicate_succ,List.foldl_cons,List.replicate_succ,List.flatten_cons]
  have:acc.toArray++l.toArray=(acc++l).toArray:=by simp
  rw [this,ih,List.append_assoc]
theorem uS:∀ls:List (List Nat),Str.join (S []) (ls.map S)=S ls.flatten
 | []=>rfl
 | [a]=>by
  show S a=S (a++[])
  rw [List.append_nil]
 | a :: b :: r=>by
  have e:Str.join (S []) ((a :: b :: r).map S)=S a++S []++Str.join (S []) ((b :: r).map S):=rfl
  rw [e,uS (b :: r),xN,xN,List.append_nil]
  rfl
section
variable {X:Cx}{K:PySem.W.Frag}
inductive CZ (x:V) (y:V) (H:Hp) (Q:VK):Prop
 | mk (l:_) (n:_) (h0:x=.str (S l)) (h1:y=.int n) (h2:1≤n) (h3:n≤1000) (h4:l.length≤100) (h5:Q (.str (S (List.replicate n.toNat l).flatten)) H)
def Fj:R2:=fun x y H Q=>CZ  x y H Q
theorem xy:cD X (binaryOp .Mult) Fj:=by
 intro pins s σ H x y v u Q I rx ry h
 obtain ⟨l,n,rfl,rfl,h1,h2,h3,q⟩:=h
 obtain ⟨t,rfl⟩:=rx
 obtain ⟨t',rfl⟩:=ry
 have hlen:(S l).length=l.length:=tj l
 have hmul:l.length*n.toNat≤100*1000:=Nat.mul_le_mul h3 (by trivial)
 refine PySem.P.mul_str ?_ ?_ ?_ ?_
 ·rw [decide_eq_false (by trivial),decide_eq_false (by trivial)];rfl
 ·intro _ _
  rw [hlen]
  have:(100:Int)<(2 ^ 63 - 1) / n:=by
   have:(100+1)*n≤2 ^ 63 - 1:=by trivial
   have:=(Int.le_ediv_iff_mul_le (by trivial:0<n)).mpr this
   trivial
  trivial
 ·intro _ _
  rw [hlen]
  unfold Builtin.Str.tooLong
  rw [decide_eq_false]
  rw [sizeLine_eq]
  trivial
 ·rw [if_neg (by trivial)]
  by_cases hn:(n==1 || (S l).length==0)=true
  ·rw [if_pos hn]
   refine ⟨.str (S l),H,I,⟨t,rfl⟩,?_⟩
   have e:(List.replicate n.toNat l).flatten=l:=by
    rw [hlen] at hn
    have hn':n=1∨l.length=0:=by simpa using hn
    rcases hn' with rfl | hn'
    ·simp
    ·have:l=[]:=List.eq_nil_of_length_eq_zero hn'
     subst this
     simp
   rw [e] at q
   exact q
  ·rw [if_neg hn]
   have e:(⟨(List.replicate n.toNat (S l).cps).foldl (·++·) #[]⟩:Str)=S (List.replicate n.toNat l).flatten:=by
    have e:=zp n.toNat l []
    rw [List.nil_append] at e
    exact congrArg Str.mk e
   rw [e]
   refine ⟨?_,.str (S (List.replicate n.toNat l).flatten),H,I.tok _,⟨_,rfl⟩,q⟩
   rw [tj,xr,sizeLine_eq,Nat.mul_comm]
   trivial
inductive Dk (K:PySem.W.Frag) (x:V) (vs:List V) (H:Hp) (Q:VK):Prop
 | mk (a:_) (ls:_) (h0:x=.str (S [])) (h1:vs=[.ref a]) (h2:aG K H a ((ls:List (List Nat)).map fun l=>V.str (S l))) (h3:(ls.map (·.length)).sum≤10000) (h4:Q (.str (S ls.flatten)) H)
def Fl (K:PySem.W.Frag):V→List V→Hp→VK→Prop:=fun x vs H Q=>Dk K x vs H Q
theorem zf {ls:List (List Nat)}:∀{us:List Value},aH (ls.map fun l=>V.str (S l)) us→StrsAre us (ls.map S):=by
 induction ls with
 | nil=>intro us h;cases h;exact .nil
 | cons l r ih=>
  intro us h
  cases h with
  | cons h t=>
   obtain ⟨tk,rfl⟩:=h
   exact .cons _ _ (ih t)
theorem BW (ek:X.K=K:=by rfl):Bb X "str.join" (Fl K):=by
 subst ek
 intro pins s σ H x vs v us Q I rx rv h
 obtain ⟨a,ls,rfl,rfl,hS,hz,q⟩:=h
 obtain ⟨t,rfl⟩:=rx
 obtain ⟨u,rfl,ru⟩:=rv.one
 obtain rfl:u=Value.ref a:=ru
 obtain ⟨its,r,ht,_⟩:=I.list hS
 have e1:((ls.map S).map (·.length)).sum=(ls.map (·.length)).sum:=by
  rw [List.map_map]
  congr 1
 refine join_list (ys:=ls.map S) ht.isList (by simpa using zf r) ?_ fun t' k=>?_
 ·rw [e1,show (S []).length=0 from rfl]
  trivial
 ·have:=join_plain_closes (S []) (ls.map S)
  rw [eq_of_beq this,uS]
  exact ⟨.str (S ls.flatten),H,I.tok k,⟨_,rfl⟩,q⟩
inductive Dc (x:V) (y:V) (H:Hp) (Q:VK):Prop
 | mk (a:_) (b:_) (h0:x=.str (S a)) (h1:y=.str (S b)) (h2:a.length+b.length≤10000) (h3:Q (.str (S (a++b))) H)
def Fx:R2:=fun x y H Q=>Dc  x y H Q
theorem xa:cD X (binaryOp .Add) Fx:=fun pins s σ H x y v u Q I rx ry ⟨a,b,e1,e2,hz,q⟩=>
 xF pins s σ H x y v u Q I rx ry ⟨S a,S b,e1,e2,by rw [tj,tj];exact fE hz,by rw [xN];exact q⟩
end
theorem x4:Str.ofString "abcdefghijklmnopqrstuvwxyz" = S ((List.range 26).map (97+·)):=by decide +kernel
theorem AG:Str.ofString "" = S []:=by decide +kernel
theorem uK {i:Int} (h0:-26≤i) (h1:i<26):ma ((Str.ofString "abcdefghijklmnopqrstuvwxyz").cps.toList) i=some (97+(i % 26).toNat):=by
 rw [x4,Eu]
 have:∀k:Fin 52,ma ((List.range 26).map (97+·)) ((k.val:Int) - 26)=some (97+(((k.val:Int) - 26) % 26).toNat):=by decide +kernel
 have e:=this ⟨(i+26).toNat,by trivial⟩
 simp only at e
 rw [show (((i+26).toNat:Nat):Int) - 26=i by trivial] at e
 exact e
theorem D0 {f:Int}{j k:Nat} (hj:j<26) (hk:k<26) (h:(f+11*(j:Int)) % 26=(f+11*(k:Int)) % 26):j=k:=by trivial
end L2
namespace L2
open PySem PySem.Spec PyProof.Rows
structure oM (l:List Nat):Prop where
 lo:1≤l.length
 hi:l.length≤8
 az:∀c∈l,97≤c∧c≤122
abbrev aD (l:List Nat):V:=.str (S l)
def nm (c k:Nat):List Nat:=List.replicate (1+k) c
theorem GM (n c:Nat):(List.replicate n [c]).flatten=List.replicate n c:=by
 induction n with
 | zero=>rfl
 | succ n ih=>rw [List.replicate_succ,List.flatten_cons,ih,List.replicate_succ];rfl
theorem FP {c k:Nat} (hk:k<8) (h1:97≤c) (h2:c≤122):oM (nm c k):=⟨by simp [nm],by simp [nm];trivial,fun d hd=>by
 have:=List.eq_of_mem_replicate hd
 trivial⟩
theorem Ec {c d j k:Nat} (h:nm c j=nm d k):c=d∧j=k:=by
 have h1:=congrArg List.length h
 simp [nm] at h1
 subst h1
 have h2:=congrArg List.head? h
 simp [nm,List.replicate_succ,Nat.add_comm 1] at h2
 exact ⟨h2,rfl⟩
theorem uf {xs:List V}{m:Int} (h:0≤m):dk xs none (some m)=xs.take m.toNat:=by
 unfold dk
 have e:m=((m.toNat:Nat):Int):=by trivial
 rw [HT.sIx_none,e,HT.sIx_nat]
 simp only [Int.toNat_natCast,List.drop_zero,Nat.sub_zero]
 by_cases hm:m.toNat≤xs.length
 ·rw [Nat.min_eq_left hm]
 ·rw [Nat.min_eq_right (by trivial),List.take_of_length_le (Nat.le_refl _),List.take_of_length_le (by trivial)]
theorem wT {ls:List (List Nat)}{f:Int} (hl:ls.length≤26) (h:∀(j:Nat) (l:List Nat),ls[j]?=some l→l.head?=some (97+((f+11*(j:Int)) % 26).toNat)):ls.Nodup:=by
 rw [List.nodup_iff_pairwise_ne,List.pairwise_iff_getElem]
 intro i j hi hj hij e
 have h1:=h i ls[i] (List.getElem?_eq_getElem hi)
 have h2:=h j ls[j] (List.getElem?_eq_getElem hj)
 rw [e,h2] at h1
 injection h1 with h1
 have a1:=Int.emod_nonneg (f+11*(i:Int)) (by decide:(26:Int)≠0)
 have a2:=Int.emod_nonneg (f+11*(j:Int)) (by decide:(26:Int)≠0)
 have:=D0 (f:=f) (j:=i) (k:=j) (by trivial) (by trivial) (by trivial)
 trivial
theorem bh.ch {b D:Addr}{H H1 H2:Hp}{xs:List V} (s:bh (Eb b) H H1) (c:Ch H1 D xs H2) (hD:H D=none):bh (Eb b) H H2:=
 ⟨fun a u ne h=>c.ol a u (bq h hD) (s.old a u ne h),fun a us h=>c.ol a _ (bq h hD) (s.tup a us h)⟩
theorem bh.up {b D:Addr}{H H1:Hp}{o:HO} (s:bh (Eb b) H H1) (hD:H D=none):bh (Eb b) H (aI H1 D o):=
 ⟨fun a u ne h=>by rw [av (bq h hD)];exact s.old a u ne h,fun a us h=>by rw [av (bq h hD)];exact s.tup a us h⟩
end L2
namespace L2
open PySem PySem.Spec PyProof.Rows
def C7 (x:Str):Prop:=x.length≤300∧∀c∈x.cps.toList,c<128
mutual
inductive Wt:PyData→Nat→Nat→Prop
 | non {k:Nat}:Wt .none 1 k
 | bl (b:Bool) {k:Nat}:Wt (.bool b) 1 k
 | int {i:Int} (h:Sz 1900 i) {k:Nat}:Wt (.int i) 1 k
 | str {x:Str} (h:C7 x) {k:Nat}:Wt (.str x) 1 k
 | list {xs:List PyData}{n k:Nat} (h:je xs n k):Wt (.list xs) (n+1) (k+1)
 | tuple {xs:List PyData}{n k:Nat} (h:je xs n k):Wt (.tuple xs) (n+1) (k+1)
inductive je:List PyData→Nat→Nat→Prop
 | nil {k:Nat}:je [] 0 k
 | cons {x:PyData}{xs:List PyData}{m n k:Nat} (h:Wt x m k) (r:je xs n k):je (x :: xs) (m+n) k
end
mutual
theorem Wt.dep:∀{d:PyData}{n k:Nat},Wt d n k→d.depth≤k
 | _,_,_,.non=>by simp [PyData.depth]
 | _,_,_,.bl b=>by simp [PyData.depth]
 | _,_,_,.int h=>by simp [PyData.depth]
 | _,_,_,.str h=>by simp [PyData.depth]
 | _,_,_,.list h=>by simp only [PyData.depth];exact Nat.succ_le_succ (je.dep h)
 | _,_,_,.tuple h=>by simp only [PyData.depth];exact Nat.succ_le_succ (je.dep h)
theorem je.dep:∀{ds:List PyData}{n k:Nat},je ds n k→PyData.depthAll ds≤k
 | _,_,_,.nil=>by simp [PyData.depthAll]
 | _,_,_,.cons h r=>by simp only [PyData.depthAll];exact Nat.max_le.mpr ⟨Wt.dep h,je.dep r⟩
end
end L2
namespace L2
open PySem PySem.Spec PyProof.Rows
mutual
theorem Wt.can:∀{d:PyData}{n k:Nat},Wt d n k→d.canLay0=true
 | _,_,_,.non=>by simp [PyData.canLay0]
 | _,_,_,.bl b=>by simp [PyData.canLay0]
 | _,_,_,.int h=>by simp [PyData.canLay0]
 | _,_,_,.str (x:=x) h=>by
  simp only [PyData.canLay0]
  unfold PySem.PyData.strOk
  rw [Array.all_eq_true]
  intro i hi
  have:=h.2 x.cps[i] (by simp)
  simp
  trivial
 | _,_,_,.list h=>by simp only [PyData.canLay0];exact je.can h
 | _,_,_,.tuple h=>by simp only [PyData.canLay0];exact je.can h
theorem je.can:∀{ds:List PyData}{n k:Nat},je ds n k→PyData.canLayAll0 ds=true
 | _,_,_,.nil=>by simp [PyData.canLayAll0]
 | _,_,_,.cons h r=>by simp only [PyData.canLayAll0,Bool.and_eq_true];exact ⟨Wt.can h,je.can r⟩
end
section
variable {X:Cx}
inductive Fn (ne:Bool) (x:V) (y:V) (H:Hp) (Q:VK):Prop
 | mk (d e:PyData) (E F:Addr→Prop) (m n k l:Nat) (h0:bE E H x d) (h1:bE F H y e) (h2:Wt d m k) (h3:Wt e n l) (h4:k≤60) (h5:Q (.bl (if ne then !PyData.eqv d e else PyData.eqv d e)) H)
def D6 (ne:Bool):R2:=fun x y H Q=>Fn ne x y H Q
theorem tf (hu:X.A.units+64<cLine):cD X (compareOp .Eq) (D6 false):=by
 intro pins s σ H x y v u Q I rx ry h
 obtain ⟨d,e,E,F,m,n,k,l,hd,he,wd,we,hk,q⟩:=h
 obtain ⟨as,ra⟩:=hd.reads I.hok rx
 obtain ⟨bs,rb⟩:=he.reads I.hok ry
 exact PySem.SeqAt.compareEq_reads ra rb wd.can we.can (by have:=wd.dep;trivial) ⟨.bl _,H,I,rfl,q⟩
theorem vQ (hu:X.A.units+64<cLine):cD X (compareOp .NotEq) (D6 true):=by
 intro pins s σ H x y v u Q I rx ry h
 obtain ⟨d,e,E,F,m,n,k,l,hd,he,wd,we,hk,q⟩:=h
 obtain ⟨as,ra⟩:=hd.reads I.hok rx
 obtain ⟨bs,rb⟩:=he.reads I.hok ry
 exact PySem.SeqAt.compareNe_reads ra rb wd.can we.can (by have:=wd.dep;trivial) ⟨.bl _,H,I,rfl,q⟩
end
abbrev ED:Addr→Prop:=fun _=>True
abbrev cJ (p:KM.Fra):PyData:=.tuple [.int p.1,.int p.2]
structure ah where
 bg:List Nat
 en:List Nat
 most:KM.Fra
 gain:KM.Fra
 price:KM.Fra
abbrev dG (t:ah):PyData:=.tuple [.str (S t.bg),.str (S t.en),cJ t.most,cJ t.gain,cJ t.price]
abbrev eT (ls:List (List Nat)) (ts:List ah):PyData:=.tuple [.tuple (ls.map fun l=>.str (S l)),.tuple (ts.map dG)]
theorem cQ {H:Hp}{o:Addr}{p:KM.Fra} (h:H o=some (.tup [.int p.1,.int p.2])):bE ED H (.ref o) (cJ p):=.tup h (.cons (.int _) (.cons (.int _) .nil))
theorem jP {E:Addr→Prop}{H:Hp}{v:V}{p:KM.Fra} (h:bE E H v (cJ p)):∃o,v=.ref o∧H o=some (.tup [.int p.1,.int p.2]):=by
 cases h with
 | @tup a xs _ h r=>
  cases r with
  | cons h1 r=>
  cases r with
  | cons h2 r=>
  cases r
  cases h1
  cases h2
  exact ⟨a,rfl,h⟩
theorem aJ.tupS {E:Addr→Prop}{H H':Hp}{v:List V}{d:List PyData} (h:aJ ED H v d) (k:bh E H H'):aJ ED H' v d:=h.mono ⟨fun _ _ n _=>absurd trivial n,k.tup⟩
theorem bE.sm {E:Addr→Prop}{H H':Hp}{v:V}{d:PyData} (h:bE E H v d) (k:aj H H'):bE E H' v d:=h.mono k.toE
theorem pQ {H:Hp}:∀ls:List (List Nat),aJ ED H (ls.map aD) (ls.map fun l=>.str (S l))
 | []=>.nil
 | _ :: r=>.cons (.str _) (pQ r)
theorem ue {l:List Nat} (h:oM l):C7 (S l):=⟨by rw [tj];have:=h.hi;trivial,fun c hc=>by have:=h.az c hc;trivial⟩
end L2
namespace L2
open PySem PySem.Spec PyProof.Rows
theorem yo {m:Int} (h0:0<m) (h1:m<1099511627776):m.natAbs.log2<9000:=by
 have a:Sz 40 m:=by show m.natAbs<1099511627776;trivial
 exact Nat.lt_trans (a.log (by trivial)) (by decide)
end L2
namespace L2
open PySem PySem.Spec PyProof.Rows
end L2
namespace L2
theorem uw {α:Type}{ls:List α} (h:ls.Nodup) {i j:Nat} (hi:i<ls.length) (hj:j<ls.length) (e:ls[i]=ls[j]):i=j:=by
 have p:=List.pairwise_iff_getElem.mp h
 rcases Nat.lt_trichotomy i j with q | q | q
 ·exact absurd e (p i j hi hj q)
 ·exact q
 ·exact absurd e.symm (p j i hj hi q)
end L2
namespace L2
open PySem PySem.Spec PyProof.Rows
end L2
namespace L2
end L2
namespace L2
open PySem PySem.Spec PyProof.Rows
theorem aJ.take {E:Addr→Prop}{H:Hp}:∀{xs:List V}{ds:List PyData} (n:Nat),aJ E H xs ds→aJ E H (xs.take n) (ds.take n)
 | _,_,0,_=>by simp;exact .nil
 | _,_,_+1,.nil=>by simp;exact .nil
 | _,_,n+1,.cons h r=>by simp;exact .cons h (aJ.take n r)
end L2
namespace L2
open PySem PySem.Spec PyProof.Rows
open AutoSeq1 (wpAny_loadPart')
set_option maxHeartbeats 4000000 in
theorem AQ (l:Addr) (its:Array Value) (n:Nat) (dct:Option Addr) (sl:Array (Option Value)) :
 Meets (Builtin.«enumerate.__new__» ⟨[.type "enumerate",.ref l],[]⟩) (fun _ R s=>s.heap.get? l=some { cls:=.type "tuple",dict:=dct,data:=.seq its n,slots:=sl }∧
  R (.ok (.ret (.ref (s.heap.push { cls:=.type "tuple_iterator",data:=.fields #[.ref l,.int 0 0] }).objs.size))) { s with heap:=(s.heap.push { cls:=.type "tuple_iterator",data:=.fields #[.ref l,.int 0 0] }).push { cls:=.type "enumerate",data:=.fields #[.none,.bool false,.ref s.heap.objs.size,rawInt 0,.none,.none] } }):=
 .of_wp fun prog w A R s h=>by
  obtain ⟨hp,g,d,tk,os⟩:=s;obtain ⟨hl,h⟩:=h;have hsub:=sub_enumerate
  have hT:Heap.IsTuple (Shared.heap ⟨hp,g,d,tk,os⟩) l its:=⟨_,hl,rfl,n,rfl⟩
  wp_walk using wpAny_loadPart' hl
  refine wpAny_stack_any fun st=>wpAny_pure ?_;split
  ·rename_i c _ _ _ _ _;cases (c==Value.type "enumerate")
   ·wp_walk using wpAny_loadPart' hl,wpAny_pyIter_tuple hT
    exact ⟨_,rfl,h⟩
   ·wp_walk using wpAny_loadPart' hl,wpAny_pyIter_tuple hT
    exact ⟨_,rfl,h⟩
  ·wp_walk using wpAny_loadPart' hl,wpAny_pyIter_tuple hT
   exact ⟨_,rfl,h⟩
section
variable {prog:Program}{w:World}{A:Around}{E:Value→Shared→Prop}{s:Shared}
theorem xQ {l:Addr}{its:Array Value}{Q:Value→Shared→Prop}:∀{c:Bool},dA s.heap l its c→
 (∀h',IsEnum h' (s.heap.objs.size+1) s.heap.objs.size 0 .none→cA h' s.heap.objs.size l 0 c→(∀b o,s.heap.get? b=some o→h'.get? b=some o)→Q (.ref (s.heap.objs.size+1)) { s with heap:=h' })→
 wpAny (model prog w) A (call (.type "enumerate") [.ref l]) Q E s
 | true,q,h=>call_enumerate_list q fun h' a b _ k=>h h' a b k
 | false,q,h=>by
  obtain ⟨⟨c,dct,dt,sl⟩,hl,hc,n,hd⟩:=q
  dsimp only at hc hd
  subst hc hd
  refine callType_new F.called_enumerate (by decide) (F.typeCall_enumerate_1 _) (F.newCall_enumerate_1 _) (fun obj=>F.args_object_init_2 obj _) F.entry_enumerate_new (AQ l its n dct sl) ⟨hl,?_⟩
  have hz:(s.heap.push { cls:=.type "tuple_iterator",data:=.fields #[.ref l,.int 0 0] }).objs.size=s.heap.objs.size+1:=Heap.size_push ..
  show _∧_
  rw [hz]
  have he:IsEnum ((s.heap.push { cls:=.type "tuple_iterator",data:=.fields #[.ref l,.int 0 0] }).push { cls:=.type "enumerate",data:=.fields #[.none,.bool false,.ref s.heap.objs.size,rawInt 0,.none,.none] }) (s.heap.objs.size+1) s.heap.objs.size 0 .none:=by
   rw [←hz];exact Heap.get?_push_size _ rfl
  exact ⟨⟨_,he,rfl⟩,h _ he ⟨_,Heap.get?_push_of_some _ (Heap.get?_push_size _ rfl),rfl,rfl⟩ fun b o e=>Heap.get?_push_of_some _ (Heap.get?_push_of_some _ e)⟩
end
def wG (K:PySem.W.Frag) (a:Addr) (c:Bool):It:=
 ⟨fun i H=>bz fun xs x=>i9 K H a xs c∧xs[i]?=some x,fun i H v H'=>bz fun T x=>H T=none∧v=.ref T∧H'=aI H T (.tup [.int (i:Int),x])∧∀xs,i9 K H a xs c→xs[i]?=some x,fun i H=>∃xs,i9 K H a xs c∧xs.length=i⟩
theorem ye {P:Program}{w:World}{K:PySem.W.Frag}{es:List Expr}{kk:Nat}{pos:Pos} (a e it:Addr) (c:Bool) (hne:e≠it) (hae:a≠e) (hai:a≠it) :
 tS P w K (.Tuple es kk pos) (wG K a c) [e,it] e (fun i h=>(∃old,IsEnum h e it i old)∧cA h it a i c) where
 mem:=by simp
 obj:=fun i h st b hb=>by
  obtain ⟨⟨old,he⟩,hi⟩:=st
  have hb':b=e∨b=it:=by simpa using hb
  rcases hb' with rfl | rfl
  ·exact ⟨_,he,fun v z=>by have z':Data.fields _=Data.cell v:=z;cases z'⟩
  ·exact hi.some
 keep:=fun i h h' st k=>by
  obtain ⟨⟨old,he⟩,hi⟩:=st
  exact ⟨⟨old,k e (by simp) _ he⟩,hi.at fun o q=>k it (by simp) o q⟩
 item:=by
  intro X hP hw hK hc i pins s σ H E I hf st hg
  subst hP hw hK
  obtain ⟨⟨old,he⟩,hit⟩:=st
  obtain ⟨xs,x,hq,hx⟩:=hg
  obtain ⟨its,rv,p⟩:=I.seqC hq
  obtain ⟨u,hu,ru⟩:=rv.get hx
  have hnT:H s.heap.objs.size=none:=I.fresh
  have hiu:i<its.length:=(List.getElem?_eq_some_iff.mp hu).1
  have D:=iP (prog:=X.prog) (w:=X.w) (A:=X.A.in1) (I.ok.hd hc) it a hai its.toArray c
  refine wpAny_pyNext_enum_itemD D he ⟨hit,p⟩ (by simpa using hiu) hne (by simp;exact ⟨hne,Ne.symm hae⟩) fun u' h' tk hP ho st' hT hsz hk=>?_
  have eu:u=u':=by
   have:its.toArray[i]?=some u':=hP
   rw [List.getElem?_toArray,hu] at this
   exact Option.some.inj this
  subst eu
  refine ⟨_,rfl,wpAny_letOwnedTupleGo_enum (s:={ s with heap:=h',toks:=tk+1 }) ho fun h'' he'' hs''=>?_⟩
  have helt:e<s.heap.objs.size:=Heap.lt_size he
  have hilt:it<s.heap.objs.size:=let ⟨_,y,_⟩:=hit.some;Heap.lt_size y
  have hT'':h''.get? s.heap.objs.size=some { cls:=.type "tuple",data:=.seq #[.int i tk,u] }:=(hs''.2 _ (Nat.ne_of_gt helt)).trans hT
  refine ⟨.ref s.heap.objs.size,aI H s.heap.objs.size (.tup [.int (i:Int),x]),I.turnedNew (ch:=[e,it]) (t':=tk+1) hf (fun b o hb q=>?_) (Nat.le_refl _) ?_,rfl,⟨_,x,hnT,rfl,rfl,fun ys hy=>by rw [I.seqC_inj hy hq];exact hx⟩,⟨⟨u,?_⟩,st'.1.at fun o q=>(hs''.2 _ (Ne.symm hne)).trans q⟩,fun b hb=>?_⟩
  ·have h1:b≠e:=fun z=>hb (by simp [z])
   have h2:b≠it:=fun z=>hb (by simp [z])
   exact (hs''.2 b h1).trans (hk b o h1 h2 q)
  ·exact ⟨by show 2≤sizeLine;decide,[.int i tk,u],.cons ⟨_,rfl⟩ (.cons ru .nil),⟨_,hT'',rfl,_,rfl⟩,_,hT'',rfl⟩
  ·simpa using he''
  ·have hb':b=e∨b=it:=by simpa using hb
   have hlt:b<s.heap.objs.size:=by rcases hb' with rfl | rfl <;> assumption
   rw [av (Nat.ne_of_lt hlt)]
   exact (hf b hb).1
 done:=by
  intro X hP hw hK hc i pins s σ H E I hf st hg
  subst hP hw hK
  obtain ⟨⟨old,he⟩,hit⟩:=st
  obtain ⟨xs,hq,hx⟩:=hg
  obtain ⟨its,rv,p⟩:=I.seqC hq
  have hl:=rv.length
  have D:=iP (prog:=X.prog) (w:=X.w) (A:=X.A.in1) (I.ok.hd hc) it a hai its.toArray c
  have ei:i=its.toArray.size:=by simp;trivial
  refine wpAny_pyNext_enum_endD D he (by rw [ei] at hit;exact ⟨hit,p⟩) fun h' eb=>⟨rfl,I.turnedL (ch:=[e,it]) (t':=s.toks) hf fun b o hb q=>eb b o (fun z=>hb (by simp [z])) q⟩
 self:=fun _ _ _ _ _ st h=>by
  obtain ⟨⟨old,he⟩,_⟩:=st
  exact wpAny_pyIter_enum he h
def DM (K:PySem.W.Frag) (ta:TA):TI:=fun σ H R=>ta σ H fun vs H1=>bz fun a c=>vs=[.ref a]∧(∃xs,i9 K H1 a xs c)∧R (wG K a c) H1
theorem rF {X:Cx}{K:PySem.W.Frag}{es:List Expr}{kk:Nat}{tp:Pos}{a:Expr}{ta:TA}{p pos:Pos} (hg:Gl X "enumerate") (hm:X.mg "enumerate" = none) (ha:PA X [a] ta) (hs:starEach [a] X.env=[(false,eval a X.env)]:=by rfl) (ek:X.K=K:=by rfl) :
 PI X (.Tuple es kk tp) (.Call (.Name "enumerate" p) [a] [] pos) (DM K ta):=by
 subst ek
 intro pins s σ H R I h
 refine Call_ (gZ I hg hm boot_enumerate (PyProof.Rows.callWith_type1 (aR (ha pos pins s σ H _ I h) fun us s1 ⟨vs,H1,I1,r1,q1⟩=>?_) hs rfl))
 obtain ⟨a,c,rfl,⟨xs,hq⟩,q⟩:=q1
 obtain ⟨u,rfl,ru⟩:=r1.one
 obtain rfl:u=.ref a:=ru
 obtain ⟨its,rv,p⟩:=I1.seqC hq
 have d1:=p.lt
 refine xQ p fun h' hE hI hk=>wpAny_pyIter_enum hE ?_
 have I2:af X pins σ H1 { s1 with heap:=h',toks:=s1.toks }:=I1.kept hk
 refine ⟨s1.heap.objs.size+1,[s1.heap.objs.size+1,s1.heap.objs.size],_,_,H1,rfl,I2,ye a (s1.heap.objs.size+1) s1.heap.objs.size c (Nat.succ_ne_self _) (Nat.ne_of_lt (Nat.lt_succ_of_lt d1)) (Nat.ne_of_lt d1),⟨⟨_,hE⟩,hI⟩,fun b hb=>?_,q⟩
 have hb':b=s1.heap.objs.size+1∨b=s1.heap.objs.size:=by simpa using hb
 have hle:s1.heap.objs.size≤b:=by rcases hb' with rfl | rfl <;> trivial
 exact I1.fpOk hle (I1.hok.fresh hle)
section
variable {X:Cx}
end
end L2
namespace L2
open PySem PySem.Spec PyProof.Rows
end L2
namespace L2
open PySem PySem.Spec PyProof.Rows
theorem aJ.drop {E:Addr→Prop}{H:Hp}:∀{xs:List V}{ds:List PyData} (n:Nat),aJ E H xs ds→aJ E H (xs.drop n) (ds.drop n)
 | _,_,0,h=>by simpa using h
 | _,_,_+1,.nil=>by simp;exact .nil
 | _,_,n+1,.cons h r=>by simp;exact aJ.drop n r
theorem aJ.set {E:Addr→Prop}{H:Hp}{y:V}{d:PyData} (hy:bE E H y d):∀{xs:List V}{ds:List PyData} (i:Nat),aJ E H xs ds→aJ E H (xs.set i y) (ds.set i d)
 | _,_,_,.nil=>by simp;exact .nil
 | _,_,0,.cons h r=>by simp;exact .cons hy r
 | _,_,i+1,.cons h r=>by simp;exact .cons h (aJ.set hy i r)
section
variable {z:Nat}{E:Addr→Prop}{H H':Hp}{n m k:Nat}{v:V}{xs ys:List V}
theorem ya:dk xs (some 1) none=xs.drop 1:=by
 unfold dk
 rw [HT.sIx_none,show (1:Int)=((1:Nat):Int) from rfl,HT.sIx_nat]
 cases xs with
 | nil=>simp
 | cons x r=>simp
end
section
variable {X:Cx}
def Gg (m:Nat) (x:Str):Prop:=x.length≤m∧∀c∈x.cps.toList,c<128
end
end L2
namespace HT
open PySem PySem.Spec PyProof.Rows
section
variable {prog:Program}{w:World}{A:Around}{E:Value→Shared→Prop}{s:Shared}
theorem getItem_tuple_whole {t sl:Addr}{items:Array Value}{vl vu:Value}{lo hi:Option Int}{Q:Value→Shared→Prop} (ht:IsTup s.heap t items) (hs:s.heap.IsSliceOf sl vl vu .none) (pl:IsPart vl lo) (pu:IsPart vu hi)
 (h1:sIx items.size 0 lo=0) (h2:sIx items.size items.size hi=items.size) (h:Q (.ref t) s):wpAny (model prog w) A (getItem (.ref t) (.ref sl)) Q E s:=by
 obtain ⟨os,hos,hcs,hds⟩:=id hs
 have hTs:s.TypeIs (.ref sl) "slice" := ⟨os,hos,hcs⟩
 unfold getItem
 try with_reducible refine wpAny_holding ?_
 first | refine wpAny_bind (wpAny_pure ?_) | skip
 refine wpAny_bind (wpAny_sequenceKey ht.typeIs (by decide) ?_)
 refine wpAny_bind (wpAny_callSpecial?_slot (name:=Str.ofString "__getitem__") ht.typeIs PyProof.Rows.slot_tuple_getitem
  (wpAny_call_entry PyProof.Rows.slot_tuple_getitem ht.typeIs entry_tuple_getitem ?_ (args_tuple_getitem _ _)))
 show wpAny _ _ (Builtin.Tuple.tupleItemsOf (.ref t) >>= _) _ _ s
 refine wpAny_bind (tupleItemsOf_ ht ?_)
 refine wpAny_bind (wpAny_typeOf hTs ?_)
 rw [if_pos (by decide)]
 refine wpAny_bind (lZ hs pl pu ?_)
 have hyes:((((sIx items.size 0 lo:Nat):Int)==0 && (1:Int)==1 && (sIx items.size items.size hi - sIx items.size 0 lo)==items.size)=true):=by
  rw [h1,h2];simp
 show wpAny _ _ (if (((sIx items.size 0 lo:Nat):Int)==0 && (1:Int)==1 && (sIx items.size items.size hi - sIx items.size 0 lo)==items.size)=true then _ else _) _ _ s
 rw [if_pos hyes]
 refine wpAny_bind (m:=Builtin.Tuple.tupleIsExact _) (wpAny_bind (wpAny_typeOf ht.typeIs (wpAny_pure ?_)))
 rw [if_pos (by decide)]
 exact wpAny_bind (wpAny_rule (wpAny_pure ⟨_,rfl,wpAny_pure h⟩))
end
end HT
namespace L2
open PySem PySem.Spec PyProof.Rows
section
variable {X:Cx}{K:PySem.W.Frag}
inductive DQ (K:PySem.W.Frag) (x:V) (lo:Option Int) (hi:Option Int) (H:Hp) (Q:VK):Prop
 | mk (a:_) (xs:_) (h0:x=.ref a) (h1:au K H a xs) (h2:H a=some (.tup xs)) (h3:∀p H',aj H H'→H' p=some (.tup (dk xs lo hi))→Q (.ref p) H')
def Fs (K:PySem.W.Frag):V→Option Int→Option Int→Hp→VK→Prop:=fun x lo hi H Q=>DQ K x lo hi H Q
theorem qr (e:X.K=K:=by rfl):yX X (Fs K):=by
 subst e
 intro pins s σ H x v vl vu lo hi sl Q I rx hs pl pu h
 obtain ⟨a,xs,rfl,hx,ha,q⟩:=h
 by_cases hw:HT.sIx xs.length 0 lo=0∧HT.sIx xs.length xs.length hi=xs.length
 ·cases rx
  obtain ⟨its,r,ht,hz⟩:=I.tuple hx
  have hlen:its.toArray.size=xs.length:=by rw [List.size_toArray];exact r.length.symm
  refine ⟨"tuple",_,PyProof.Rows.slot_tuple_getitem.lookup,ht.typeIs,?_⟩
  refine HT.getItem_tuple_whole ht hs pl pu (by rw [hlen];exact hw.1) (by rw [hlen];exact hw.2) ⟨.ref a,H,I,rfl,q a H (aj.refl _) ?_⟩
  have:dk xs lo hi=xs:=by
   unfold dk
   rw [hw.1,hw.2,List.drop_zero,Nat.sub_zero,List.take_length]
  rw [this];exact ha
 ·exact Ee pins s σ H _ v vl vu lo hi sl Q I rx hs pl pu ⟨a,xs,rfl,hx,hw,fun p hp=>q p _ (aj.new hp) aC⟩
end
end L2
namespace L2
open PySem PySem.Spec PyProof.Rows
def jv:bp→V
 | .inl i=>.int i
 | .inr x=>.str x
theorem xD {k:bp}{u:Value} (h:bc (jv k) u):ka k u=true∧u.scannable=true:=by
 cases k with
 | inl i=>obtain ⟨t,rfl⟩:=h;exact ⟨zI i t,rfl⟩
 | inr x=>obtain ⟨t,rfl⟩:=h;exact ⟨zt x t,rfl⟩
section
variable {prog:Program}{w:World}{A:Around}{R:Result→Shared→Prop}{it:Addr}{fp wr:List Addr}{G:Array GenState→Array GenState→Prop}{P:Nat→Value→Prop}{St:Nat→Shared→Prop}
end
section
variable {prog:Program}{w:World}{A:Around}{E:Value→Shared→Prop}{s:Shared}
end
section
variable {X:Cx}{K:PySem.W.Frag}{e:Expr}{te:TE}{p1 p2 p3 p4:Pos}
theorem uh:∀{ks:List bp}{us:List Value},aH (ks.map jv) us→us.length=ks.length∧∀(i:Nat) v,us[i]?=some v→∀k,ks[i]?=some k→ka k v=true∧v.scannable=true
 | [],_,.nil=>⟨rfl,fun i v e=>by simp at e⟩
 | k :: r,_,.cons h t=>by
  obtain ⟨a,b⟩:=uh (ks:=r) t
  refine ⟨by simp [a],fun i v e j f=>?_⟩
  cases i with
  | zero=>
   simp at e f
   subst e f
   exact xD h
  | succ i=>exact b i v (by simpa using e) j (by simpa using f)
end
end L2
namespace L2
open PySem PySem.Spec PyProof.Rows
section
variable {X:Cx}{K:PySem.W.Frag}{o e:Expr}{es:List Expr}{to:TE}{t:TA}{name:Str}{apos cpos:Pos}{T id:String}{r:V→List V→Hp→VK→Prop}
theorem fS (pa:PlainAttrs T) (slot:Slot T name id) (hty:typeOf (.builtin id)=pure (.type "method_descriptor")) (hm:Bb X id r) (ho:PE X o to) (ha:PA X (e :: es) t) (ek:X.K=K:=by rfl)
 (h1:attributeBase o name X.env (eval o X.env)=eval o X.env:=by rfl)
 (h2:((backTo cpos (starEach (e :: es) X.env)).all (fun x=>!x.1) && (backToKw cpos (keywordEach [] X.env)).all (fun x=>x.1.isSome) && decide ((e :: es).length+([]:List Keyword).length+(if ([]:List Keyword).isEmpty then 0 else 1)<30))=true:=by rfl)
 (h3:(apos.endLine==cpos.line)=true:=by rfl) (h4:starEach (e :: es) X.env=(false,eval e X.env) :: starEach es X.env:=by rfl) (h5:(backTo cpos (starEach es X.env)).any (·.1)=false:=by rfl) :
 PE X (.Call (.Attribute o name apos) (e :: es) [] cpos) (Gf K T r to t):=by
 subst ek
 exact E5 pa slot hty hm ho ha h1 h2 h3 h4 h5
end
theorem Ac {X:Cx}{K:PySem.W.Frag}{es:List Expr}{kk:Nat}{tp:Pos}{a b:Expr}{ta:TA}{p pos:Pos} (hg:Gl X "zip") (hm:X.mg "zip" = none) (ha:PA X [a,b] ta) (ek:X.K=K:=by rfl) (h1:starEach [a,b] X.env=[(false,eval a X.env),(false,eval b X.env)]:=by rfl) (h2:starEach [b] X.env=[(false,eval b X.env)]:=by rfl) :
 PI X (.Tuple es kk tp) (.Call (.Name "zip" p) [a,b] [] pos) (Ez K ta):=by
 subst ek
 exact Eo hg hm ha h1 h2
end L2
namespace L2
theorem bT {t u:TS}{D:cF}{σ:St}{H:Hp} (h:∀D':cF,(∀σ' H',u D σ' H'→D'.nx σ' H')→t D' σ H):o6 t u D σ H:=h { D with nx:=u D } fun _ _ z=>z
theorem xV {t u:TS}{D:cF}{σ:St}{H:Hp} (h:∀D':cF,(∀σ' H',u D σ' H'→D'.nx σ' H')→(∀v H',D.rt v H'→D'.rt v H')→t D' σ H):o6 t u D σ H:=h { D with nx:=u D } (fun _ _ z=>z) fun _ _ z=>z
theorem E6 {t:TS}{D:cF}{σ:St}{H:Hp} (h:∀D':cF,(∀σ' H',D.nx σ' H'→D'.nx σ' H')→t D' σ H):t D σ H:=h D fun _ _ z=>z
theorem FW {t:TS}{D:cF}{σ:St}{H:Hp} (h:∀D':cF,(∀σ' H',D.nx σ' H'→D'.nx σ' H')→(∀v H',D.rt v H'→D'.rt v H')→t D' σ H):t D σ H:=h D (fun _ _ z=>z) fun _ _ z=>z
end L2
namespace L2
open PySem PySem.Spec PyProof.Rows
def vi:PyData→Option (List PyData)
 | .list xs=>some xs
 | .tuple xs=>some xs
 | _=>none
theorem CP {e:PyData}{xs:List PyData}{n l:Nat} (h:Wt e n l) (s:vi e=some xs):bz fun m k=>je xs m k∧k+1=l:=by
 cases h <;> simp [vi] at s
 all_goals
  rename_i w
  subst s
  exact ⟨_,_,w,rfl⟩
section
variable {X:Cx}
inductive FR (ng:Bool) (x:V) (y:V) (H:Hp) (Q:VK):Prop
 | mk (d e:PyData) (E F:Addr→Prop) (m n k l:Nat) (xs:List PyData) (h0:bE E H x d) (h1:bE F H y e) (h2:Wt d m k) (h3:Wt e n l) (h4:l≤60) (h5:vi e=some xs) (h6:Q (.bl (if ng then !xs.any (fun z=>PyData.eqv z d) else xs.any (fun z=>PyData.eqv z d))) H)
def C3 (ng:Bool):R2:=fun x y H Q=>FR ng x y H Q
theorem zx (hu:X.A.units+64<cLine):cD X (compareOp .In) (C3 false):=by
 intro pins s σ H x y v u Q I rx ry h
 obtain ⟨d,e,E,F,m,n,k,l,xs,hd,he,wd,we,hl,hs,q⟩:=h
 obtain ⟨as,ra⟩:=hd.reads I.hok rx
 obtain ⟨bs,rb⟩:=he.reads I.hok ry
 obtain ⟨m',k',wl,ek⟩:=CP we hs
 have dl:=wl.dep
 cases e <;> simp [vi] at hs
 ·subst hs
  exact PySem.SeqAt.in_list_reads rb ra wl.can wd.can (by trivial) ⟨.bl _,H,I,rfl,q⟩
 ·subst hs
  exact PySem.SeqAt.in_tuple_reads rb ra wl.can wd.can (by trivial) ⟨.bl _,H,I,rfl,q⟩
end
end L2
namespace L2
open PySem PySem.Spec PyProof.Rows
section
variable {K:PySem.W.Frag}{a a1 a2 D:Addr}{H1:Hp}{σc:St}{g:TG}{te:TE}{tt:TT}{Q:VK}{xs ys:List V}
theorem tK {α:Type} (f:Nat→α) (i:Nat):(List.range i).map f++[f i]=(List.range (i+1)).map f:=by
 rw [List.range_succ,List.map_append];rfl
theorem jd {J:It}{n:Nat} (f:Nat→V) (hz:n≤10000) (hD:H1 D=none) (hgo:∀i H',i<n→aj H1 H'→J.go i H') (hst:∀H',aj H1 H'→J.stop n H')
 (hs:∀i x H' H'' (R:VK),i<n→aj H1 H'→J.yld i H' x H''→(∀H4,aj H' H4→R (f i) H4)→g x σc H'' fun σ2 H2=>iS σc σ2∧te σ2 H2 R)
 (hd:∀H',aj H1 H'→H' D=some (.lst ((List.range n).map f))→Q (.ref D) H'):oN J σc g tT te D H1 Q:=by
 refine kJ (n:=n) (fun i H' zs=>zs=(List.range i).map f∧H' D=some (.lst zs)∧aj H1 H') (fE hz) ⟨rfl,aC,gc hD (aj.refl _)⟩ ?_ ?_ ?_ ?_ ?_
 ·rintro i H' zs ⟨rfl,q,_⟩
  exact ⟨q,by simp⟩
 ·rintro i H' zs hi ⟨_,_,sm⟩
  exact hgo i H' hi sm
 ·rintro H' zs ⟨_,_,sm⟩
  exact hst H' sm
 ·rintro i H' zs x H'' hi ⟨rfl,q,sm⟩ y
  exact hs i x H' H'' _ hi sm y fun H4 s4=>⟨s4 _ _ q,tK f i,aC,gc hD (sm.trans s4)⟩
 ·rintro H' zs ⟨rfl,q,sm⟩
  exact hd H' sm q
theorem zy (f:Nat→V) (hz:xs.length≤10000) (hD:H1 D=none) (ha:H1 a=some (.lst xs))
 (hs:∀i x H' (R:VK),xs[i]?=some x→aj H1 H'→(∀H4,aj H' H4→R (f i) H4)→g x σc H' fun σ2 H2=>iS σc σ2∧te σ2 H2 R)
 (hd:∀H',aj H1 H'→H' D=some (.lst ((List.range xs.length).map f))→Q (.ref D) H'):oN (wX K a) σc g tT te D H1 Q:=by
 refine jd (n:=xs.length) f hz hD (fun i H' hi sm=>⟨xs,xs[i],aG.of (sm _ _ ha),by simp [hi]⟩) (fun H' sm=>⟨xs,aG.of (sm _ _ ha),Nat.le_refl _⟩) ?_ hd
 rintro i x H' H'' R hi sm ⟨rfl,ex⟩ k
 exact hs i x H'' R (ex _ (aG.of (sm _ _ ha))) sm k
theorem y6 (f:Nat→V) (hz:xs.length≤10000) (hD:H1 D=none) (ha:H1 a=some (.tup xs))
 (hs:∀i x H' (R:VK),xs[i]?=some x→aj H1 H'→(∀H4,aj H' H4→R (f i) H4)→g x σc H' fun σ2 H2=>iS σc σ2∧te σ2 H2 R)
 (hd:∀H',aj H1 H'→H' D=some (.lst ((List.range xs.length).map f))→Q (.ref D) H'):oN (xw K a) σc g tT te D H1 Q:=by
 refine jd (n:=xs.length) f hz hD (fun i H' hi sm=>⟨xs,xs[i],au.of (sm _ _ ha),by simp [hi]⟩) (fun H' sm=>⟨xs,au.of (sm _ _ ha),Nat.le_refl _⟩) ?_ hd
 rintro i x H' H'' R hi sm ⟨rfl,ex⟩ k
 exact hs i x H'' R (ex _ (au.of (sm _ _ ha))) sm k
end
end L2
namespace L2
theorem Dx {tc:TT}{t u:TS}{D:cF}{σ:St}{H:Hp} (o1 o0:Hp→Prop) (hc:∀Q:Bool→Hp→Prop,(∀H',o1 H'→Q true H')→(∀H',o0 H'→Q false H')→tc σ H Q) (h1:∀H',o1 H'→t D σ H') (h0:∀H',o0 H'→u D σ H'):DI tc t u D σ H:=
 hc _ (fun H' o=>by rw [if_pos rfl];exact h1 H' o) fun H' o=>by rw [if_neg (by decide)];exact h0 H' o
theorem ER {te:TE}{g:TG}{u:TS}{D:cF}{σ:St}{H:Hp} (I:V→Hp→Prop) (rest:∀v H',I v H'→g v σ H' (u D)) (h:(∀v H',I v H'→g v σ H' (u D))→te σ H fun v H'=>g v σ H' (u D)):o6 (tP te g) u D σ H:=h rest
theorem Bi {t u:TS}{D:cF}{σ:St}{H:Hp} (I:St→Hp→Prop) (rest:∀σ' H',I σ' H'→u D σ' H') (h:(∀σ' H',I σ' H'→u D σ' H')→t { D with nx:=u D } σ H):o6 t u D σ H:=h rest
end L2
namespace L2
open PySem PySem.Spec PyProof.Rows
section
variable {X:Cx}{tg:Expr}
inductive Bu (K:PySem.W.Frag) (x:V) (y:V) (H:Hp) (Q:VK):Prop
 | mk (a:_) (b:_) (xs:_) (ys:_) (h0:x=.ref a) (h1:y=.ref b) (h2:au K H a xs) (h3:H a=some (.tup xs)) (h4:au K H b ys) (h5:xs≠[]) (h6:xs.length+ys.length≤10000) (h7:∀p H',aj H H'→H' p=some (.tup (xs++ys))→Q (.ref p) H')
def C6 (K:PySem.W.Frag):R2:=fun x y H Q=>Bu K x y H Q
theorem rn {K:PySem.W.Frag} (e:X.K=K:=by rfl):cD X (binaryOp .Add) (C6 K):=by
 subst e
 intro pins s σ H x y v u Q I rx ry h
 obtain ⟨a,b,xs,ys,e1,e2,ha,ha',hb,hx,hz,q⟩:=h
 refine By pins s σ H x y v u Q I rx ry ⟨a,b,xs,ys,e1,e2,ha,hb,hx,fE hz,fun z=>?_,fun z p hp=>q p _ (aj.new hp) aC⟩
 refine q a H (aj.refl _) ?_
 rw [z,List.append_nil];exact ha'
end
end L2
namespace L2
open PySem PySem.Spec PyProof.Rows
section
variable {X:Cx}{K:PySem.W.Frag}{o e:Expr}{es:List Expr}{to:TE}{t:TA}{name:Str}{apos cpos:Pos}{id:String}{r:V→List V→Hp→VK→Prop}
end
end L2
namespace L2
open PySem PyProof.Rows
def eV (X:Cx) (scope:Scope) (cl:List (Str×Addr)) (C:Addr) (N':List Str) (s:Shared) (H:Hp) (ex:List Addr) (pn:List (Addr×Obj)):Cx:=
 { cV X scope cl C N' s H ex pn with fn:=fun x=>scope.names.lookup x==some .cell }
def oS (esc:Scope) (N:List Str) (scope:Scope) (N':List Str) (L:Nat) (src:List Nat):Bool:=
 (scope.kind==.function) && scope.names.all (fun y=>(y.2 != .cell || scope.names.lookup y.1==some .cell) && (y.2 != .local || scope.names.lookup y.1==some .local) && (y.2 != .free || esc.names.lookup y.1==some .cell || esc.names.lookup y.1==some .free)) &&
  (N'.length==L+src.length) && (List.range src.length).all fun i=>match src[i]?,N'[L+i]? with
   | some j,some x=>(N[j]?==some x) && (scope.names.lookup x==some .free)
   | _,_=>false
structure wY (esc:Scope) (N:List Str) (scope:Scope) (N':List Str) (L:Nat) (src:List Nat):Prop where
 kind:scope.kind=.function
 cells:∀y∈scope.names,y.2=.cell→scope.names.lookup y.1=some .cell
 loc:∀y∈scope.names,y.2=.local→scope.names.lookup y.1=some .local
 free:∀y∈scope.names,y.2=.free→esc.names.lookup y.1=some .cell∨esc.names.lookup y.1=some .free
 len:N'.length=L+src.length
 frees:∀(i j:Nat),src[i]?=some j→∃x,N'[L+i]?=some x∧N[j]?=some x∧scope.names.lookup x=some .free
theorem sL {esc:Scope}{N:List Str}{scope:Scope}{N':List Str}{L:Nat}{src:List Nat} (h:oS esc N scope N' L src=true):wY esc N scope N' L src:=by
 unfold oS at h
 simp only [Bool.and_eq_true,List.all_eq_true] at h
 obtain ⟨⟨⟨h1,h2⟩,h3⟩,h4⟩:=h
 refine ⟨by simpa using h1,fun y hy e=>?_,fun y hy e=>?_,fun y hy e=>?_,by simpa using h3,fun i j e=>?_⟩
 ·have:=(h2 y hy).1.1
  rw [e] at this
  simpa using this
 ·have:=(h2 y hy).1.2
  rw [e] at this
  simpa using this
 ·have:=(h2 y hy).2
  rw [e] at this
  simpa using this
 ·have hi:i<src.length:=(List.getElem?_eq_some_iff.mp e).1
  have:=h4 i (List.mem_range.mpr hi)
  rw [e] at this
  cases q:N'[L+i]? with
  | none=>rw [q] at this;simp at this
  | some x=>
   rw [q] at this
   simp only [Bool.and_eq_true,beq_iff_eq] at this
   exact ⟨x,rfl,this.1,this.2⟩
theorem jU:∀(names:List (Str×NameKind)) (n:Nat) (acc acc':List (Str×Addr)),cellsFrom n names (acc++acc')=cellsFrom n names acc++acc'
 | [],_,_,_=>rfl
 | (name,kind) :: r,n,acc,acc'=>by
  unfold cellsFrom
  split
  ·exact jU r (n+1) ((name,n) :: acc) acc'
  ·exact jU r n acc acc'
theorem u8 (names:List (Str×NameKind)) (n:Nat) (acc:List (Str×Addr)):cellsFrom n names acc=cellsFrom n names []++acc:=jU names n [] acc
theorem ji {x:Str}{c:Addr}:∀(names:List (Str×NameKind)) (n:Nat) (acc:List (Str×Addr)),(x,c)∈cellsFrom n names acc→(x,NameKind.cell)∈names∨(x,c)∈acc
 | [],_,_,h=>.inr h
 | (name,kind) :: r,n,acc,h=>by
  unfold cellsFrom at h
  split at h
  ·rename_i hk
   rcases ji r (n+1) _ h with h | h
   ·exact .inl (List.mem_cons_of_mem _ h)
   ·rcases List.mem_cons.mp h with h | h
    ·injection h with h1 h2
     have hk':kind=.cell:=by simpa using hk
     rw [h1,hk'];exact .inl List.mem_cons_self
    ·exact .inr h
  ·rcases ji r n _ h with h | h
   ·exact .inl (List.mem_cons_of_mem _ h)
   ·exact .inr h
theorem jS {x:Str}:∀(names:List (Str×NameKind)) (n:Nat) (acc:List (Str×Addr)),(∃c,acc.lookup x=some c)→∃c,(cellsFrom n names acc).lookup x=some c
 | [],_,_,h=>h
 | (name,kind) :: r,n,acc,⟨c,h⟩=>by
  unfold cellsFrom
  split
  ·refine jS r (n+1) _ ?_
   rw [List.lookup_cons]
   cases hb:x==name with
   | true=>exact ⟨_,rfl⟩
   | false=>exact ⟨c,h⟩
  ·exact jS r n acc ⟨c,h⟩
theorem kM {x:Str}:∀(names:List (Str×NameKind)) (n:Nat) (acc:List (Str×Addr)),(x,NameKind.cell)∈names→∃c,(cellsFrom n names acc).lookup x=some c
 | (name,kind) :: r,n,acc,h=>by
  unfold cellsFrom
  rcases List.mem_cons.mp h with h | h
  ·injection h with h1 h2
   subst h1;subst h2
   rw [if_pos (show (NameKind.cell==NameKind.cell)=true from rfl)]
   exact jS r (n+1) _ ⟨n,by simp [List.lookup_cons]⟩
  ·split
   ·exact kM r (n+1) _ h
   ·exact kM r n acc h
theorem GR {M:Model}{A:Around}{E:Value→Shared→Prop}{s:Shared}{scope:Scope}{globals:Addr}{cl:List (Str×Addr)}{qual:Str}{env:Env}{Q:Env→Shared→Prop}
 (h:Q { scope:=scope,locals:=s.heap.objs.size,globals:=globals,cells:=cellsFrom (s.heap.objs.size+1) scope.names cl,qual:=qual,func:=none,code:=env.code,frame:=env.frame,builtins:=env.builtins }
  { s with heap:=pushCells (s.heap.push { cls:=.type "dict",data:=.dict #[] }) scope.names }) :
 wpAny M A (newFunctionEnv scope globals cl [] qual none .none (some env)) Q E s:=by
 simp only [newFunctionEnv,Option.isSome_some,if_true]
 refine wpAny_bind (wpAny_alloc ?_)
 refine wpAny_bind (wpAny_layCells _ (fun name kind cells=>by cases hkc:kind==NameKind.cell <;> simp [hkc]) _ _ _ _ ?_)
 rw [show ({ s with heap:=s.heap.push { cls:=.type "dict",data:=.dict #[] } }:Shared).heap.objs.size=s.heap.objs.size+1 from Heap.size_push ..]
 exact wpAny_bind (by rw [List.forIn_nil];exact wpAny_pure (wpAny_pure h))
section
variable {X:Cx}{elt tg iter:Expr}{ifs:List Expr}{scope:Scope}{pos:Pos}{N':List Str}{L:Nat}{src:List Nat}{wi:TI}{g:TG}{tt:TT}{te:TE}
theorem ut (hc:X.calm=true) (ck:wY X.env.scope X.N scope N' L src) {cl:List (Str×Addr)}{pins:List (Addr×Obj)}{s:Shared}{σ:St}{H:Hp}{Q:VK} (I:af X pins σ H s)
 (hsub:∀x c,cl.lookup x=some c→X.env.cells.lookup x=some c) (hhas:∀y∈scope.names,y.2=.free→∃c,cl.lookup y.1=some c)
 (hi:PI X tg iter wi) (hg:∀cl C s H ex pn,PG (eV X scope cl C N' s H ex pn) tg g) (hif:∀cl C s H ex pn,mV (eV X scope cl C N' s H ex pn) ifs tt)
 (he:∀cl C s H ex pn,PE (eV X scope cl C N' s H ex pn) elt te) (h:yi wi L src g tt te σ H Q) {RR:Value→Addr→Result→Shared→Prop}
 (hRR:∀D C H' f s' m,af X pins σ H' s'→s'.heap.Ns C m→iT X pins H' C→Q (.ref D) H'→RR (.ref D) C (.ok f) s') :
 wpAny (model X.prog X.w) X.A (eval iter X.env) (fun x s₁=>wpAny (model X.prog X.w) X.A (pyIter x) (fun it s₂=>wpAny (model X.prog X.w) X.A (newList []) (fun acc s₃=>
  wpAny (model X.prog X.w) X.A (newFunctionEnv scope X.env.globals cl [] X.env.qual none .none (some X.env)) (fun cenv s₄=>
   codeAny (model X.prog X.w) X.A (.compStart (.ListComp elt [⟨tg,iter,ifs,0⟩] scope pos) 0 it acc { cenv with scope:=relabel scope X.env }) (RR acc cenv.locals) s₄) X.xe s₃) X.xe s₂) X.xe s₁) X.xe s:=by
 refine aR (hi pins s σ H _ I h) fun v s1 h1=>aR h1 fun itv s2 h2=>?_
 obtain ⟨it,fp,tn,J,H2,e,I2,T,st2,f2,q⟩:=h2
 subst e
 refine wpAny_newObj_type (GR ?_)
 dsimp only
 generalize hH2:s2.heap.push { cls:=.type "list",dict:=none,data:=.seq ([]:List Value).toArray }=hp2
 have hns₁:(pushCells (hp2.push { cls:=.type "dict",data:=.dict #[] }) scope.names).Ns hp2.objs.size fun _=>none:=(Heap.Ns.new hp2 (.type "dict")).keeps (pushCells_keeps _ _)
 have kp:∀b o,hp2.get? b=some o→(pushCells (hp2.push { cls:=.type "dict",data:=.dict #[] }) scope.names).get? b=some o:=fun b o e=>pushCells_keeps _ _ b o (Heap.get?_push_of_some _ e)
 have okc:=cellsFrom_ok scope.names (hp2.push { cls:=.type "dict",data:=.dict #[] }) (hp2.objs.size+1) [] ⟨fun _ _ hm=>(nomatch hm),List.Pairwise.nil⟩ (by rw [Heap.size_push];exact Nat.le_refl _)
 rw [Heap.size_push] at okc
 rw [u8]
 have ncell:∀x c,(cellsFrom (hp2.objs.size+1) scope.names []).lookup x=some c→(x,NameKind.cell)∈scope.names:=fun x c e=>(ji _ _ _ (PySem.mem_of_lookup e)).elim id (fun z=>by cases z)
 have nhas:∀x,(x,NameKind.cell)∈scope.names→∃c,(cellsFrom (hp2.objs.size+1) scope.names []).lookup x=some c:=fun x h=>kM _ _ _ h
 generalize pushCells (hp2.push { cls:=.type "dict",data:=.dict #[] }) scope.names=h₁ at hns₁ kp okc ⊢
 generalize cellsFrom (hp2.objs.size+1) scope.names []=nw at okc ncell nhas ⊢
 have hC:hp2.objs.size=s2.heap.objs.size+1:=by rw [←hH2,Heap.size_push]
 have hDC:s2.heap.objs.size≠hp2.objs.size:=by rw [hC];exact Nat.ne_of_lt (Nat.lt_succ_self _)
 have hCle:s2.heap.objs.size≤hp2.objs.size:=by rw [hC];exact Nat.le_succ _
 have below:∀b,b<s2.heap.objs.size→b≠hp2.objs.size∧b≠s2.heap.objs.size:=fun b hb=>⟨by rw [hC];exact Nat.ne_of_lt (Nat.lt_succ_of_lt hb),Nat.ne_of_lt hb⟩
 have old:∀b o,s2.heap.get? b=some o→h₁.get? b=some o:=fun b o e=>kp b o (hH2▸Heap.get?_push_of_some _ e)
 have hacc:h₁.get? s2.heap.objs.size=some { cls:=.type "list",dict:=none,data:=.seq ([]:List Value).toArray }:=kp _ _ (hH2▸Heap.get?_push_size _ rfl)
 have hDn:H2 s2.heap.objs.size=none:=I2.fresh
 obtain ⟨W,⟨m0,w0⟩,turn⟩:=q _ hDn
 have fpo:∀b∈fp,∃o,s2.heap.get? b=some o∧∀v,o.data≠.cell v:=T.obj _ _ st2
 have fplt:∀b∈fp,b<s2.heap.objs.size:=fun b hb=>by obtain ⟨o,e,_⟩:=fpo b hb;exact Heap.lt_size e
 have hfrs:∀b∈fp,b∉gS X.stack:=fun b hb z=>by
  rcases List.mem_cons.mp (I2.stkSub b z) with z' | z'
  ·exact (f2 b hb).2.1 z'
  ·exact (f2 b hb).2.2.1 z'
 have spl:∀x c,(nw++cl).lookup x=some c→nw.lookup x=some c∨(nw.lookup x=none∧cl.lookup x=some c):=fun x c e=>by
  rw [List.lookup_append] at e
  cases q:nw.lookup x with
  | none=>rw [q] at e;exact .inr ⟨rfl,e⟩
  | some c'=>rw [q] at e;exact .inl e
 have nab:∀x c,nw.lookup x=some c→hp2.objs.size+1≤c:=fun x c e=>(okc.empty x c (PySem.mem_of_lookup e)).2
 have olt:∀x c,cl.lookup x=some c→c<s2.heap.objs.size:=fun x c e=>by
  obtain ⟨v,o,ho,_⟩:=I2.cell x c (hsub _ _ e)
  exact Heap.lt_size ho
 have n2o:∀x c y,nw.lookup x=some c→cl.lookup y=some c→False:=fun x c y e1 e2=>Nat.lt_irrefl c (Nat.lt_of_lt_of_le (olt y c e2) (Nat.le_trans hCle (Nat.le_of_succ_le (nab x c e1))))
 generalize hX:eV X scope (nw++cl) hp2.objs.size N' s2 H2 fp (X.pn++pins)=X'
 have ok':X'.Ok:=by
  subst hX
  refine ⟨I2.ok.mod,ck.kind,I2.ok.glob,I2.ok.blt,hCle,fun x y c e1 e2=>(spl x c e1).elim (fun g1=>(spl y c e2).elim (fun g2=>name_of_addr okc.apart (PySem.mem_of_lookup g1) (PySem.mem_of_lookup g2)) (fun g2=>(n2o x c y g1 g2.2).elim)) (fun g1=>(spl y c e2).elim (fun g2=>(n2o y c x g2 g1.2).elim) (fun g2=>I2.ok.inj x y c (hsub _ _ g1.2) (hsub _ _ g2.2))),fun x hx=>?_,fun x c z e=>?cab,I2.ok.hd,I2.ok.frames,.inl rfl,fun b hb=>⟨(below b (fplt b hb)).1,fun x c e=>(spl x c e).elim (fun g z=>Nat.lt_irrefl b (Nat.lt_of_lt_of_le (fplt b hb) (Nat.le_trans hCle (Nat.le_of_succ_le (z▸nab x c g))))) (fun g=>(f2 b hb).2.2.2.2.1 x c (hsub _ _ g.2))⟩,
   I2.bs,Nat.le_trans I2.ok.bsz I2.sz,fun b o e hb=>?_,hfrs,I2.stack,I2.stkFree⟩
  ·-- a name that is a cell or free
   have hx':(relabel scope X.env).names.lookup x=some .cell∨(relabel scope X.env).names.lookup x=some .free:=hx
   have key:∀(names:List (Str×NameKind)),
    ((names.map fun (n,k)=>if (k==NameKind.free && X.env.scope.kind==.function && X.env.kindOf n==some .cell) then (n,NameKind.cell) else (n,k)).lookup x=some .cell∨
     (names.map fun (n,k)=>if (k==NameKind.free && X.env.scope.kind==.function && X.env.kindOf n==some .cell) then (n,NameKind.cell) else (n,k)).lookup x=some .free)→∃y∈names,y.1=x∧(y.2=.free∨y.2=.cell):=by
    intro names
    induction names with
    | nil=>intro h;rcases h with h | h <;> simp at h
    | cons y r ih=>
     intro h
     obtain ⟨n,k⟩:=y
     by_cases hb:x=n
     ·subst hb
      refine ⟨(x,k),List.mem_cons_self,rfl,?_⟩
      by_cases hk:k=.free
      ·exact .inl hk
      ·have hkb:(k==NameKind.free)=false:=by simpa using hk
       right
       simp only [List.map_cons,hkb,Bool.false_and,Bool.false_eq_true,if_false,List.lookup_cons,beq_self_eq_true,if_true] at h
       rcases h with h | h
       ·exact Option.some.inj h
       ·exact absurd (Option.some.inj h) hk
     ·have hb':(x==n)=false:=by simpa using hb
      have h':((r.map fun (n,k)=>if (k==NameKind.free && X.env.scope.kind==.function && X.env.kindOf n==some .cell) then (n,NameKind.cell) else (n,k)).lookup x=some .cell∨
       (r.map fun (n,k)=>if (k==NameKind.free && X.env.scope.kind==.function && X.env.kindOf n==some .cell) then (n,NameKind.cell) else (n,k)).lookup x=some .free):=by
       rw [List.map_cons] at h
       dsimp only at h
       by_cases hcnd:(k==NameKind.free && X.env.scope.kind==.function && X.env.kindOf n==some .cell)=true
       ·rw [if_pos hcnd] at h
        simpa only [List.lookup_cons,hb'] using h
       ·rw [if_neg hcnd] at h
        simpa only [List.lookup_cons,hb'] using h
      obtain ⟨y,hy,e1,e2⟩:=ih h'
      exact ⟨y,List.mem_cons_of_mem _ hy,e1,e2⟩
   obtain ⟨y,hy,e1,e2⟩:=key scope.names hx'
   show ∃c,(nw++cl).lookup x=some c
   rw [List.lookup_append]
   cases q:nw.lookup x with
   | some c=>exact ⟨c,rfl⟩
   | none=>
    rcases e2 with e2 | e2
    ·obtain ⟨c,hc'⟩:=hhas y hy e2
     exact ⟨c,by rw [←e1,hc'];rfl⟩
    ·obtain ⟨c,hc'⟩:=nhas x (by obtain ⟨y1,y2⟩:=y;dsimp only at e1 e2;rw [←e1,←e2];exact hy)
     rw [q] at hc';cases hc'
  case cab=>
   have z':(scope.names.lookup x==some NameKind.cell)=true:=z
   obtain ⟨c',hc'⟩:=nhas x (PySem.mem_of_lookup (by simpa using z'))
   rcases spl x c e with g | g
   ·have:=nab x c g
    show s2.heap.objs.size≤c
    trivial
   ·rw [hc'] at g;cases g.1
  ·rcases (f2 b hb).2.2.2.1 with z | z
   ·exact I2.ok.noex b o e z
   ·exact absurd (Nat.lt_of_lt_of_le (Heap.lt_size e) (Nat.le_trans I2.ok.bsz z)) (Nat.lt_irrefl _)
 have stat:∀{H':Hp},(∀b∈fp,H' b=none)→∀b∈fp,iT X' [] H' b:=by
  subst hX
  intro H' hn b hb
  refine ⟨hn b hb,(below b (fplt b hb)).1,hfrs b hb,.inl hb,fun x c e=>(spl x c e).elim (fun g z=>Nat.lt_irrefl b (Nat.lt_of_lt_of_le (fplt b hb) (Nat.le_trans hCle (Nat.le_of_succ_le (z▸nab x c g))))) (fun g=>(f2 b hb).2.2.2.2.1 x c (hsub _ _ g.2)),fun p hp=>?_⟩
  have hp':p∈X.pn++pins:=by simpa [eV,cV] using hp
  exact (f2 b hb).2.2.2.2.2 p hp'
 have I1:af X' [] (gO L src σ) (aI H2 s2.heap.objs.size (.lst [])) { s2 with heap:=h₁,toks:=s2.toks }:=by
  subst hX
  have up:∀b o,H2 b=some o→aI H2 s2.heap.objs.size (.lst []) b=some o:=fun b o e=>by rw [av (bq e hDn)];exact e
  have upn:∀b,b<s2.heap.objs.size→H2 b=none→aI H2 s2.heap.objs.size (.lst []) b=none:=fun b hb e=>by rw [av (Nat.ne_of_lt hb)];exact e
  refine ⟨ok',rfl,I2.bare,Un.laid old (Nat.le_refl _) hDn,⟨_,hns₁,fun i x v e1 e2 e3=>?_⟩,fun x c e=>?_,?_,fun x c e=>?_,fun p hp=>?_,I2.hok.laid old (Nat.le_refl _) ⟨Nat.zero_le _,[],0,.nil,hacc⟩,?_⟩
  ·-- the names of the def around
   have hiL:L≤i:=by
    by_cases hlt:i<L
    ·exfalso
     unfold gO at e2
     rw [List.getElem?_append_left (by simpa using hlt),List.getElem?_replicate,if_pos hlt] at e2
     cases e2
    ·trivial
   have e2':(src.map fun j=>(σ[j]?).join)[i - L]?=some (some v):=by
    unfold gO at e2
    rw [List.getElem?_append_right (by simpa using hiL),List.length_replicate] at e2
    exact e2
   rw [List.getElem?_map] at e2'
   cases hj:src[i - L]? with
   | none=>rw [hj] at e2';cases e2'
   | some j=>
    rw [hj] at e2'
    have e3':(σ[j]?).join=some v:=Option.some.inj e2'
    have hσ:σ[j]?=some (some v):=by
     cases q:σ[j]? with
     | none=>rw [q] at e3';cases e3'
     | some o=>rw [q] at e3';exact congrArg some e3'
    obtain ⟨x',g1,g2,g3⟩:=ck.frees (i - L) j hj
    have:L+(i - L)=i:=by trivial
    rw [this] at g1
    have ex:x'=x:=Option.some.inj (g1.symm.trans e1)
    subst ex
    have hfree:=ck.free _ (PySem.mem_of_lookup g3) rfl
    obtain ⟨m,hn,hl⟩:=I2.loc
    obtain ⟨u,r,l⟩:=hl j x' v g2 hσ (hfree.elim (fun z=>.inr (.inl z)) fun z=>.inr (.inr z))
    refine ⟨u,r,.inr ⟨?_,?_⟩⟩
    ·-- its kind in the block
     have key:∀(names:List (Str×NameKind)),names.lookup x'=some .free→
      ((names.map fun (n,k)=>if (k==NameKind.free && X.env.scope.kind==.function && X.env.kindOf n==some .cell) then (n,NameKind.cell) else (n,k)).lookup x'=some .cell∨
       (names.map fun (n,k)=>if (k==NameKind.free && X.env.scope.kind==.function && X.env.kindOf n==some .cell) then (n,NameKind.cell) else (n,k)).lookup x'=some .free):=by
      intro names
      induction names with
      | nil=>intro h;simp at h
      | cons y r ih=>
       intro h
       obtain ⟨n,k⟩:=y
       by_cases hb:x'=n
       ·subst hb
        simp only [List.lookup_cons,beq_self_eq_true,if_true] at h
        have hk:k=.free:=Option.some.inj h
        subst hk
        rw [List.map_cons]
        dsimp only
        by_cases hcnd:(NameKind.free==NameKind.free && X.env.scope.kind==.function && X.env.kindOf x'==some .cell)=true
        ·rw [if_pos hcnd];left;simp [List.lookup_cons]
        ·rw [if_neg hcnd];right;simp [List.lookup_cons]
       ·have hb':(x'==n)=false:=by simpa using hb
        have h':=ih (by simpa only [List.lookup_cons,hb'] using h)
        rw [List.map_cons]
        dsimp only
        by_cases hcnd:(k==NameKind.free && X.env.scope.kind==.function && X.env.kindOf n==some .cell)=true
        ·rw [if_pos hcnd];simpa only [List.lookup_cons,hb'] using h'
        ·rw [if_neg hcnd];simpa only [List.lookup_cons,hb'] using h'
     exact key scope.names g3
    ·obtain ⟨c,hcl⟩:=hhas _ (PySem.mem_of_lookup g3) rfl
     have hcx:=hsub _ _ hcl
     rcases l with ⟨k1,_⟩ | ⟨_,c',e4,z⟩
     ·exfalso
      have k1':X.env.scope.names.lookup x'=some .local:=k1
      rcases hfree with z | z
      ·rw [z] at k1';cases k1'
      ·rw [z] at k1';cases k1'
     ·rw [hcx] at e4
      cases e4
      obtain ⟨o,ho,hd⟩:=z
      refine ⟨c,?_,o,old _ _ ho,hd⟩
      show (nw++cl).lookup x'=some c
      rw [List.lookup_append]
      cases q:nw.lookup x' with
      | none=>exact hcl
      | some c'=>
       exfalso
       have:=ck.cells _ (ncell _ _ q) rfl
       dsimp only at this
       rw [g3] at this;cases this
  ·rcases spl x c e with g | g
   ·exact ⟨none,(okc.empty x c (PySem.mem_of_lookup g)).1⟩
   ·obtain ⟨v,o,ho,hd⟩:=I2.cell x c (hsub _ _ g.2)
    exact ⟨v,o,old _ _ ho,hd⟩
  ·show aI H2 s2.heap.objs.size (.lst []) hp2.objs.size=none
   rw [av (Ne.symm hDC)]
   exact I2.hok.fresh hCle
  ·rcases spl x c e with g | g
   ·have:=nab x c g
    rw [av (by intro z;rw [z] at this;trivial)]
    exact I2.hok.fresh (by trivial)
   ·obtain ⟨v,o,ho,hd⟩:=I2.cell x c (hsub _ _ g.2)
    exact upn c (Heap.lt_size ho) (I2.freeC x c (hsub _ _ g.2))
  ·have hp':p∈X.pn++pins:=by simpa [eV,cV] using hp
   obtain ⟨e,n,ne,nf,d⟩:=I2.pin p hp'
   have hlt:=Heap.lt_size e
   refine ⟨old _ _ e,upn _ hlt n,(below _ hlt).1,fun z=>?_,d⟩
   rcases List.mem_cons.mp (I2.stkSub _ z) with z' | z'
   ·exact ne z'
   ·exact nf z'
  ·show (gO L src σ).length=N'.length
   unfold gO
   rw [List.length_append,List.length_replicate,List.length_map,ck.len]
 have eA:X'.A=X.A:=by subst hX;rfl
 have eP:X'.prog=X.prog:=by subst hX;rfl
 have eW:X'.w=X.w:=by subst hX;rfl
 have eK:X'.K=X.K:=by subst hX;rfl
 have ec:X'.calm=true:=by subst hX;exact hc
 have exe:X'.xe=fun _ _=>False:=by subst hX;rfl
 have eE:X'.env=compEnvC scope (nw++cl) hp2.objs.size X.env:=by subst hX;rfl
 have hg':PG X' tg g:=by subst hX;exact hg _ _ _ _ _ _
 have hif':mV X' ifs tt:=by subst hX;exact hif _ _ _ _ _ _
 have he':PE X' elt te:=by subst hX;exact he _ _ _ _ _ _
 have aft:∀{H':Hp}{s':Shared},af X' [] (gO L src σ) H' s'→af X pins σ H' s'∧(∃m,s'.heap.Ns hp2.objs.size m)∧iT X pins H' hp2.objs.size:=by
  subst hX
  intro H' s' J
  refine ⟨I2.call' (ch:=fp) J.os J.base J.hok J.bare fun b hb=>⟨(f2 b hb).2.2.2.1,(f2 b hb).2.1,(f2 b hb).2.2.2.2.1,(f2 b hb).2.2.2.2.2⟩,?_,I2.fpOk hCle J.free⟩
  obtain ⟨m,hn,_⟩:=J.loc
  exact ⟨m,hn⟩
 have st1:tn 0 h₁:=T.keep _ _ _ st2 fun b hb o e=>old b o e
 have loop:∀s₃:Shared,s₃={ s2 with heap:=h₁,toks:=s2.toks }→
  codeAny (model X.prog X.w) X.A (.compLoop (.ListComp elt [⟨tg,iter,ifs,0⟩] scope pos) 0 (.ref it) (.ref s2.heap.objs.size) (compEnvC scope (nw++cl) hp2.objs.size X.env))
   (RR (.ref s2.heap.objs.size) hp2.objs.size) s₃:=by
  rintro s₃ rfl
  refine vM (fun n s'=>jq fun i H' ys=>af X' [] (gO L src σ) H' s'∧tn i s'.heap∧(∀b∈fp,H' b=none)∧W i n H' ys) ?_ m0
   ⟨0,_,[],I1,st1,fun b hb=>(by rw [av (below b (fplt b hb)).2];exact (f2 b hb).1),w0⟩
  rintro n s3 ⟨i,H3,ys,I3,st3,fr3,w3⟩
  obtain ⟨hD,alt⟩:=turn i n H3 ys w3
  rcases alt with ⟨stop,qn⟩ | ⟨go,hlen,N,hN,step⟩
  ·have d:=T.done X' eP eW eK ec i [] s3 (gO L src σ) H3 (fun _ _=>False) I3 (stat fr3) st3 stop
   rw [eA] at d
   refine aR d fun r s4 ⟨hr,I4⟩=>?_
   subst hr
   obtain ⟨J,⟨m,hn⟩,fpC⟩:=aft I4
   exact hRR _ _ H3 .next s4 m J hn fpC qn
  ·have d:=T.item X' eP eW eK ec i [] s3 (gO L src σ) H3 (fun _ _=>False) I3 (stat fr3) st3 go
   rw [eA] at d
   refine aR d fun r s4 ⟨u,hr,h4⟩=>?_
   subst hr
   refine aR h4 fun _ s5 ⟨x,H5,I5,r5,y5,st5,fr5⟩=>?_
   have I5':=I5.pinned (stat fr5) (T.obj _ _ st5)
   have a1:=hg' _ s5 (gO L src σ) H5 x u _ I5' r5 (step x H5 y5)
   rw [eP,eW,eA,eE,exe] at a1
   refine aR a1 fun _ s6 ⟨σ6,H6,I6,bk,q6⟩=>?_
   have a2:=hif' _ s6 σ6 H6 _ I6 q6
   rw [eP,eW,eA,eE,exe] at a2
   refine aR a2 fun b s7 ⟨H7,I7,q7⟩=>?_
   have again:∀{H8:Hp}{s8:Shared}{ys':List V},af X' ([]++nJ fp s5.heap) σ6 H8 s8→N H8 ys'→∃m,m<n∧jq fun i H' ys=>af X' [] (gO L src σ) H' s8∧tn i s8.heap∧(∀b∈fp,H' b=none)∧W i m H' ys:=fun {H8 s8 ys'} I8 n8=>by
    obtain ⟨m',hm,w8⟩:=hN H8 ys' n8
    refine ⟨m',hm,i+1,H8,ys',(I8.unpinned).weak bk.1.symm bk.2,T.keep _ _ _ st5 fun b hb o e=>(I8.pin (b,o) (List.mem_append_right _ (List.mem_append_right _ (ie hb e)))).1,fun b hb=>?_,w8⟩
    obtain ⟨o,e,d⟩:=T.obj _ _ st5 b hb
    exact (I8.pin (b,o) (List.mem_append_right _ (List.mem_append_right _ (ie hb e)))).2.1
   cases b with
   | false=>
    rw [if_neg Bool.false_ne_true] at q7 ⊢
    exact again I7 q7
   | true=>
    rw [if_pos rfl] at q7 ⊢
    have a3:=he' _ s7 σ6 H7 _ I7 q7
    rw [eP,eW,eA,eE,exe] at a3
    refine aR a3 fun xv s8 ⟨y,H8,I8,r8,hD8,q8⟩=>?_
    have a4:=tZ (X:=X') _ s8 σ6 H8 (.ref s2.heap.objs.size) [y] (.ref s2.heap.objs.size) [xv] (fun _ H'=>H'=aI H8 s2.heap.objs.size (.lst (ys++[y]))) I8 rfl (.cons r8 .nil) ⟨_,ys,y,rfl,rfl,hD8,hlen,rfl⟩
    rw [eP,eW,eA,exe] at a4
    refine aR a4 fun _ s9 ⟨_,H9,I9,_,e9⟩=>?_
    subst e9
    exact again I9 q8
 exact codeAny_compStart_list (loop _ rfl) (T.self _ 0 _ _ _ st1 (loop _ rfl))
theorem ft (hc:X.calm=true) (ck:oS X.env.scope X.N scope N' L src=true) (hi:PI X tg iter wi) (hg:∀cl C s H ex pn,PG (eV X scope cl C N' s H ex pn) tg g) (hif:∀cl C s H ex pn,mV (eV X scope cl C N' s H ex pn) ifs tt)
 (he:∀cl C s H ex pn,PE (eV X scope cl C N' s H ex pn) elt te) (hs:∀x,foldedSetIterable iter X.env x=pure x:=by intro _;rfl) :
 PE X (.ListComp elt [⟨tg,iter,ifs,0⟩] scope pos) (yi wi L src g tt te):=by
 intro pins s σ H Q I h
 have ck:=sL ck
 obtain ⟨cl,hclos,hsub,hhas⟩:=qC (scope:=scope) (env:=X.env) fun y hy e=>I.ok.has y.1 (ck.free y hy e)
 rw [eval_ListComp]
 refine wpAny_comprehension_free (use:=none) rfl hs hclos ck.kind ck.loc (ut hc ck I hsub hhas hi hg hif he h (RR:=fun acc C=>compPost (model X.prog X.w) X.A X.xe none (EP X pins σ Q) acc C) ?_)
 intro D C H' f s' m J hn fpC q
 refine ⟨m,hn,fun h' hsb=>⟨.ref D,H',?_,rfl,q⟩⟩
 obtain ⟨f0,f1,f2,f3,f4,f5⟩:=fpC
 exact J.turned (t':=s'.toks) (fun b o hb e=>(hsb.2 b hb).trans e) f0 f1 f3 f4 f5
theorem iN {j:Nat}{y:Str}{py spos:Pos} (hN:X.N.Nodup) (hj:X.N[j]?=some y) (hy:X.env.scope.names.lookup y=some .local) (hsw:swapsWith (.ListComp elt [⟨tg,iter,ifs,0⟩] scope pos) (some (.Name y py)) spos.line X.env=pure true)
 (hc:X.calm=true) (ck:oS X.env.scope X.N scope N' L src=true) (hi:PI X tg iter wi) (hg:∀cl C s H ex pn,PG (eV X scope cl C N' s H ex pn) tg g) (hif:∀cl C s H ex pn,mV (eV X scope cl C N' s H ex pn) ifs tt)
 (he:∀cl C s H ex pn,PE (eV X scope cl C N' s H ex pn) elt te) (hs:∀x,foldedSetIterable iter X.env x=pure x:=by intro _;rfl) :
 PS X (.Assign [.Name y py] (.ListComp elt [⟨tg,iter,ifs,0⟩] scope pos) spos) (tP (yi wi L src g tt te) (qD j)):=by
 intro pins s σ H D I h
 have ck:=sL ck
 obtain ⟨cl,hclos,hsub,hhas⟩:=qC (scope:=scope) (env:=X.env) fun y hy e=>I.ok.has y.1 (ck.free y hy e)
 rw [exec_Assign_Name_used _ _ _ _ hsw]
 refine wpAny_bind (wpAny_standAt (wpAny_bind ?_))
 show wpAny _ X.A (do let _ ←comprehension (.ListComp elt [⟨tg,iter,ifs,0⟩] scope pos) scope X.env _ (newList []) false (eval iter X.env) (some (assign (.Name y py) X.env))) _ _ s
 refine wpAny_bind (wpAny_mono (wpAny_comprehension_free (use:=some (assign (.Name y py) X.env)) (Q:=fun _ s'=>SP X pins D .next s') rfl hs hclos ck.kind ck.loc
  (ut hc ck I hsub hhas hi hg hif he h (RR:=fun acc C=>compPost (model X.prog X.w) X.A X.xe (some (assign (.Name y py) X.env)) (fun _ s'=>SP X pins D .next s') acc C) ?_)) (fun _ s' hq=>wpAny_pure (wpAny_pure hq)) fun _ _ e=>e)
 intro L' C H' f s' m J hn fpC q
 show wpAny _ X.A (assign (.Name y py) X.env (.ref L')) _ _ _
 refine wpAny_assign_Name (pZ J hN hj (.inl hy) (v:=.ref L') rfl (fun s2 J2 hsb=>?_) (.inr hy))
 obtain ⟨f0,f1,f2,f3,f4,f5⟩:=fpC
 obtain ⟨a,hsb,ha⟩:=hsb
 have hCa:C≠a:=by
  rcases ha with rfl | ha
  ·exact f1
  ·exact fun z=>f4 _ _ ha z.symm
 refine ⟨m,hn.sameBut hsb hCa,fun h' hsb'=>⟨_,H',?_,q⟩⟩
 exact J2.turned (t':=s2.toks) (fun b o hb e=>(hsb'.2 b hb).trans e) f0 f1 f3 f4 f5
end
end L2
namespace HT
open PySem PySem.Spec PyProof.Rows
section
variable {prog:Program}{w:World}{A:Around}{E:Value→Shared→Prop}{s:Shared}
theorem AE (xs:Array Value):((List.range xs.size).filterMap fun (k:Nat)=>xs[(((xs.size:Int) - 1)+(k:Int)*(-1)).toNat]?).toArray=xs.toList.reverse.toArray:=by
 have e:((List.range xs.size).filterMap fun (k:Nat)=>xs[(((xs.size:Int) - 1)+(k:Int)*(-1)).toNat]?)=((List.range xs.size).map fun k=>xs.size - 1 - k).filterMap fun (k:Nat)=>xs[k]?:=by
  rw [List.filterMap_map]
  have f:(fun (k:Nat)=>xs[(((xs.size:Int) - 1)+(k:Int)*(-1)).toNat]?)=((fun k=>xs[k]?) ∘ fun k=>xs.size - 1 - k):=by
   funext k
   show _=xs[xs.size - 1 - k]?
   congr 1
   trivial
  rw [f]
 rw [e,PySem.W.krv_range,List.filterMap_reverse,PySem.W.krv_all]
theorem xG (n:Nat):Builtin.Slice.slicePlaces ((n:Int) - 1) (-1) (-1)=n:=by
 unfold Builtin.Slice.slicePlaces
 have h1:¬((-1:Int) > 0):=by decide
 simp only [h1,if_false]
 by_cases h:(n:Int) - 1 > -1
 ·simp only [h,if_true]
  rw [show (-(-1):Int)=1 by decide,Int.ediv_one]
  trivial
 ·simp only [h,if_false]
  trivial
theorem rH {sl:Addr}{vk:Value}{n:Nat}{R:Int×Int×Nat→Shared→Prop} (hs:s.heap.IsSliceOf sl .none .none vk) (pk:IsPart vk (some (-1))) (r:R (((n:Int) - 1),-1,n) s):wpAny (model prog w) A (Builtin.Slice.sliceApplied (.ref sl) (pure (n:Int))) R E s:=by
 obtain ⟨os,hos,hcs,hds⟩:=id hs
 unfold Builtin.Slice.sliceApplied Builtin.Slice.sliceFields
 refine wpAny_bind (wpAny_bind (wpAny_field hos hds (x:=.none) rfl (wpAny_bind (wpAny_field hos hds (x:=.none) rfl (wpAny_bind (wpAny_field hos hds (x:=vk) rfl (wpAny_pure ?_)))))))
 refine wpAny_bind (o8 pk ?_)
 show wpAny _ _ (if ((-1:Int)==0)=true then _ else _) _ _ s
 rw [if_neg (by decide)]
 refine wpAny_bind (slicePart_none (wpAny_bind (slicePart_none (wpAny_bind (wpAny_pure ?_)))))
 show wpAny _ _ (pure (((n:Int) - 1),(-1:Int),Builtin.Slice.slicePlaces ((n:Int) - 1) (-1) (-1))) _ _ s
 rw [xG]
 exact wpAny_pure r
theorem getItem_tuple_rev {t sl:Addr}{items:Array Value}{vk:Value}{Q:Value→Shared→Prop} (ht:IsTup s.heap t items) (hs:s.heap.IsSliceOf sl .none .none vk) (pk:IsPart vk (some (-1)))
 (h:Q (.ref s.heap.objs.size) { s with heap:=s.heap.push { cls:=.type "tuple",data:=.seq items.toList.reverse.toArray } })
 (hsz:items.size≤sizeLine):wpAny (model prog w) A (getItem (.ref t) (.ref sl)) Q E s:=by
 have htake:sizeOk (.seq items.toList.reverse.toArray):=by
  show items.toList.reverse.toArray.size≤sizeLine
  rw [List.size_toArray,List.length_reverse,Array.length_toList]
  exact hsz
 obtain ⟨os,hos,hcs,hds⟩:=id hs
 have hTs:s.TypeIs (.ref sl) "slice" := ⟨os,hos,hcs⟩
 unfold getItem
 try with_reducible refine wpAny_holding ?_
 first | refine wpAny_bind (wpAny_pure ?_) | skip
 refine wpAny_bind (wpAny_sequenceKey ht.typeIs (by decide) ?_)
 refine wpAny_bind (wpAny_callSpecial?_slot (name:=Str.ofString "__getitem__") ht.typeIs PyProof.Rows.slot_tuple_getitem
  (wpAny_call_entry PyProof.Rows.slot_tuple_getitem ht.typeIs entry_tuple_getitem ?_ (args_tuple_getitem _ _)))
 show wpAny _ _ (Builtin.Tuple.tupleItemsOf (.ref t) >>= _) _ _ s
 refine wpAny_bind (tupleItemsOf_ ht ?_)
 refine wpAny_bind (wpAny_typeOf hTs ?_)
 rw [if_pos (by decide)]
 refine wpAny_bind (rH hs pk ?_)
 have hno:¬((((items.size:Int) - 1)==0 && (-1:Int)==1 && items.size==items.size)=true):=by
  intro q
  rw [Bool.and_eq_true,Bool.and_eq_true] at q
  exact absurd q.1.2 (by decide)
 show wpAny _ _ (if (((items.size:Int) - 1)==0 && (-1:Int)==1 && items.size==items.size)=true then _ else _) _ _ s
 rw [if_neg hno,AE]
 first
  | exact wpAny_bind (m:=Builtin.Tuple.tupleExact _) (wpAny_newObj_type (wpAny_pure ⟨_,rfl,wpAny_pure h⟩) htake)
  | exact wpAny_bind (m:=Builtin.Tuple.tupleExact _) (wpAny_newObj_type (wpAny_bind (wpAny_pure (wpAny_pure ⟨_,rfl,wpAny_pure h⟩))) htake)
end
end HT
namespace L2
open PySem PySem.Spec PyProof.Rows
section
variable {X:Cx}{K:PySem.W.Frag}
def Ob (c:Bool) (H:Hp) (a:Addr) (xs:List V):Prop:=H a=some (if c=true then .lst xs else .tup xs)
end
section
variable {X:Cx}{e:Expr}{te:TE}{st:Expr}{ts:TO}{p2 pos:Pos}
def FS:V→Hp→VK→Prop:=fun x H Q=>(bz fun a m=>x=.str a∧Gg m a∧m≤10000∧∀c,Gg m c→Q (.str c) H)∨
 jq fun c a xs=>x=.ref a∧Ob c H a xs∧∀p H',aj H H'→Ob c H' p xs.reverse→H p=none→Q (.ref p) H'
def Fe (te:TE) (ts:TO):TE:=fun σ H Q=>te σ H fun x H1=>ts σ H1 fun k H2=>k=some (-1)∧FS x H2 Q
theorem Cz (he:PE X e te) (hst:PO X (some st) ts):PE X (.Subscript e (.Slice none none (some st) p2) pos) (Fe te ts):=by
 intro pins s σ H Q I h
 refine Subscript_ (aR (he pins s σ H _ I h) fun v s1 ⟨x,H1,I1,r1,q1⟩=>?_)
 refine wpAny_Slice ?_
 rw [evalPart_none]
 refine wpAny_pure (wpAny_pure (aR (hst pins s1 σ H1 _ I1 q1) fun vs s3 ⟨k,H3,I3,pk,q3⟩=>?_))
 obtain ⟨rfl,q3⟩:=q3
 have I4:af X pins σ H3 { s3 with heap:=s3.heap.push { cls:=.type "slice",data:=.fields #[.none,.none,vs] } }:=I3.kept (t':=s3.toks) fun b ob q=>Heap.get?_push_of_some _ q
 rcases q3 with ⟨a,m,rfl,ta,hm,q⟩ | ⟨c,a,xs,rfl,hx,q⟩
 ·obtain ⟨t,rfl⟩:=r1
  obtain ⟨tk,ei⟩:∃(tk:Tok),vs=.int (-1) tk:=by
   cases pk with
   | int i t=>exact ⟨t,rfl⟩
  subst ei
  show wpAny (model X.prog X.w) X.A (subscriptTail e (.Slice none none (some st) p2) (.str a t) (.ref s3.heap.objs.size)) (EP X pins σ Q) X.xe { s3 with heap:=s3.heap.push { cls:=.type "slice",data:=.fields #[.none,.none,.int (-1) tk] } }
  refine tail_any (ops:=[.str a t,.ref s3.heap.objs.size]) (typeIs_str _ a t) F.slot_str_getitem.lookup ?_ (by with_unfolding_all rfl)
  refine wpAny_getItem_str_slice (l:=none) (u:=none) (st:=some (-1,tk)) ⟨_,Heap.get?_push_size _ rfl,rfl,rfl⟩ rfl ?_
  unfold sliceMade
  rw [if_neg (by intro z;rw [Bool.and_eq_true] at z;exact absurd z.1 (by show ¬(((-1:Int)==1)=true);decide))]
  have ep:slicePicked a none none (some (-1,tk))=(List.range a.length).reverse:=by
   show Builtin.Str.strSliceIndices none none (-1) a.length=_
   unfold Builtin.Str.strSliceIndices
   show sliceRange ((a.length:Int) - 1) (-1) (-1)=_
   rw [PySem.W.krv_sliceRange,PySem.W.krv_range]
  rw [ep]
  have er:((List.range a.length).reverse.filterMap fun x=>a.cps[x]?)=a.cps.toList.reverse:=by
   rw [List.filterMap_reverse]
   exact congrArg List.reverse (PySem.W.krv_all a.cps)
  rw [er]
  have hl:(⟨a.cps.toList.reverse.toArray⟩:Str).length=a.length:=by
   show a.cps.toList.reverse.toArray.size=_
   simp;rfl
  refine ⟨?_,.str ⟨_⟩,H3,I4.tok _,⟨_,rfl⟩,q _ ⟨by rw [hl];exact ta.1,fun c hc=>ta.2 c (by simpa using hc)⟩⟩
  show (⟨a.cps.toList.reverse.toArray⟩:Str).length≤_
  rw [hl]
  exact Nat.le_trans ta.1 (fE hm)
 ·cases r1
  cases c with
  | true=>
   obtain ⟨its,r,ht,hz⟩:=I4.list (aG.of hx)
   have hlen:=r.length
   show wpAny (model X.prog X.w) X.A (subscriptTail e (.Slice none none (some st) p2) (.ref a) (.ref s3.heap.objs.size)) (EP X pins σ Q) X.xe { s3 with heap:=s3.heap.push { cls:=.type "slice",data:=.fields #[.none,.none,vs] } }
   refine tail_any (ops:=[.ref a,.ref s3.heap.objs.size]) ht.isList.typeIs slot_list_getitem.lookup ?_ (by with_unfolding_all rfl)
   refine wpAny_getItem_list_slice ht.isList (Heap.IsSliceOf.new ..) .none .none pk (by decide) ?_ (by rw [List.size_toArray] <;> trivial)
   rw [PySem.W.krv_pick]
   have hf:=I4.hok.fresh (Nat.le_refl _)
   refine ⟨.ref (s3.heap.push { cls:=.type "slice",data:=.fields #[.none,.none,vs] }).objs.size,_,I4.laid (t':=s3.toks) (o:=.lst xs.reverse) (fun b ob q=>Heap.get?_push_of_some _ q) (Nat.le_refl _) ?_,rfl,q _ _ (aj.new hf) aC hf⟩
   exact ⟨by rw [List.length_reverse];exact hz,_,0,r.rev,Heap.get?_push_size _ rfl⟩
  | false=>
   obtain ⟨its,r,ht,hz⟩:=I4.tuple (au.of hx)
   have hlen:=r.length
   show wpAny (model X.prog X.w) X.A (subscriptTail e (.Slice none none (some st) p2) (.ref a) (.ref s3.heap.objs.size)) (EP X pins σ Q) X.xe { s3 with heap:=s3.heap.push { cls:=.type "slice",data:=.fields #[.none,.none,vs] } }
   refine tail_any (ops:=[.ref a,.ref s3.heap.objs.size]) ht.typeIs PyProof.Rows.slot_tuple_getitem.lookup ?_ (by with_unfolding_all rfl)
   have hf:=I4.hok.fresh (Nat.le_refl _)
   refine HT.getItem_tuple_rev ht (Heap.IsSliceOf.new ..) pk ?_ (by rw [List.size_toArray] <;> trivial)
   refine ⟨.ref (s3.heap.push { cls:=.type "slice",data:=.fields #[.none,.none,vs] }).objs.size,_,I4.laid (t':=s3.toks) (o:=.tup xs.reverse) (fun b ob q=>Heap.get?_push_of_some _ q) (Nat.le_refl _) ?_,rfl,q _ _ (aj.new hf) aC hf⟩
   exact ⟨by rw [List.length_reverse];exact hz,_,r.rev,IsTup.new _ _,_,Heap.get?_push_size _ rfl,rfl⟩
end
end L2
namespace L2
open PySem PySem.Spec PyProof.Rows
end L2
namespace L2
open PySem PySem.Spec PyProof.Rows
section
variable {H H' H'':Hp}{z n k m:Nat}{v:V}{E:Addr→Prop}{b th th' p:Addr}{xs ys zs:List V}
end
section
variable {E:Addr→Prop}{z:Nat}{H0:Hp}{σ:St}{n k m:Nat}{te tb:TE}{ta:TA}{v:V}{i:Nat}{p:Addr}{xs:List V}{K:PySem.W.Frag}
end
section
variable {b th:Addr}{H0:Hp}{σ:St}{zs:List V}{ta:TA}{te:TE}{n i:Nat}{Q:VK}{K:PySem.W.Frag}
end
end L2
namespace L2
open PySem PySem.Spec PyProof.Rows
theorem bO {te:TE}{i:Nat}{u:TS}{D:cF}{σ:St}{H:Hp} (h:∀Q:VK,(∀v H',u D (σ.set i (some v)) H'→Q v H')→te σ H Q):o6 (tP te (qD i)) u D σ H:=h _ fun _ _ z=>z
theorem tJ {ta:TA}{i j:Nat}{u:TS}{D:cF}{σ:St}{H:Hp} (h:∀Q:List V→Hp→Prop,(∀v w H',u D ((σ.set i (some v)).set j (some w)) H'→Q [v,w] H')→ta σ H Q):o6 (EA i j ta) u D σ H:=h _ fun _ _ _ z=>⟨_,_,rfl,z⟩
theorem mn {α:Type}{P:List α→Prop} (h:∀a,P [a]):∀us:List α,us.length=1→P us:=fun us hl=>by
 cases us with
 | nil=>cases hl
 | cons a r=>cases r with
  | nil=>exact h a
  | cons b r=>simp at hl
theorem fw {α:Type}{P:List α→Prop} (h:∀a b,P [a,b]):∀us:List α,us.length=2→P us:=fun us hl=>by
 cases us with
 | nil=>cases hl
 | cons a r=>exact mn (P:=fun r=>P (a :: r)) (fun b=>h a b) r (by simpa using hl)
theorem yq {α:Type}{P:List α→Prop} (h:∀a b c,P [a,b,c]):∀us:List α,us.length=3→P us:=fun us hl=>by
 cases us with
 | nil=>cases hl
 | cons a r=>exact fw (P:=fun r=>P (a :: r)) (fun b c=>h a b c) r (by simpa using hl)
end L2
namespace L2
open PySem PySem.Spec PyProof.Rows
theorem vy:∀{xs:List V}{us:List Value},xs.length=us.length→(∀(i:Nat) x u,xs[i]?=some x→us[i]?=some u→bc x u)→aH xs us
 | [],[],_,_=>.nil
 | x :: xs,u :: us,hl,h=>.cons (h 0 x u rfl rfl) (vy (by simpa using hl) fun i y w e1 e2=>h (i+1) y w e1 e2)
section
variable {X:Cx}{a:Expr}{ta:TA}{p p2 pos pos2:Pos}
def rQ (n:Nat):List V:=(List.range n).map fun (k:Nat)=>V.int (k:Int)
def Di (ta:TA):TE:=fun σ H Q=>ta σ H fun vs H1=>∃j:Int,vs=[.int j]∧0≤j∧j≤10000∧∀l H',Nw H1 l (.lst (rQ j.toNat)) H'→Q (.ref l) H'
theorem AA (hc:X.calm=true) (hgL:Gl X "list") (hmL:X.mg "list" = none) (hvL:bootBuiltins "list" = some (.type "list")) (hgR:Gl X "range") (hmR:X.mg "range" = none) (ha:PA X [a] ta) (hs:starEach [a] X.env=[(false,eval a X.env)]:=by rfl)
 (hs2:starEach [Expr.Call (.Name "range" p2) [a] [] pos2] X.env=[(false,eval (Expr.Call (.Name "range" p2) [a] [] pos2) X.env)]:=by rfl):PE X (.Call (.Name "list" p) [.Call (.Name "range" p2) [a] [] pos2] [] pos) (Di ta):=by
 intro pins s σ H Q I h
 refine wpAny_Call_Name_kw (gZ I hgL hmL hvL ?_ (by decide) (by decide))
 refine PyProof.Rows.callWith_type1 ?_ hs2 rfl
 rw [hs2]
 show wpAny _ _ (spliced ((false,eval (Expr.Call (.Name "range" p2) [a] [] pos2) X.env) :: [])) _ _ s
 refine Calls.spliced_cons ?_
 refine Call_ (gZ I hgR hmR boot_range (PyProof.Rows.callWith_type1 (aR (ha pos2 pins s σ H _ I h) fun us s1 ⟨vs,H1,I1,r1,q1⟩=>?_) hs rfl))
 obtain ⟨j,e,q1,q2,q⟩:=q1
 subst e
 cases r1 with
 | cons r rr=>
  cases rr
  obtain ⟨t,rfl⟩:=r
  refine call_range_1 (Calls.spliced_nil ?_)
  have I2:af X pins σ H1 { s1 with heap:=s1.heap.push { cls:=.type "range",data:=.fields #[.int 0 s1.toks,.int j t,.int 1 (s1.toks+1)] },toks:=s1.toks+1+1 }:=I1.kept fun b o e=>Heap.get?_push_of_some _ e
  refine call_list_range (n:=j.toNat) (I2.ok.hd hc) (IsRange.new ..) (small_one (by trivial) (by trivial) (by trivial) (by trivial)) (by rw [rangeSize_one];split <;> trivial) (by trivial) fun h' tk acc' c' hk hS hacc=>?_
  have hz:(rQ j.toNat).length≤sizeLine:=by rw [rQ,List.length_map,List.length_range,sizeLine_eq];trivial
  have hv:aH (rQ j.toNat) acc'.toList:=by
   refine vy (by rw [rQ,List.length_map,List.length_range,Array.length_toList,hacc.1]) fun i x u e1 e2=>?_
   obtain ⟨tk',rfl⟩:=hacc.2 i u (by simpa using e2)
   rw [rQ,List.getElem?_map] at e1
   obtain ⟨m,e3,rfl⟩:=Option.map_eq_some_iff.mp e1
   obtain ⟨_,rfl⟩:i<j.toNat∧i=m:=by
    have:=List.getElem?_eq_some_iff.mp e3
    obtain ⟨h1,h2⟩:=this
    simp at h1 h2
    exact ⟨by trivial,h2⟩
   exact ⟨tk',by simp⟩
  refine ⟨.ref _,_,I2.laid (t':=tk) hk (Nat.le_refl _) (show bo X.prog X.w _ h' _ (.lst (rQ j.toNat)) from ⟨hz,acc'.toList,c',hv,by simpa using hS⟩),rfl,q _ _ (.mk' (I2.hok.fresh (Nat.le_refl _)))⟩
inductive Dl (x:V) (vs:List V) (H:Hp) (Q:VK):Prop
 | mk (l:_) (xs:_) (i:_) (y:_) (h0:x=.ref l) (h1:vs=[.int (i:Nat)]) (h2:H l=some (.lst xs)) (h3:xs.length≤10000) (h4:xs[i]?=some y) (h5:∀H',Ch H l (xs.eraseIdx i) H'→Q y H')
def F2:V→List V→Hp→VK→Prop:=fun x vs H Q=>Dl  x vs H Q
theorem Bo:vN X "list.pop" F2:=by
 intro pins s σ H x vs v us Q I rx rv h
 obtain ⟨l,xs,i,y,e1,e2,hH,hz,hy,q⟩:=h
 have hi:i<xs.length:=(List.getElem?_eq_some_iff.mp hy).1
 refine Ah pins s σ H x vs v us Q I rx rv ⟨l,xs,_,i,y,e1,e2,hH,by trivial,by trivial,?_,hy,q _ .mk'⟩
 have h0:¬((i:Int)<0):=by trivial
 simp [seqIndex?,h0,hi]
inductive AL (x:V) (vs:List V) (H:Hp) (Q:VK):Prop
 | mk (l:Addr) (ks:List Int) (k:Int) (j:Nat) (h0:x=.ref l) (h1:vs=[.int k]) (h2:H l=some (.lst (ks.map V.int))) (h3:ks.length≤10000) (h4:ks[j]?=some k) (h5:(∀m,m<j→ks[m]?≠some k)) (h6:Q (.int (j:Int)) H)
def BT:V→List V→Hp→VK→Prop:=fun x vs H Q=>AL  x vs H Q
theorem yE:vN X "list.index" BT:=by
 intro pins s σ H x vs v us Q I rx rv h
 obtain ⟨l,ks,k,j,rfl,rfl,hH,hz,hj,hno,q⟩:=h
 cases rx
 obtain ⟨u,rfl,ru⟩:=rv.one
 obtain ⟨t,rfl⟩:=ru
 obtain ⟨z,its,n,r,hl,e⟩:=I.lstM hH
 have hlen:ks.length=its.length:=by rw [←hl,List.length_map]
 have isI:∀(m:Nat) (w:Value),its[m]?=some w→bz fun i t'=>ks[m]?=some i∧w=.int i t':=fun m w hw=>by
  obtain ⟨i,hi⟩:∃i,ks[m]?=some i:=⟨_,List.getElem?_eq_getElem (by rw [hlen];exact (List.getElem?_eq_some_iff.mp hw).1)⟩
  obtain ⟨w',hw',rw'⟩:=r.get (show (ks.map V.int)[m]?=some (V.int i) by rw [List.getElem?_map,hi];rfl)
  rw [hw] at hw'
  cases hw'
  obtain ⟨t',rfl⟩:=rw'
  exact ⟨i,t',hi,rfl⟩
 have hji:j<its.length:=by rw [←hlen];exact (List.getElem?_eq_some_iff.mp hj).1
 refine call_meets F.slot_list_index ⟨_,e,rfl⟩ F.entry_list_index (F.args_list_index_2 _ _)
  (MeetsSeq.list_index l its.toArray n (.int k t) (fun y=>match y with | .int i _=>i==k | _=>false) (fun y hy=>?_) j (by simpa using hji) (by trivial) ?_ (fun m hm hlt=>?_)) ⟨e,?_⟩
 ·obtain ⟨m,hm⟩:=List.getElem?_of_mem (by simpa using hy:y∈its)
  obtain ⟨i,t',_,rfl⟩:=isI m y hm
  exact MeetsSeq.EqGives.int i k t' t
 ·obtain ⟨i,t',e1,e2⟩:=isI j its[j] (List.getElem?_eq_getElem hji)
  rw [hj] at e1
  cases e1
  simp only [List.getElem_toArray,e2,beq_self_eq_true]
 ·have hm':m<its.length:=by simpa using hm
  obtain ⟨i,t',e1,e2⟩:=isI m its[m] (List.getElem?_eq_getElem hm')
  have:=hno m hlt
  rw [e1] at this
  simp only [List.getElem_toArray,e2]
  simpa using fun z=>this (by rw [z])
 ·exact ⟨.int (j:Int),H,I.tok _,⟨_,rfl⟩,q⟩
end
end L2
namespace L2
open PySem PySem.Spec PyProof.Rows
abbrev lU (h:Heap) (z TI TO:Addr) (f0:Value) (b:Bool):Prop:=h.get? z=some { cls:=.type "zip",dict:=none,data:=.fields #[f0,.bool b,.bool false,.ref TI,.ref TO],slots:=#[] }
theorem wN {M:Model}{A:Around}{E:Value→Shared→Prop}{s:Shared}{a:Addr}{o:Obj}{Q:Option Obj→Shared→Prop} (e:s.heap.get? a=some o) (h:Q (some o) s):wpAny M A (loadIfAlive a) Q E s:=fun Γ p hΓ=>by
 unfold loadIfAlive
 rw [Sem.wp_loadIfAlive,e]
 exact h
section
variable {prog:Program}{w:World}{A:Around}{E:Value→Shared→Prop}{s:Shared}
variable {z TI TO i1 i2 l1 l2 T:Addr}{k:Nat}{xs ys:Array Value}{bb:Bool}{c1 c2:Bool}{oT:Obj}
theorem wV {Q:Bool→Shared→Prop} (hz:lU s.heap z TI TO (rawInt T) bb) (hT:s.heap.get? T=some oT)
 (h:∀h',lU h' z TI TO (rawInt T) true→Heap.SameBut z s.heap h'→Q false { s with heap:=h' }):wpAny (model prog w) A (Builtin.SmallTypes.ownedTupleIsFree (.ref z)) Q E s:=by
 unfold Builtin.SmallTypes.ownedTupleIsFree
 refine wpAny_bind (wpAny_field hz rfl (x:=rawInt T) rfl ?_)
 show wpAny _ _ (loadIfAlive ((T:Int).toNat) >>= _) _ _ _
 refine wpAny_bind (wN (a:=(T:Int).toNat) (by rw [Int.toNat_natCast];exact hT) ?_)
 simp only [Option.isNone_some,Bool.false_eq_true,if_false]
 refine wpAny_bind (wpAny_field hz rfl (x:=.bool bb) rfl ?_)
 cases bb with
 | true=>exact wpAny_pure (h s.heap hz (Heap.SameBut.refl ..))
 | false=>
  refine wpAny_bind (wpAny_setField_rec hz (by simp) fun h' e sb=>wpAny_pure (h h' e sb))
theorem Ai {x y:Value}{Q:Value→Shared→Prop} (D:gY z TI TO i1 i2) (n1:∀c,c=l1∨c=l2→c≠z∧c≠TO∧c≠i1∧c≠i2)
 (hz:lU s.heap z TI TO (rawInt T) bb) (hT:s.heap.get? T=some oT) (hTI:IsPair s.heap TI (.ref i1) (.ref i2)) (hh:A.handled=none)
 (h1:cA s.heap i1 l1 k c1) (h2:cA s.heap i2 l2 k c2) (q1:dA s.heap l1 xs c1) (q2:dA s.heap l2 ys c2) (hx:xs[k]?=some x) (hy:ys[k]?=some y)
 (hQ:∀h' tk,lU h' z TI TO (rawInt T) true→cA h' i1 l1 (k+1) c1→cA h' i2 l2 (k+1) c2→IsPair h' s.heap.objs.size x y→
  (∀c o,c≠z→c≠i1→c≠i2→s.heap.get? c=some o→h'.get? c=some o)→Q (.ref s.heap.objs.size) { s with heap:=h',toks:=tk }) :
 wpAny (model prog w) A (Builtin.«zip.__next__» ⟨[.ref z],[]⟩) (fun fin s'=>∃v,fin=.done (.ret v)∧Q v s') E s:=by
 obtain ⟨m1,m2,m3,m4⟩:=n1 l1 (.inl rfl)
 obtain ⟨m5,m6,m7,m8⟩:=n1 l2 (.inr rfl)
 have kx:k<xs.size:=(Array.getElem?_eq_some_iff.mp hx).1
 have ky:k<ys.size:=(Array.getElem?_eq_some_iff.mp hy).1
 have D1:=iP (prog:=prog) (w:=w) hh i1 l1 m3 xs c1
 have D2:=iP (prog:=prog) (w:=w) hh i2 l2 m8 ys c2
 show wpAny _ _ (field (.ref z) 2 >>= _) _ _ _;refine wpAny_bind (wpAny_field hz rfl (x:=.bool false) rfl ?_)
 show wpAny _ _ (field (.ref z) 3 >>= _) _ _ _;refine wpAny_bind (wpAny_field hz rfl (x:=.ref TI) rfl (wpAny_bind (wpAny_seqItems hTI rfl ?_)))
 show wpAny _ _ (Builtin.SmallTypes.ownedTupleIsFree (.ref z) >>= _) _ _ _
 refine wpAny_bind (wV hz hT fun g1 z1 t1=>?_)
 simp only [Bool.false_eq_true,if_false]
 refine wpAny_bind ?_
 rw [←Array.forIn_toList]
 simp only [List.forIn_cons,List.forIn_nil]
 refine wpAny_bind (wpAny_bind (wpAny_holding ?_))
 show wpAny _ _ (Builtin.SmallTypes.nextOf (.ref i1) >>= _) _ _ _
 refine wpAny_bind (D1.item k _ _ _ kx ⟨h1.at fun o e=>t1.extBut _ _ D.a3 e,q1.at fun o e=>t1.extBut _ _ m1 e⟩ fun x' g2 tk2 p1 st1 t2=>wpAny_pure ?_)
 have ex:x=x':=Option.some.inj (hx.symm.trans p1)
 subst ex
 refine wpAny_pure ?_
 refine wpAny_bind (wpAny_bind (wpAny_holding ?_))
 show wpAny _ _ (Builtin.SmallTypes.nextOf (.ref i2) >>= _) _ _ _
 refine wpAny_bind (D2.item k _ _ _ ky ⟨h2.at fun o e=>t2.extBut _ _ D.a0.symm (t1.extBut _ _ D.a4 e),q2.at fun o e=>t2.extBut _ _ m7 (t1.extBut _ _ m5 e)⟩ fun y' g4 tk4 p2 st2 t4=>wpAny_pure ?_)
 have ey:y=y':=Option.some.inj (hy.symm.trans p2)
 subst ey
 refine wpAny_pure (wpAny_pure ?_)
 refine wpAny_bind (wpAny_newTuple ?_ (by show 2≤sizeLine;rw [sizeLine_eq];decide))
 have sz:g4.objs.size=s.heap.objs.size:=by rw [t4.1,t2.1,t1.1]
 have z4:lU g4 z TI TO (rawInt T) true:=t4.extBut _ _ D.a4.symm (t2.extBut _ _ D.a3.symm z1)
 refine wpAny_pure ⟨_,rfl,?_⟩
 show Q (.ref g4.objs.size) _
 have pu:IsPair (g4.push { cls:=.type "tuple",data:=.seq #[x,y] }) g4.objs.size x y:=Heap.get?_push_size _ rfl
 rw [sz] at pu ⊢
 exact hQ _ _ (Heap.get?_push_of_some _ z4) ((st1.1.at fun o e=>t4.extBut _ _ D.a0 e).at fun o e=>Heap.get?_push_of_some _ e) (st2.1.at fun o e=>Heap.get?_push_of_some _ e) pu
  fun c o d1 d3 d4 e=>Heap.get?_push_of_some _ (t4.extBut _ _ d4 (t2.extBut _ _ d3 (t1.extBut _ _ d1 e)))
theorem BY {Q:Fin→Shared→Prop} (hh:A.handled=none) (D:gY z TI TO i1 i2) (n1:∀c,c=l1∨c=l2→c≠z∧c≠TO∧c≠i1∧c≠i2)
 (hz:lU s.heap z TI TO (rawInt T) bb) (hT:s.heap.get? T=some oT) (hTI:IsPair s.heap TI (.ref i1) (.ref i2))
 (h1:cA s.heap i1 l1 k c1) (h2:cA s.heap i2 l2 k c2) (q1:dA s.heap l1 xs c1) (q2:dA s.heap l2 ys c2) (hend:xs.size=k∨(k<xs.size∧ys.size=k))
 (hE:∀h' e tk,(∀c o,c≠z→c≠i1→c≠i2→s.heap.get? c=some o→h'.get? c=some o)→(∃o,h'.get? e=some o∧o.cls=.type "StopIteration")→E (.ref e) { s with heap:=h',toks:=tk }) :
 wpAny (model prog w) A (Builtin.«zip.__next__» ⟨[.ref z],[]⟩) Q E s:=by
 obtain ⟨m1,m2,m3,m4⟩:=n1 l1 (.inl rfl)
 obtain ⟨m5,m6,m7,m8⟩:=n1 l2 (.inr rfl)
 have D1:=iP (prog:=prog) (w:=w) hh i1 l1 m3 xs c1
 have D2:=iP (prog:=prog) (w:=w) hh i2 l2 m8 ys c2
 show wpAny _ _ (field (.ref z) 2 >>= _) _ _ _;refine wpAny_bind (wpAny_field hz rfl (x:=.bool false) rfl ?_)
 show wpAny _ _ (field (.ref z) 3 >>= _) _ _ _;refine wpAny_bind (wpAny_field hz rfl (x:=.ref TI) rfl (wpAny_bind (wpAny_seqItems hTI rfl ?_)))
 show wpAny _ _ (Builtin.SmallTypes.ownedTupleIsFree (.ref z) >>= _) _ _ _
 refine wpAny_bind (wV hz hT fun g1 z1 t1=>?_)
 simp only [Bool.false_eq_true,if_false]
 refine wpAny_bind ?_
 rw [←Array.forIn_toList]
 simp only [List.forIn_cons,List.forIn_nil]
 refine wpAny_bind (wpAny_bind (wpAny_holding ?_))
 show wpAny _ _ (Builtin.SmallTypes.nextOf (.ref i1) >>= _) _ _ _
 have st0:cA g1 i1 l1 k c1∧dA g1 l1 xs c1:=⟨h1.at fun o e=>t1.extBut _ _ D.a3 e,q1.at fun o e=>t1.extBut _ _ m1 e⟩
 rcases hend with hk | ⟨kx,hk⟩
 ·refine wpAny_bind (D1.done _ _ _ (by rw [hk];exact st0) fun g2 e t2 he=>?_)
  exact hE g2 e _ (fun c o d1 d3 _ q=>t2 _ _ d3 (t1.extBut _ _ d1 q)) he
 ·refine wpAny_bind (D1.item k _ _ _ kx st0 fun x g2 tk2 p1 st1 t2=>wpAny_pure ?_)
  refine wpAny_pure ?_
  refine wpAny_bind (wpAny_bind (wpAny_holding ?_))
  show wpAny _ _ (Builtin.SmallTypes.nextOf (.ref i2) >>= _) _ _ _
  have st2:cA g2 i2 l2 k c2∧dA g2 l2 ys c2:=⟨h2.at fun o e=>t2.extBut _ _ D.a0.symm (t1.extBut _ _ D.a4 e),q2.at fun o e=>t2.extBut _ _ m7 (t1.extBut _ _ m5 e)⟩
  refine wpAny_bind (D2.done _ _ _ (by rw [hk];exact st2) fun g4 e t4 he=>?_)
  exact hE g4 e _ (fun c o d1 d3 d4 q=>t4 _ _ d4 (t2.extBut _ _ d3 (t1.extBut _ _ d1 q))) he
structure ZS (h:Heap) (z TI TO i1 i2 l1 l2:Addr) (c1 c2:Bool) (xs ys:Array Value) (k:Nat) (wr:List Addr):Prop where
 z:(IsZip h z TI TO .none∧bz fun a b=>IsPair h TO a b)∨jq fun (T:Addr) (o:Obj) (bb:Bool)=>lU h z TI TO (rawInt T) bb∧h.get? T=some o∧T∉wr
 t:IsPair h TI (.ref i1) (.ref i2)
 a:cA h i1 l1 k c1
 b:cA h i2 l2 k c2
 c:dA h l1 xs c1
 d:dA h l2 ys c2
theorem ZS.keep {h h':Heap}{wr:List Addr} (st:ZS h z TI TO i1 i2 l1 l2 c1 c2 xs ys k wr) (hw:z∉wr∧TI∉wr∧TO∉wr∧i1∉wr∧i2∉wr∧l1∉wr∧l2∉wr) (kp:∀c o,c∉wr→h.get? c=some o→h'.get? c=some o):ZS h' z TI TO i1 i2 l1 l2 c1 c2 xs ys k wr:=by
 obtain ⟨w1,w2,w3,w4,w5,w6,w7⟩:=hw
 refine ⟨?_,kp _ _ w2 st.t,st.a.at fun o e=>kp _ o w4 e,st.b.at fun o e=>kp _ o w5 e,st.c.at fun o e=>kp _ o w6 e,st.d.at fun o e=>kp _ o w7 e⟩
 rcases st.z with ⟨h1,a,b,h2⟩ | ⟨T,o,bb,h1,h2,h3⟩
 ·exact .inl ⟨kp _ _ w1 h1,a,b,kp _ _ w3 h2⟩
 ·exact .inr ⟨T,o,bb,kp _ _ w1 h1,kp _ _ h3 h2,h3⟩
theorem zT {x y:Value}{Q:Option Value→Shared→Prop}{wr:List Addr} (D:gY z TI TO i1 i2) (n1:∀c,c=l1∨c=l2→c≠z∧c≠TO∧c≠i1∧c≠i2) (hw:∀c∈wr,c<s.heap.objs.size)
 (st:ZS s.heap z TI TO i1 i2 l1 l2 c1 c2 xs ys k wr) (hh:A.handled=none) (hx:xs[k]?=some x) (hy:ys[k]?=some y)
 (hQ:∀h' tk,ZS h' z TI TO i1 i2 l1 l2 c1 c2 xs ys (k+1) wr→IsPair h' s.heap.objs.size x y→(∀c o,c≠z→c≠TO→c≠i1→c≠i2→s.heap.get? c=some o→h'.get? c=some o)→Q (some (.ref s.heap.objs.size)) { s with heap:=h',toks:=tk }) :
 wpAny (model prog w) A (pyNext (.ref z)) Q E s:=by
 obtain ⟨m1,m2,m3,m4⟩:=n1 l1 (.inl rfl)
 obtain ⟨m5,m6,m7,m8⟩:=n1 l2 (.inr rfl)
 rcases st.z with ⟨hz,a,b,hTO⟩ | ⟨T,o,bb,hz,hT,hn⟩
 ·refine oh D n1 hz st.t hTO hh st.a st.b st.c st.d hx hy fun h' tk zo TO' t1 t2 T' sz keep=>hQ h' tk ⟨.inr ⟨_,_,false,zo,T',fun q=>?_⟩,keep _ _ D.a1 D.a5 D.a6 D.a7 st.t,t1,t2,st.c.at fun o e=>keep _ o m1 m2 m3 m4 e,st.d.at fun o e=>keep _ o m5 m6 m7 m8 e⟩ T' keep
  exact absurd (hw _ q) (Nat.lt_irrefl _)
 ·have hT':s.TypeIs (.ref z) "zip" := ⟨_,hz,rfl⟩
  unfold pyNext
  refine wpAny_bind (wpAny_attempt (wpAny_callSpecial?_slot (name:=Str.ofString "__next__") hT' F.slot_zip_next (wpAny_call_entry F.slot_zip_next hT' F.entry_zip_next
   (Ai D n1 hz hT st.t hh st.a st.b st.c st.d hx hy fun h' tk zo t1 t2 T' keep=>wpAny_pure ?_) (F.args_zip_next_1 _))))
  have Tz:T≠z∧T≠i1∧T≠i2∨True:=.inr trivial
  refine hQ h' tk ⟨.inr ?_,keep _ _ D.a1 D.a6 D.a7 st.t,t1,t2,st.c.at fun o e=>keep _ o m1 m3 m4 e,st.d.at fun o e=>keep _ o m5 m7 m8 e⟩ T' fun c o d1 d2 d3 d4 e=>keep c o d1 d3 d4 e
  by_cases e1:T=z
  ·exact ⟨T,_,true,zo,by rw [e1];exact zo,hn⟩
  by_cases e2:T=i1
  ·obtain ⟨o',e',_⟩:=t1.some
   exact ⟨T,o',true,zo,by rw [e2];exact e',hn⟩
  by_cases e3:T=i2
  ·obtain ⟨o',e',_⟩:=t2.some
   exact ⟨T,o',true,zo,by rw [e3];exact e',hn⟩
  exact ⟨T,o,true,zo,keep _ _ e1 e2 e3 hT,hn⟩
theorem Bs {Q:Option Value→Shared→Prop}{wr:List Addr} (D:gY z TI TO i1 i2) (n1:∀c,c=l1∨c=l2→c≠z∧c≠TO∧c≠i1∧c≠i2)
 (st:ZS s.heap z TI TO i1 i2 l1 l2 c1 c2 xs ys k wr) (hh:A.handled=none) (hend:xs.size=k∨(k<xs.size∧ys.size=k))
 (hQ:∀h' tk,(∀c o,c≠z→c≠TO→c≠i1→c≠i2→s.heap.get? c=some o→h'.get? c=some o)→Q none { s with heap:=h',toks:=tk }) :
 wpAny (model prog w) A (pyNext (.ref z)) Q E s:=by
 rcases st.z with ⟨hz,a,b,hTO⟩ | ⟨T,o,bb,hz,hT,hn⟩
 ·exact pe hh D n1 hz st.t hTO st.a st.b st.c st.d hend hQ
 ·have hT':s.TypeIs (.ref z) "zip" := ⟨_,hz,rfl⟩
  unfold pyNext
  refine wpAny_bind (wpAny_attempt (wpAny_callSpecial?_slot (name:=Str.ofString "__next__") hT' F.slot_zip_next (wpAny_call_entry F.slot_zip_next hT' F.entry_zip_next
   (BY hh D n1 hz hT st.t st.a st.b st.c st.d hend fun h' e tk hk he=>?_) (F.args_zip_next_1 _))))
  obtain ⟨o,ho,hc⟩:=he
  refine wpAny_bind (wpAny_isInstance (T := "StopIteration") (b:=true) ⟨o,ho,hc⟩ isSubtype_stop (wpAny_pure (hQ _ tk fun c o d1 _ d3 d4 e=>hk c o d1 d3 d4 e)))
theorem vd:typeLookup (.type "zip") "keys" = pure none:=am_miss_of_fast (by kernel_rfl)
theorem rz:typeLookup (.type "zip") "__getattr__" = pure none:=am_miss_of_fast (by kernel_rfl)
theorem m9:entryFor table "zip.__getattribute__" = some Builtin.«object.__getattribute__»:=
 entryFor_alias (id' := "object.__getattribute__") (by kernel_rfl) (by decide +kernel) (by decide +kernel) (by kernel_rfl)
theorem oi (a:Addr) (vs:Array Value) (name:Str) (u:Tok) (hmiss:typeLookup (.type "zip") name=pure none) (hname:(["__module__", "__name__", "__qualname__", "__doc__", "__annotations__"]:List Str).contains name=false) (hsz:name.length+100≤sizeLine) :
 Meets (Builtin.«object.__getattribute__» ⟨[.ref a,.str name u],[]⟩) (fun A R s=>s.heap.get? a=some { cls:=.type "zip",dict:=none,data:=.fields vs,slots:=#[] }∧raisesAttr (.ref a) name A R s):=
 Meets.of_wp fun prog w A R s hs=>by
  obtain ⟨hp,g,d,tk,os⟩:=s
  obtain ⟨hx,hs⟩:=hs
  have hT:(⟨hp,g,d,tk,os⟩:Shared).TypeIs (.ref a) "zip" := ⟨_,hx,rfl⟩
  unfold Builtin.«object.__getattribute__»
  repeat (any_goals (first | assumption | wp_step))
  simp only [hname,Bool.false_eq_true,if_false]
  repeat (any_goals (first | assumption | wp_step))
  exact wpAny_raiseAttrError hs.1 hs.2 (attrMsg_fits (by decide +kernel) hsz)
theorem rG {a:Addr}{vs:Array Value}{name:Str} (hmiss:typeLookup (.type "zip") name=pure none) (hname:(["__module__", "__name__", "__qualname__", "__doc__", "__annotations__"]:List Str).contains name=false) (hsz:name.length+100≤sizeLine) {Q:Option Value→Shared→Prop} (hx:s.heap.get? a=some { cls:=.type "zip",dict:=none,data:=.fields vs,slots:=#[] }) (hA:A.handled=none)
 (h:∀h' tk,(∀b o,s.heap.get? b=some o→h'.get? b=some o)→Q none { s with heap:=h',toks:=tk }) :
 wpAny (model prog w) A (getAttr? (.ref a) name) Q E s:=by
 obtain ⟨hp,g,d,tk,os⟩:=s
 have hT:∀tk',(⟨hp,g,d,tk',os⟩:Shared).TypeIs (.ref a) "zip" := fun _=>⟨_,hx,rfl⟩
 have f1:=sub_AttributeError
 have f3:=F.slot_zip_getattribute.lookup
 have f4:=F.slot_zip_getattribute.bind (.ref a)
 have f5:=rz
 unfold getAttr? getAttrBy? getAttrBy
 repeat (any_goals (first | assumption | exact hT _ | ((with_reducible show wpAny _ _ (call (Value.builtin "zip.__getattribute__") _ _) _ _ _);refine call_meets F.slot_zip_getattribute (hT _) m9 (F.args_zip_getattribute_2 _ _) (oi a vs name _ hmiss hname hsz) ⟨hx,hA,fun h' tk' e hx'=>?_⟩) | wp_step))
 obtain ⟨t',u',he⟩:=hx'.there
 show wpAny _ _ (getattributeRaised _ _ _ _ _ _ _) _ _ _
 unfold getattributeRaised
 repeat (any_goals (first | assumption | wp_step))
 exact h _ _ hx'.keeps
theorem rP {a:Addr}{vs:Array Value}{Q:Option Value→Shared→Prop} (hx:s.heap.get? a=some { cls:=.type "zip",dict:=none,data:=.fields vs,slots:=#[] }) (hA:A.handled=none)
 (h:∀h' tk,(∀b o,s.heap.get? b=some o→h'.get? b=some o)→Q none { s with heap:=h',toks:=tk }) :
 wpAny (model prog w) A (getAttr? (.ref a) "keys") Q E s:=rG vd (by decide +kernel) (by rw [sizeLine_eq];decide) hx hA h
end
end L2
namespace L2
open PySem PySem.Spec PyProof.Rows
theorem iM:entryFor table "dict.update.loop" = some Builtin.«dict.update.loop»:=entryFor_of_tree (by kernel_rfl)
theorem db:plainId "dict.update.loop" = true:=by decide +kernel
theorem yf {kvs:List (bp×Value)}{k:bp}{v:Value} (h:k∉kvs.map (·.1)):stored kvs k v=kvs++[(k,v)]:=by
 unfold stored
 rw [if_neg]
 intro z
 obtain ⟨x,hx,e⟩:=List.any_eq_true.mp z
 exact h (by rw [←of_decide_eq_true e];exact List.mem_map_of_mem hx)
theorem vw {α β:Type}:∀{ks:List α}{us:List β},ks.length=us.length→(ks.zip us).map (·.1)=ks
 | [],[],_=>rfl
 | k :: ks,u :: us,h=>by simp [vw (ks:=ks) (us:=us) (by simpa using h)]
section
variable {prog:Program}{w:World}{A:Around}{E:Value→Shared→Prop}{R:Result→Shared→Prop}
variable {z TI TO i1 i2 l1 l2 d:Addr}{xs ys:Array Value}{c1 c2:Bool}{ks:List bp}
theorem yN (D:gY z TI TO i1 i2) (n1:∀c,c=l1∨c=l2→c≠z∧c≠TO∧c≠i1∧c≠i2) (hd:z≠d∧TI≠d∧TO≠d∧i1≠d∧i2≠d∧l1≠d∧l2≠d)
 (hh:A.handled=none) (hk:∀(i:Nat) v,xs[i]?=some v→∀k,ks[i]?=some k→ka k v=true) (lx:xs.size=ks.length) (ly:ys.size=ks.length) (nd:ks.Nodup) (hz:ks.length≤4000) :
 ∀(r i:Nat) (tk0:Tok) (s:Shared),ks.length - i=r→i≤ks.length→ZS s.heap z TI TO i1 i2 l1 l2 c1 c2 xs ys i [d]→s.heap.DictOf (cf prog w) d ((ks.zip ys.toList).take i)→
   (∀h' tk,h'.DictOf (cf prog w) d (ks.zip ys.toList)→(∀c o,c≠z→c≠TO→c≠i1→c≠i2→c≠d→s.heap.get? c=some o→h'.get? c=some o)→R (.ok (.ret .none)) { s with heap:=h',toks:=tk })→
   codeAny (model prog w) A (.builtin "dict.update.loop" ⟨[.ref d,.ref z,.int (i:Nat) tk0,.none],[]⟩) R s:=by
 intro r
 induction r with
 | zero=>
  intro i tk0 s hr hi st hD hR
  have e:i=ks.length:=by trivial
  have lz:(ks.zip ys.toList).length=ks.length:=by simp [ly]
  rw [e,←lz,List.take_length] at hD
  refine codeAny_builtin iM ?_
  rw [A.under_plainId db]
  show wpAny _ _ (pyNext (Value.ref z) >>= _) _ _ _
  refine wpAny_bind (Bs D n1 st (by simpa using hh) (.inl (by rw [e,lx])) fun h' tk keep=>?_)
  show wpAny _ _ (Builtin.Dict.addKeywords d [] >>= _) _ _ _
  refine wpAny_bind (wpAny_pure (wpAny_pure ?_))
  obtain ⟨o,es,ep,ho,q⟩:=hD
  exact hR h' tk ⟨o,es,ep,keep d o hd.1.symm hd.2.2.1.symm hd.2.2.2.1.symm hd.2.2.2.2.1.symm ho,q⟩ fun c o d1 d2 d3 d4 _ e=>keep c o d1 d2 d3 d4 e
 | succ r ih=>
  intro i tk0 s hr hi st hD hR
  have lt:i<ks.length:=by trivial
  have hx:xs[i]?=some xs[i]:=Array.getElem?_eq_getElem (by trivial)
  have hy:ys[i]?=some ys[i]:=Array.getElem?_eq_getElem (by trivial)
  have kv:=hk i _ hx ks[i] (List.getElem?_eq_getElem lt)
  have dlt:d<s.heap.objs.size:=let ⟨o,es,ep,ho,_⟩:=hD;Heap.lt_size ho
  refine codeAny_builtin iM ?_
  rw [A.under_plainId db]
  show wpAny _ _ (pyNext (Value.ref z) >>= _) _ _ _
  refine wpAny_bind (zT D n1 (fun c hc=>by rw [List.mem_singleton.mp hc];exact dlt) st (by simpa using hh) hx hy fun h' tk st' T' keep=>?_)
  have hD':h'.DictOf (cf prog w) d ((ks.zip ys.toList).take i):=let ⟨o,es,ep,ho,q⟩:=hD;⟨o,es,ep,keep d o hd.1.symm hd.2.2.1.symm hd.2.2.2.1.symm hd.2.2.2.2.1.symm ho,q⟩
  refine wpAny_bind (wpAny_holding (wpAny_bind (wpAny_tryCatch ?_)))
  unfold Builtin.Dict.pairItems
  refine wpAny_bind (wpAny_typeOf (show Shared.TypeIs { s with heap:=h',toks:=tk } (.ref s.heap.objs.size) "tuple" from ⟨_,T',rfl⟩) ?_)
  rw [if_pos (by decide)]
  refine wpAny_bind (wpAny_seqItems T' rfl (wpAny_pure ?_))
  show wpAny _ _ (holding [xs[i],ys[i]] (dictSet d xs[i] ys[i])) _ _ _
  have nk:ks[i]∉((ks.zip ys.toList).take i).map (·.1):=by
   rw [List.map_take,vw (by simp [ly])]
   intro q
   obtain ⟨j,hj,e⟩:=List.getElem_of_mem q
   rw [List.length_take] at hj
   rw [List.getElem_take] at e
   have:=uw nd (by trivial) lt e
   trivial
  have lz:((ks.zip ys.toList).take i).length≤sizeLine:=by rw [List.length_take,sizeLine_eq];simp;trivial
  refine wpAny_holding (wpAny_dictSet_pairs (k:=ks[i]) kv hD' (hsz:=lz) fun h2 hD2 sb=>?_)
  rw [yf nk] at hD2
  have nx:h2.DictOf (cf prog w) d ((ks.zip ys.toList).take (i+1)):=by
   rw [List.take_succ_eq_append_getElem (by simp [ly];trivial)]
   simpa using hD2
  obtain ⟨d1,d2,d3,d4,d5,d6,d7⟩:=hd
  refine wpAny_pure ⟨plainId_quiet db _,?_⟩
  have st2:=st'.keep (h':=h2) (by simp only [List.mem_singleton];exact ⟨d1,d2,d3,d4,d5,d6,d7⟩) fun c o hc e=>(sb.2 c (by simpa using hc)).trans e
  have e1:((i:Nat):Int)+1=((i+1:Nat):Int):=by trivial
  show codeAny _ _ (.builtin "dict.update.loop" ⟨[.ref d,.ref z,.int ((i:Nat)+1) 0,.none],[]⟩) _ _
  rw [e1]
  exact ih (i+1) 0 _ (by trivial) lt st2 nx fun h3 tk3 hD3 k3=>hR h3 tk3 hD3 fun c o a1 a2 a3 a4 a5 e=>k3 c o a1 a2 a3 a4 a5 ((sb.2 c a5).trans (keep c o a1 a2 a3 a4 e))
theorem wo {s:Shared}{Q:Value→Shared→Prop}{a b:Value} (D:gY z TI TO i1 i2) (n1:∀c,c=l1∨c=l2→c≠z∧c≠TO∧c≠i1∧c≠i2)
 (hz:IsZip s.heap z TI TO .none) (hTI:IsPair s.heap TI (.ref i1) (.ref i2)) (hTO:IsPair s.heap TO a b) (h1:cA s.heap i1 l1 0 c1) (h2:cA s.heap i2 l2 0 c2) (q1:dA s.heap l1 xs c1) (q2:dA s.heap l2 ys c2)
 (hh:A.handled=none) (hk:∀(i:Nat) v,xs[i]?=some v→∀k,ks[i]?=some k→ka k v=true) (lx:xs.size=ks.length) (ly:ys.size=ks.length) (nd:ks.Nodup) (hs:ks.length≤4000)
 (h:∀h' tk,h'.DictOf (cf prog w) s.heap.objs.size (ks.zip ys.toList)→(∀c o,c≠z→c≠TO→c≠i1→c≠i2→s.heap.get? c=some o→h'.get? c=some o)→Q (.ref s.heap.objs.size) { s with heap:=h',toks:=tk }) :
 wpAny (model prog w) A (call (.type "dict") [.ref z]) Q E s:=by
 refine callType_codes (Q₁:=fun obj s₁=>obj=.ref s.heap.objs.size∧s₁={ s with heap:=s.heap.push { cls:=.type "dict",data:=.dict #[] } }) F.kt_called_dict (F.kt_typeCall_dict_1 _) F.entry_dict_init (kt_code_dict_new _ ⟨rfl,rfl⟩) ?_
 rintro obj s₁ ⟨rfl,rfl⟩
 have hnew:(s.heap.push { cls:=.type "dict",data:=.dict #[] }).DictOf (cf prog w) s.heap.objs.size []:=Heap.DictOf.new s.heap
 have up:∀c o,s.heap.get? c=some o→(s.heap.push { cls:=.type "dict",data:=.dict #[] }).get? c=some o:=fun c o e=>Heap.get?_push_of_some _ e
 have ne:∀c o,s.heap.get? c=some o→c≠s.heap.objs.size:=fun c o e=>Nat.ne_of_lt (Heap.lt_size e)
 have hz':=up _ _ hz
 refine ⟨hnew.typeIs,F.args_dict_init_2 _ _,?_⟩
 unfold Builtin.«dict.__init__»
 refine wpAny_bind ?_
 unfold Builtin.Dict.selfAndRest
 refine wpAny_bind (wpAny_notOrdered_dict hnew.typeIs ?_)
 show wpAny _ _ (pure (s.heap.objs.size,[Value.ref z])) _ _ _
 refine wpAny_pure ?_
 show wpAny _ _ (Builtin.Dict.updateFrom "dict.__init__" s.heap.objs.size (.ref z) [] .none) _ _ _
 unfold Builtin.Dict.updateFrom
 refine wpAny_bind (wpAny_typeOf (T := "zip") ⟨_,hz',rfl⟩ ?_)
 rw [if_pos (by decide)]
 refine wpAny_bind (rP hz' (by simpa using hh) fun g1 tk1 k1=>?_)
 simp only [Option.isNone_none,if_true]
 refine wpAny_bind (wpAny_rule ?_)
 refine wpAny_bind (wpAny_pyIter_zip (k1 _ _ hz') ?_)
 have kk:∀c o,s.heap.get? c=some o→g1.get? c=some o:=fun c o e=>k1 _ _ (up _ _ e)
 have hn1:g1.DictOf (cf prog w) s.heap.objs.size []:=let ⟨o,es,ep,ho,q⟩:=hnew;⟨o,es,ep,k1 _ _ ho,q⟩
 refine wpAny_pure ⟨plainId_quiet db _,?_⟩
 obtain ⟨o1,e1,_⟩:=h1.some
 obtain ⟨o2,e2,_⟩:=h2.some
 refine yN (ks:=ks) D n1 ⟨ne _ _ hz,ne _ _ hTI,ne _ _ hTO,ne _ _ e1,ne _ _ e2,Nat.ne_of_lt q1.lt,Nat.ne_of_lt q2.lt⟩ (by simpa using hh) hk lx ly nd hs ks.length 0 0 _ rfl (Nat.zero_le _)
  ⟨.inl ⟨kk _ _ hz,_,_,kk _ _ hTO⟩,kk _ _ hTI,h1.at fun o e=>kk _ o e,h2.at fun o e=>kk _ o e,q1.at fun o e=>kk _ o e,q2.at fun o e=>kk _ o e⟩ hn1 fun h' tk hD keep=>?_
 exact ⟨rfl,h h' tk hD fun c o d1 d2 d3 d4 e=>keep c o d1 d2 d3 d4 (ne _ _ e) (kk _ _ e)⟩
end
theorem wy:bootBuiltins "dict" = some (.type "dict"):=by decide +kernel
def C2 (K:PySem.W.Frag) (ta:TA):TE:=fun σ H Q=>ta σ H fun vs H1=>D9 fun (a1 a2:Addr) (c1 c2:Bool) (ks:List bp) (ys:List V)=>vs=[.ref a1,.ref a2]∧i9 K H1 a1 (ks.map jv) c1∧i9 K H1 a2 ys c2∧ys.length=ks.length∧ks.Nodup∧ks.length≤4000∧∀p H',Nw H1 p (.dK (ks.zip ys)) H'→Q (.ref p) H'
theorem zG:∀{ks:List bp}{ys:List V}{us:List Value},aH ys us→KV (ks.zip ys) (ks.zip us)
 | [],_,_,_=>.nil
 | _ :: _,_,_,.nil=>.nil
 | k :: ks,_,_,.cons r t=>.cons ⟨rfl,r⟩ (zG t)
section
variable {X:Cx}{K:PySem.W.Frag}{a b:Expr}{ta:TA}{p1 p2 p3 p4:Pos}
theorem yr (hc:X.calm=true) (hg1:Gl X "dict") (hm1:X.mg "dict" = none) (hg2:Gl X "zip") (hm2:X.mg "zip" = none) (ha:PA X [a,b] ta) (ek:X.K=K:=by rfl) (hs:starEach [a,b] X.env=[(false,eval a X.env),(false,eval b X.env)]:=by rfl) (hs2:starEach [b] X.env=[(false,eval b X.env)]:=by rfl)
 (hs3:starEach [Expr.Call (.Name "zip" p2) [a,b] [] p3] X.env=[(false,eval (Expr.Call (.Name "zip" p2) [a,b] [] p3) X.env)]:=by rfl) :
 PE X (.Call (.Name "dict" p1) [.Call (.Name "zip" p2) [a,b] [] p3] [] p4) (C2 K ta):=by
 subst ek
 intro pins s σ H Q I h
 refine wpAny_Call_Name_kw (gZ I hg1 hm1 wy ?_ (by decide) (by decide))
 refine PyProof.Rows.callWith_type1 ?_ hs3 rfl
 rw [hs3]
 show wpAny _ _ (spliced ((false,eval (Expr.Call (.Name "zip" p2) [a,b] [] p3) X.env) :: [])) _ _ s
 refine Calls.spliced_cons ?_
 refine Call_ (gZ I hg2 hm2 vR (PyProof.Rows.callWith_type1 (aR (ha p3 pins s σ H _ I h) fun us s1 ⟨vs,H1,I1,r1,q1⟩=>?_) (by rw [hs,hs2]) (by rw [hs2];rfl)))
 obtain ⟨a1,a2,c1,c2,ks,ys,rfl,p1,p2,ly,nd,hz4,q⟩:=q1
 obtain ⟨u1,u2,rfl,ru1,ru2⟩:=r1.two
 obtain rfl:u1=.ref a1:=ru1
 obtain rfl:u2=.ref a2:=ru2
 obtain ⟨its1,rv1,k1⟩:=I1.seqC p1
 obtain ⟨its2,rv2,k2⟩:=I1.seqC p2
 have d1:=k1.lt
 have d2:=k2.lt
 have l1:=rv1.length
 have l2:=rv2.length
 rw [List.length_map] at l1
 refine uo k1 k2 fun h' hz hTI hTO t1 t2 hk=>Calls.spliced_nil ?_
 have I2:af X pins σ H1 { s1 with heap:=h',toks:=s1.toks }:=I1.kept hk
 have fr:∀b,s1.heap.objs.size≤b→iT X pins H1 b:=fun b hle=>I1.fpOk hle (I1.hok.fresh hle)
 have nn:∀c,c=a1∨c=a2→c≠s1.heap.objs.size+4∧c≠s1.heap.objs.size+3∧c≠s1.heap.objs.size∧c≠s1.heap.objs.size+1:=fun c hc=>by
  have:c<s1.heap.objs.size:=by rcases hc with rfl | rfl <;> assumption
  exact ⟨Nat.ne_of_lt (Nat.lt_of_lt_of_le this (Nat.le_add_right _ _)),Nat.ne_of_lt (Nat.lt_of_lt_of_le this (Nat.le_add_right _ _)),Nat.ne_of_lt this,Nat.ne_of_lt (Nat.lt_of_lt_of_le this (Nat.le_add_right _ _))⟩
 refine wo (s:={ s1 with heap:=h',toks:=s1.toks }) (ks:=ks) (xs:=its1.toArray) (ys:=its2.toArray) ⟨by simp,by simp,Nat.ne_of_lt (by simp),by simp,by simp,Nat.ne_of_gt (by simp),by simp,Nat.ne_of_gt (by simp),by simp,Nat.ne_of_lt (by simp)⟩ nn hz hTI hTO t1 t2 (k1.at fun o e=>hk _ o e) (k2.at fun o e=>hk _ o e) (I1.ok.hd hc)
  (fun i v e k f=>((uh rv1).2 i v (by simpa using e) k f).1) (by simp;trivial) (by simp;trivial) nd hz4 fun h2 tk hD keep=>?_
 have big:sysModules<h'.objs.size:=by
  have e:mainGlobals<h'.objs.size:=(I2.mod.glob.keeps I2.bk).lt
  exact Nat.lt_trans (by decide) e
 have I3:=I2.turnedNew (h':=h2) (t':=tk) (T:=h'.objs.size) (o:=.dK (ks.zip ys)) (ch:=[s1.heap.objs.size+4,s1.heap.objs.size+3,s1.heap.objs.size,s1.heap.objs.size+1]) (fun b hb=>?_) (fun b u hb e=>?_) (Nat.le_refl _)
  ⟨by rw [sizeLine_eq];simp;trivial,beq_eq_false_iff_ne.mpr (Ne.symm (Nat.ne_of_lt big)),ks.zip its2,zG rv2,by simpa using hD⟩
 ·exact ⟨.ref _,_,I3,rfl,q _ _ (.mk' (I2.hok.fresh (Nat.le_refl _)))⟩
 ·have hb':b=s1.heap.objs.size+4∨b=s1.heap.objs.size+3∨b=s1.heap.objs.size∨b=s1.heap.objs.size+1:=by simpa using hb
  exact fr b (by rcases hb' with rfl | rfl | rfl | rfl <;> trivial)
 ·simp only [List.mem_cons,List.not_mem_nil,or_false,not_or] at hb
  exact keep b u hb.1 hb.2.1 hb.2.2.1 hb.2.2.2 e
def valD (kvs:List (bp×V)) (k:bp):Option V:=(kvs.find? fun kv=>decide (kv.1=k)).map (·.2)
theorem KV.valD:∀{kvs:List (bp×V)}{vs:List (bp×Value)} (r:KV kvs vs) (k:bp),qi (valD kvs k) (valueAt vs k)
 | _,_,.nil,_=>trivial
 | p :: ps,q :: qs,.cons h t,k=>by
  obtain ⟨h1,h2⟩:=h
  by_cases e:p.1=k
  ·have e':q.1=k:=h1.symm.trans e
   have b1:L2.valD (p :: ps) k=some p.2:=by simp [L2.valD,List.find?_cons,e]
   have b2:valueAt (q :: qs) k=some q.2:=by simp [valueAt,List.find?_cons,e']
   rw [b1,b2];exact h2
  ·have e':¬q.1=k:=fun z=>e (h1.trans z)
   have b1:L2.valD (p :: ps) k=L2.valD ps k:=by simp [L2.valD,List.find?_cons,e]
   have b2:valueAt (q :: qs) k=valueAt qs k:=by simp [valueAt,List.find?_cons,e']
   rw [b1,b2];exact KV.valD t k
inductive EU (x:V) (y:V) (H:Hp) (Q:VK):Prop
 | mk (d:Addr) (kvs:List (bp×V)) (k:bp) (v:V) (h0:x=.ref d) (h1:y=jv k) (h2:H d=some (.dK kvs)) (h3:valD kvs k=some v) (h4:Q v H)
def GJ:R2:=fun x y H Q=>EU  x y H Q
theorem jb {P:Program}{w:World}{k:bp}{u:Value} (r:bc (jv k) u):(cf P w).is k u=true:=(xD r).1
theorem ia:pf X GJ:=by
 intro value slice pins s σ H x y v u Q I rx ry h hs
 obtain ⟨d,kvs,k,z,rfl,rfl,hd,he,q⟩:=h
 cases rx
 obtain ⟨_,_,vs,rel,dd⟩:=(show bo X.prog X.w H s.heap d (.dK kvs) from I.hok d _ hd)
 have hv:=rel.valD k
 rw [he] at hv
 obtain ⟨w',hw,rw'⟩:=qi.some_of hv
 exact subscriptTail_builtinR (x:=w') dd.typeIs PySem.F.slot_dict_getitem.lookup (wpAny_getItem_of (jb ry) dd.mapOf hw ⟨rfl,z,H,I.tok _,rw',q⟩) hs
theorem wz:∀{ks:List bp}{ys:List V}{i:Nat}{k:bp}{y:V},ks.Nodup→ks[i]?=some k→ys[i]?=some y→valD (ks.zip ys) k=some y
 | [],_,_,_,_,_,h,_=>by simp at h
 | _ :: _,[],_,_,_,_,_,h=>by simp at h
 | k0 :: ks,y0 :: ys,0,k,y,_,h1,h2=>by
  simp at h1 h2
  subst h1 h2
  simp [valD]
 | k0 :: ks,y0 :: ys,i+1,k,y,nd,h1,h2=>by
  simp only [List.getElem?_cons_succ] at h1 h2
  have ne:¬k0=k:=fun z=>by
   rw [z] at nd
   exact (List.nodup_cons.mp nd).1 (List.mem_of_getElem? h1)
  have b1:valD ((k0 :: ks).zip (y0 :: ys)) k=valD (ks.zip ys) k:=by simp [valD,List.find?_cons,ne]
  rw [b1]
  exact wz (List.nodup_cons.mp nd).2 h1 h2
end
section
variable {X:Cx}
end
end L2
namespace L2
open PySem PySem.Spec PyProof.Rows
section
variable {prog:Program}{w:World}{A:Around}{E:Value→Shared→Prop}{s:Shared}
variable {n l1 l2 l3 T:Nat}{k:Nat}{xs ys zs:Array Value}{bb:Bool}{oT:Obj}
end
end L2
namespace L2
open PySem PySem.Spec PyProof.Rows
section
variable {prog:Program}{w:World}{A:Around}{E:Value→Shared→Prop}{s:Shared}
variable {n l1 l2 l3:Nat}{k:Nat}{xs ys zs:Array Value}
end
section
variable {prog:Program}{w:World}{A:Around}{E:Value→Shared→Prop}{R:Result→Shared→Prop}
variable {n l1 l2 l3:Nat}{xs ys zs:Array Value}
end
section
variable {prog:Program}{w:World}{A:Around}{E:Value→Shared→Prop}{s:Shared}
end
section
variable {X:Cx}{pins:List (Addr×Obj)}{σ:St}{H:Hp}{s:Shared}{h':Heap}
end
section
variable {X:Cx}{K:PySem.W.Frag}{a b c:Expr}{ta:TA}{p1 p2 p3 p4:Pos}
end
end L2
namespace L2
open PySem PySem.Spec PyProof.Rows
section
variable {prog:Program}{w:World}{A:Around}{E:Value→Shared→Prop}{s:Shared}
end
section
variable {prog:Program}{w:World}{A:Around}{E:Value→Shared→Prop}{R:Result→Shared→Prop}
variable {l it d:Nat}{vs:Array Value}{ks:List bp}{us:List Value}
end
section
variable {X:Cx}
end
end L2
namespace L2
open PySem PySem.Spec PyProof.Rows
section
variable {X:Cx}
inductive BF (x:V) (y:V) (H:Hp) (Q:VK):Prop
 | mk (a c:Addr) (xs:List V) (h0:x=.ref a) (h1:y=.ref c) (h2:H a=some (.lst xs)) (h3:H c=some (.lst [])) (h4:Q (.bl (!xs.isEmpty)) H)
def CS:R2:=fun x y H Q=>BF  x y H Q
theorem Ak (hu:X.A.units+64<cLine):cD X (compareOp .NotEq) CS:=by
 intro pins s σ H x y v u Q I rx ry h
 obtain ⟨a,c,xs,rfl,rfl,ha,hc,q⟩:=h
 cases rx
 cases ry
 obtain ⟨z,its,n,r,hl,e⟩:=I.lstM ha
 obtain ⟨z2,its2,n2,r2,hl2,e2⟩:=I.lstM hc
 have h0:its2=[]:=List.eq_nil_of_length_eq_zero hl2.symm
 subst h0
 have l1:s.heap.IsList a its.toArray:=⟨_,e,rfl,_,rfl⟩
 have l2:s.heap.IsList c (#[]:Array Value):=⟨_,e2,rfl,_,rfl⟩
 have hu':X.A.units<cLine:=by trivial
 cases xs with
 | nil=>
  have:its=[]:=List.eq_nil_of_length_eq_zero hl.symm
  subst this
  refine (PySem.SeqAt.RcNeAt.lists (e:=fun _=>true) l1 l2 rfl hu' (fun j j1 j2=>absurd j1 (by simp))) X.prog X.w X.xe _ ?_
  exact ⟨.bl _,H,I,rfl,q⟩
 | cons y ys=>
  refine (PySem.SeqAt.RcNeAt.lists_lengths l1 l2 (by simp at hl ⊢;exact fun z=>by rw [z] at hl;simp at hl) hu') X.prog X.w X.xe _ ?_
  exact ⟨.bl _,H,I,rfl,q⟩
end
structure Gb (a b:Nat) (p:KM.Fra):Prop where
 n:Sz a p.1
 d:Sz b p.2
 pos:1≤p.2
theorem Gb.mono {a b a' b':Nat}{p:KM.Fra} (h:Gb a b p) (ha:a≤a') (hb:b≤b'):Gb a' b' p:=⟨h.n.mono ha,h.d.mono hb,h.pos⟩
theorem Ek {a b:Nat}{n d:Int} (hn:Sz a n) (hd:Sz b d) (h0:0<d):Gb a b (KM.low n d):=by
 have:=KM.low_spec n d (by trivial)
 exact ⟨hn.le this.2.2.2.1,hd.le this.2.2.2.2,this.1⟩
def mj (p q:KM.Fra):KM.Fra:=KM.low (p.1*q.2) (p.2*q.1)
theorem Gb.tim {a b c d e f:Nat}{p q:KM.Fra} (h:Gb a b p) (k:Gb c d q) (h1:a+c≤e) (h3:b+d≤f):Gb e f (KM.lTim p q):=
 Ek ((h.n.mul k.n).mono h1) ((h.d.mul k.d).mono h3) (Int.mul_pos (by have:=h.pos;trivial) (by have:=k.pos;trivial))
theorem tU {p q:KM.Fra} (h:1≤p.1) (h':1≤p.2) (k:1≤q.1) (k':1≤q.2):1≤(KM.lTim p q).1:=(KM.low_sgn (Int.mul_pos (by trivial) (by trivial))).1.mpr (Int.mul_pos (by trivial) (by trivial))
end L2
namespace L2
open PySem PySem.Spec PyProof.Rows
def dL (kvs:List (bp×V)) (k:bp) (v:V):List (bp×V):=if kvs.any (fun kv=>decide (kv.1=k)) then kvs.map (fun kv=>if kv.1=k then (kv.1,v) else kv) else kvs++[(k,v)]
theorem KV.any {kvs:List (bp×V)}{vs:List (bp×Value)} (r:KV kvs vs) (k:bp):kvs.any (fun kv=>decide (kv.1=k))=vs.any (fun kv=>decide (kv.1=k)):=by
 induction r with
 | nil=>rfl
 | cons h t ih=>rw [List.any_cons,List.any_cons,ih,h.1]
theorem uc {kvs:List (bp×V)}{vs:List (bp×Value)} (r:KV kvs vs) {k:bp}{v:V}{u:Value} (rv:bc v u):KV (dL kvs k v) (stored vs k u):=by
 unfold dL stored
 rw [r.any k]
 have m:KV (kvs.map (fun kv=>if kv.1=k then (kv.1,v) else kv)) (vs.map (fun kv=>if kv.1=k then (kv.1,u) else kv)):=by
  induction r with
  | nil=>exact .nil
  | @cons p q ps qs h t ih=>
   refine .cons ?_ ih
   obtain ⟨pk,pv⟩:=p
   obtain ⟨qk,qv⟩:=q
   obtain ⟨h1,h2⟩:=h
   obtain rfl:pk=qk:=h1
   show (if pk=k then (pk,v) else (pk,pv)).1=(if pk=k then (pk,u) else (pk,qv)).1∧bc (if pk=k then (pk,v) else (pk,pv)).2 (if pk=k then (pk,u) else (pk,qv)).2
   by_cases c:pk=k
   ·rw [if_pos c,if_pos c];exact ⟨rfl,rv⟩
   ·rw [if_neg c,if_neg c];exact ⟨rfl,h2⟩
 have a:KV (kvs++[(k,v)]) (vs++[(k,u)]):=by
  clear m
  induction r with
  | nil=>exact .cons ⟨rfl,rv⟩ .nil
  | cons h t ih=>exact .cons h ih
 cases vs.any (fun kv=>decide (kv.1=k)) with
 | true=>exact m
 | false=>exact a
theorem ug {kvs:List (bp×V)}{k:bp}{v:V} (h:kvs.length<sizeLine):(dL kvs k v).length≤sizeLine:=by
 unfold dL
 split
 ·rw [List.length_map];trivial
 ·rw [List.length_append];exact h
theorem mO (kvs:List (bp×V)) (k:bp) (v:V) (x:bp):valD (dL kvs k v) x=if x=k then some v else valD kvs x:=by
 unfold dL
 cases c:kvs.any (fun kv=>decide (kv.1=k)) with
 | true=>
  rw [if_pos rfl]
  induction kvs with
  | nil=>cases c
  | cons p ps ih=>
   unfold valD at ih ⊢
   rw [List.map_cons,List.find?_cons,List.find?_cons]
   by_cases hp:p.1=k
   ·rw [if_pos hp]
    by_cases hx:x=k
    ·rw [if_pos hx,hp,hx];simp
    ·rw [if_neg hx]
     have n1:¬p.1=x:=fun z=>hx (z.symm.trans hp)
     have n2:decide (p.1=x)=false:=decide_eq_false n1
     rw [n2]
     dsimp only
     by_cases c2:ps.any (fun kv=>decide (kv.1=k))=true
     ·rw [ih c2,if_neg hx]
     ·have e:ps.map (fun kv=>if kv.1=k then (kv.1,v) else kv)=ps:=by
       have:∀kv∈ps,(fun kv:bp×V=>if kv.1=k then (kv.1,v) else kv) kv=kv:=fun kv hkv=>by
        by_cases q:kv.1=k
        ·exact absurd (List.any_eq_true.mpr ⟨kv,hkv,decide_eq_true q⟩) c2
        ·show (if kv.1=k then _ else _)=_
         rw [if_neg q]
       exact (List.map_congr_left this).trans (List.map_id _)
      rw [e]
   ·rw [if_neg hp]
    have c':ps.any (fun kv=>decide (kv.1=k))=true:=by
     rw [List.any_cons,decide_eq_false hp,Bool.false_or] at c
     exact c
    by_cases hpx:p.1=x
    ·have hx:¬x=k:=fun z=>hp (hpx.trans z)
     rw [if_neg hx,decide_eq_true hpx]
    ·rw [decide_eq_false hpx]
     dsimp only
     exact ih c'
 | false=>
  rw [if_neg Bool.false_ne_true]
  have nk:valD kvs k=none:=by
   unfold valD
   rw [Option.map_eq_none_iff,List.find?_eq_none]
   intro kv hkv q
   have:kvs.any (fun kv=>decide (kv.1=k))=true:=List.any_eq_true.mpr ⟨kv,hkv,q⟩
   rw [c] at this;cases this
  unfold valD at nk ⊢
  rw [List.find?_append]
  by_cases hx:x=k
  ·subst hx
   rw [Option.map_eq_none_iff] at nk
   rw [nk,if_pos rfl];simp
  ·rw [if_neg hx]
   cases kvs.find? (fun kv=>decide (kv.1=x)) with
   | some p=>rfl
   | none=>
    have:decide (k=x)=false:=decide_eq_false fun z=>hx z.symm
    simp [this]
section
variable {X:Cx}
theorem af.dset {pins:List (Addr×Obj)}{σ:St}{H:Hp}{s:Shared}{d:Addr}{kvs kvs':List (bp×V)}{vs':List (bp×Value)}{h':Heap}{t':Nat} (I:af X pins σ H s) (hH:H d=some (.dK kvs)) (hm:(d==sysModules)=false) (hz:kvs'.length≤sizeLine)
 (hv:KV kvs' vs') (hd:h'.DictOf (cf X.prog X.w) d vs') (sb:Heap.SameBut d s.heap h'):af X pins σ (aI H d (.dK kvs')) { s with heap:=h',toks:=t' }:=by
 obtain ⟨o,es,ep,ho,q⟩:=hd
 refine I.write (x:=d) (e:=d) (by rw [hH];exact trivial) (.inl rfl) (fun b u hb hu=>(sb.2 b hb).trans hu) ⟨_,ho⟩ ?_
 exact ⟨hz,hm,vs',hv,o,es,ep,ho,q⟩
structure Bf (H:Hp) (p:Addr) (o:HO) (H':Hp):Prop where
 at':H' p=some o
 ol:∀a u,a≠p→H a=some u→H' a=some u
 fre:∀a,a≠p→H a=none→H' a=none
theorem Bf.mk' {H:Hp}{p:Addr}{o:HO}:Bf H p o (aI H p o):=⟨aC,fun a u n h=>by rw [av n];exact h,fun a n h=>by rw [av n];exact h⟩
inductive Dt (o:V) (i:V) (v:V) (H:Hp) (Q:(Hp→Prop)):Prop
 | mk (d:_) (kvs:_) (k:_) (h0:o=.ref d) (h1:i=jv k) (h2:H d=some (.dK kvs)) (h3:kvs.length≤4000) (h4:∀H',Bf H d (.dK (dL kvs k v)) H'→Q H')
def Fg:V→V→V→Hp→(Hp→Prop)→Prop:=fun o i v H Q=>Dt  o i v H Q
theorem vX:xE X Fg:=by
 intro pins s σ H o i v ov iv u Q I ro ri rv h
 obtain ⟨d,kvs,k,rfl,rfl,hd,hl,q⟩:=h
 cases ro
 obtain ⟨hz,hm,vs,rel,dd⟩:=(show bo X.prog X.w H s.heap d (.dK kvs) from I.hok d _ hd)
 exact wpAny_setItem_pairs (hsz:=by rw [←rel.length];exact hz) (jb ri) dd fun h' hd' sb=>⟨_,I.dset hd hm (ug (by rw [sizeLine_eq];trivial)) (uc rel rv) hd' sb,q _ .mk'⟩
inductive Dy (ng:Bool) (x:V) (y:V) (H:Hp) (Q:VK):Prop
 | mk (d:Addr) (kvs:List (bp×V)) (k:bp) (h0:y=.ref d) (h1:x=jv k) (h2:H d=some (.dK kvs)) (h3:Q (.bl (if ng then !(valD kvs k).isSome else (valD kvs k).isSome)) H)
def Fu (ng:Bool):R2:=fun x y H Q=>Dy ng x y H Q
theorem yA {o:Option V}{p:Option Value} (h:qi o p):o.isSome=p.isSome:=by
 cases o <;> cases p <;> first | rfl | exact h.elim
theorem oQ:cD X (compareOp .NotIn) (Fu true):=by
 intro pins s σ H x y v u Q I rx ry h
 obtain ⟨d,kvs,k,rfl,rfl,hd,q⟩:=h
 cases ry
 obtain ⟨hz,hm,vs,rel,dd⟩:=(show bo X.prog X.w H s.heap d (.dK kvs) from I.hok d _ hd)
 show wpAny _ X.A (do return Value.bool (!(←contains (.ref d) v))) _ _ s
 refine wpAny_bind (wpAny_contains_slot dd.typeIs PySem.F.slot_dict_contains (wpAny_mono (call_meetsIn (Q:=fun b s'=>b=.bool (valueAt vs k).isSome∧s'={ s with toks:=s.toks+1 }) PySem.F.slot_dict_contains dd.typeIs PySem.F.entry_dict_contains (PySem.F.args_dict_contains_2 _ _) (meets_dict_contains (cf X.prog X.w) d (jb rx) hm) ⟨_,dd.mapOf,rfl,rfl⟩) (fun b s' hb=>?_) fun _ _ e=>e))
 obtain ⟨rfl,rfl⟩:=hb
 refine wpAny_truthy_bool (wpAny_pure ?_)
 rw [←yA (rel.valD k)]
 exact ⟨.bl _,H,I.tok _,rfl,q⟩
theorem wv {pos:Pos}:PE X (.Dict [] [] pos) (fun _ H Q=>∀p H',Nw H p (.dK []) H'→Q (.ref p) H'):=by
 intro pins s σ H Q I h
 refine wpAny_Dict_empty ?_
 have big:(s.heap.objs.size==sysModules)=false:=by
  have e:mainGlobals<s.heap.objs.size:=(I.mod.glob.keeps I.bk).lt
  exact beq_eq_false_iff_ne.mpr (Ne.symm (Nat.ne_of_lt (Nat.lt_trans (by decide) e)))
 exact ⟨.ref _,_,I.laid (fun _ _ e=>Heap.get?_push_of_some _ e) (Nat.le_refl _) (show bo X.prog X.w _ _ _ (.dK []) from ⟨Nat.zero_le _,big,[],.nil,Heap.DictOf.new s.heap⟩),rfl,h _ _ (.mk' I.fresh)⟩
end
section
variable {prog:Program}{w:World}{A:Around}{R:Result→Shared→Prop}{s:Shared}
theorem uY {kx vx target iter:Expr}{ifs:List Expr}{scope:Scope}{pos:Pos}{it:Value}{D:Addr}{env:Env} (I:Nat→Shared→Prop)
 (turn:∀n s,I n s→wpAny (model prog w) A (pyNext it) (fun r s₁=>match r with
  | none=>R (.ok .next) s₁
  | some v=>wpAny (model prog w) A (letOwnedTupleGo target it v) (fun _ s₁'=>wpAny (model prog w) A (assign target env v) (fun _ s₂=>
   wpAny (model prog w) A (forIn ifs true fun c r=>if r=true then do let ok ←isTrue c env (eval c env);pure (ForInStep.yield ok) else pure (ForInStep.yield r)) (fun ok s₃=>
    if ok=true then wpAny (model prog w) A (eval kx env) (fun kv s₄=>wpAny (model prog w) A (eval vx env) (fun vv s₅=>
     wpAny (model prog w) A (dictSet D kv vv) (fun _ s₆=>∃m,m<n∧I m s₆) (fun _ _=>False) s₅) (fun _ _=>False) s₄) (fun _ _=>False) s₃
    else ∃m,m<n∧I m s₃) (fun _ _=>False) s₂) (fun _ _=>False) s₁') (fun _ _=>False) s₁) (fun _ _=>False) s)
 (n:Nat) (h:I n s) :
 codeAny (model prog w) A (.compLoop (.DictComp kx vx [⟨target,iter,ifs,0⟩] scope pos) 0 it (.ref D) env) R s:=by
 refine codeAny_loop rfl I (fun n s hI=>?_) n h
 show wpAny _ A ((compTurn (.DictComp kx vx [⟨target,iter,ifs,0⟩] scope pos) 0 it (.ref D) env).onRaise (fun x=>do noteFrame x env;theTreesLotGoes x)) _ _ s
 refine wpAny_noted ?_
 rw [compTurn_dict]
 refine wpAny_bind (wpAny_standAt (wpAny_bind (wpAny_mono (turn n s hI) (fun r s₁ h₁=>?_) fun _ _ h'=>h'.elim)))
 cases r with
 | none=>exact wpAny_pure h₁
 | some v=>
  refine wpAny_bind (wpAny_mono h₁ (fun _ s₁' h₁'=>?_) fun _ _ h'=>h'.elim)
  refine wpAny_bind (wpAny_mono h₁' (fun _ s₂ h₂=>wpAny_bind (wpAny_mono h₂ (fun ok s₃ h₃=>?_) fun _ _ h'=>h'.elim)) fun _ _ h'=>h'.elim)
  cases ok with
  | false=>exact wpAny_pure ⟨rfl,h₃⟩
  | true=>
   exact wpAny_bind (wpAny_bind (wpAny_mono h₃ (fun kv s₄ h₄=>wpAny_bind (wpAny_holding (wpAny_mono h₄ (fun vv s₅ h₅=>wpAny_bind (wpAny_standAt (wpAny_holding (wpAny_mono h₅ (fun _ s₆ h₆=>wpAny_pure ⟨rfl,h₆⟩) fun _ _ h'=>h'.elim)))) fun _ _ h'=>h'.elim))) fun _ _ h'=>h'.elim))
end
def zn (J:It) (σc:St) (g:TG) (tt:TT) (tk tv:TE) (D:Addr) (H1:Hp) (Q:VK):Prop:=
 ∃W:Nat→Nat→Hp→List (bp×V)→Prop,(∃m,W 0 m (aI H1 D (.dK [])) [])∧∀i m H ys,W i m H ys→H D=some (.dK ys)∧
  ((J.stop i H∧Q (.ref D) H)∨(J.go i H∧ys.length<sizeLine∧∃N:Hp→List (bp×V)→Prop,(∀H' ys',N H' ys'→∃m',m'<m∧W (i+1) m' H' ys')∧
    ∀x H',J.yld i H x H'→g x σc H' fun σ2 H2=>iS σc σ2∧tt σ2 H2 fun b H3=>if b=true then tk σ2 H3 fun kv H4=>∃k,kv=jv k∧tv σ2 H4 fun y H5=>H5 D=some (.dK ys)∧N (aI H5 D (.dK (dL ys k y))) (dL ys k y) else N H3 ys))
def wm (wi:TI) (L:Nat) (src:List Nat) (g:TG) (tt:TT) (tk tv:TE):TE:=fun σ H Q=>wi σ H fun J H1=>∀D,H1 D=none→zn J (gO L src σ) g tt tk tv D H1 Q
section
variable {X:Cx}{kx vx tg iter:Expr}{ifs:List Expr}{scope:Scope}{pos:Pos}{N':List Str}{L:Nat}{src:List Nat}{wi:TI}{g:TG}{tt:TT}{tk tv:TE}
theorem ua (hc:X.calm=true) (ck:yJ X.env.scope X.N scope N' L src) {cl:List (Str×Addr)}{pins:List (Addr×Obj)}{s:Shared}{σ:St}{H:Hp}{Q:VK} (I:af X pins σ H s)
 (hsub:∀x c,cl.lookup x=some c→X.env.cells.lookup x=some c) (hhas:∀y∈scope.names,y.2=.free→∃c,cl.lookup y.1=some c)
 (hi:PI X tg iter wi) (hg:∀cl C s H ex pn,PG (cV X scope cl C N' s H ex pn) tg g) (hif:∀cl C s H ex pn,mV (cV X scope cl C N' s H ex pn) ifs tt)
 (hk:∀cl C s H ex pn,PE (cV X scope cl C N' s H ex pn) kx tk) (hv:∀cl C s H ex pn,PE (cV X scope cl C N' s H ex pn) vx tv) (h:wm wi L src g tt tk tv σ H Q) {RR:Value→Addr→Result→Shared→Prop}
 (hRR:∀D C H' f s' m,af X pins σ H' s'→s'.heap.Ns C m→iT X pins H' C→Q (.ref D) H'→RR (.ref D) C (.ok f) s') :
 wpAny (model X.prog X.w) X.A (eval iter X.env) (fun x s₁=>wpAny (model X.prog X.w) X.A (pyIter x) (fun it s₂=>wpAny (model X.prog X.w) X.A newDict (fun acc s₃=>
  wpAny (model X.prog X.w) X.A (newFunctionEnv scope X.env.globals cl [] X.env.qual none .none (some X.env)) (fun cenv s₄=>
   codeAny (model X.prog X.w) X.A (.compStart (.DictComp kx vx [⟨tg,iter,ifs,0⟩] scope pos) 0 it acc { cenv with scope:=relabel scope X.env }) (RR acc cenv.locals) s₄) X.xe s₃) X.xe s₂) X.xe s₁) X.xe s:=by
 refine aR (hi pins s σ H _ I h) fun v s1 h1=>aR h1 fun itv s2 h2=>?_
 obtain ⟨it,fp,tn,J,H2,e,I2,T,st2,f2,q⟩:=h2
 subst e
 refine wpAny_newObj_type (wpAny_newFunctionEnv ck.nocell (by intro y hy;simp at hy) (fun h₁ hns₁ hsb₁=>?_) ck.kind)
 dsimp only at hns₁ hsb₁ ⊢
 generalize hH2:s2.heap.push { cls:=.type "dict",dict:=none,data:=.dict #[] }=hp2 at hns₁ hsb₁ ⊢
 have hC:hp2.objs.size=s2.heap.objs.size+1:=by rw [←hH2,Heap.size_push]
 have hDC:s2.heap.objs.size≠hp2.objs.size:=by rw [hC];exact Nat.ne_of_lt (Nat.lt_succ_self _)
 have hCle:s2.heap.objs.size≤hp2.objs.size:=by rw [hC];exact Nat.le_succ _
 have below:∀b,b<s2.heap.objs.size→b≠hp2.objs.size∧b≠s2.heap.objs.size:=fun b hb=>⟨by rw [hC];exact Nat.ne_of_lt (Nat.lt_succ_of_lt hb),Nat.ne_of_lt hb⟩
 have old:∀b o,s2.heap.get? b=some o→h₁.get? b=some o:=fun b o e=>hsb₁.extBut b o (below b (Heap.lt_size e)).1 (Heap.get?_push_of_some _ (hH2▸Heap.get?_push_of_some _ e))
 have hacc0:(s2.heap.push { cls:=.type "dict",dict:=none,data:=.dict #[] }).DictOf (cf X.prog X.w) s2.heap.objs.size []:=Heap.DictOf.new s2.heap
 have hacc:h₁.DictOf (cf X.prog X.w) s2.heap.objs.size []:=hacc0.at fun o e=>hsb₁.extBut _ _ hDC (Heap.get?_push_of_some _ (hH2▸e))
 have hbig:(s2.heap.objs.size==sysModules)=false:=by
  have e:mainGlobals<s2.heap.objs.size:=(I2.mod.glob.keeps I2.bk).lt
  exact beq_eq_false_iff_ne.mpr (Ne.symm (Nat.ne_of_lt (Nat.lt_trans (by decide) e)))
 have hDn:H2 s2.heap.objs.size=none:=I2.fresh
 obtain ⟨W,⟨m0,w0⟩,turn⟩:=q _ hDn
 have fpo:∀b∈fp,∃o,s2.heap.get? b=some o∧∀v,o.data≠.cell v:=T.obj _ _ st2
 have fplt:∀b∈fp,b<s2.heap.objs.size:=fun b hb=>by obtain ⟨o,e,_⟩:=fpo b hb;exact Heap.lt_size e
 have hfrs:∀b∈fp,b∉gS X.stack:=fun b hb z=>by
  rcases List.mem_cons.mp (I2.stkSub b z) with z' | z'
  ·exact (f2 b hb).2.1 z'
  ·exact (f2 b hb).2.2.1 z'
 generalize hX:cV X scope cl hp2.objs.size N' s2 H2 fp (X.pn++pins)=X'
 have ok':X'.Ok:=by
  subst hX
  refine ⟨I2.ok.mod,ck.kind,I2.ok.glob,I2.ok.blt,hCle,fun x y c e1 e2=>I2.ok.inj x y c (hsub _ _ e1) (hsub _ _ e2),fun x hx=>?_,fun x c z _=>(by cases z),I2.ok.hd,I2.ok.frames,.inl rfl,fun b hb=>⟨(below b (fplt b hb)).1,fun x c e=>(f2 b hb).2.2.2.2.1 x c (hsub _ _ e)⟩,
   I2.bs,Nat.le_trans I2.ok.bsz I2.sz,fun b o e hb=>?_,hfrs,I2.stack,I2.stkFree⟩
  ·-- a name that is a cell or free
   have hx':(relabel scope X.env).names.lookup x=some .cell∨(relabel scope X.env).names.lookup x=some .free:=hx
   have key:∀(names:List (Str×NameKind)),(∀y∈names,y.2≠.cell)→
    ((names.map fun (n,k)=>if (k==NameKind.free && X.env.scope.kind==.function && X.env.kindOf n==some .cell) then (n,NameKind.cell) else (n,k)).lookup x=some .cell∨
     (names.map fun (n,k)=>if (k==NameKind.free && X.env.scope.kind==.function && X.env.kindOf n==some .cell) then (n,NameKind.cell) else (n,k)).lookup x=some .free)→∃y∈names,y.1=x∧y.2=.free:=by
    intro names
    induction names with
    | nil=>intro _ h;rcases h with h | h <;> simp at h
    | cons y r ih=>
     intro hn h
     obtain ⟨n,k⟩:=y
     by_cases hb:x=n
     ·subst hb
      refine ⟨(x,k),List.mem_cons_self,rfl,?_⟩
      by_cases hk:k=.free
      ·exact hk
      ·exfalso
       have hkb:(k==NameKind.free)=false:=by simpa using hk
       have hnc:k≠.cell:=hn (x,k) List.mem_cons_self
       simp only [List.map_cons,hkb,Bool.false_and,Bool.false_eq_true,if_false,List.lookup_cons,beq_self_eq_true,if_true] at h
       rcases h with h | h
       ·exact hnc (Option.some.inj h)
       ·exact hk (Option.some.inj h)
     ·have hb':(x==n)=false:=by simpa using hb
      have h':((r.map fun (n,k)=>if (k==NameKind.free && X.env.scope.kind==.function && X.env.kindOf n==some .cell) then (n,NameKind.cell) else (n,k)).lookup x=some .cell∨
       (r.map fun (n,k)=>if (k==NameKind.free && X.env.scope.kind==.function && X.env.kindOf n==some .cell) then (n,NameKind.cell) else (n,k)).lookup x=some .free):=by
       rw [List.map_cons] at h
       dsimp only at h
       by_cases hcnd:(k==NameKind.free && X.env.scope.kind==.function && X.env.kindOf n==some .cell)=true
       ·rw [if_pos hcnd] at h
        simpa only [List.lookup_cons,hb'] using h
       ·rw [if_neg hcnd] at h
        simpa only [List.lookup_cons,hb'] using h
      obtain ⟨y,hy,e1,e2⟩:=ih (fun y hy=>hn y (List.mem_cons_of_mem _ hy)) h'
      exact ⟨y,List.mem_cons_of_mem _ hy,e1,e2⟩
   obtain ⟨y,hy,e1,e2⟩:=key scope.names ck.nocell hx'
   obtain ⟨c,hc'⟩:=hhas y hy e2
   exact ⟨c,e1▸hc'⟩
  ·rcases (f2 b hb).2.2.2.1 with z | z
   ·exact I2.ok.noex b o e z
   ·exact absurd (Nat.lt_of_lt_of_le (Heap.lt_size e) (Nat.le_trans I2.ok.bsz z)) (Nat.lt_irrefl _)
 have stat:∀{H':Hp},(∀b∈fp,H' b=none)→∀b∈fp,iT X' [] H' b:=by
  subst hX
  intro H' hn b hb
  refine ⟨hn b hb,(below b (fplt b hb)).1,hfrs b hb,.inl hb,fun x c e=>(f2 b hb).2.2.2.2.1 x c (hsub _ _ e),fun p hp=>?_⟩
  have hp':p∈X.pn++pins:=by simpa [cV] using hp
  exact (f2 b hb).2.2.2.2.2 p hp'
 have I1:af X' [] (gO L src σ) (aI H2 s2.heap.objs.size (.dK [])) { s2 with heap:=h₁,toks:=s2.toks+([]:List (Str×Value)).length }:=by
  subst hX
  have up:∀b o,H2 b=some o→aI H2 s2.heap.objs.size (.dK []) b=some o:=fun b o e=>by rw [av (bq e hDn)];exact e
  have upn:∀b,b<s2.heap.objs.size→H2 b=none→aI H2 s2.heap.objs.size (.dK []) b=none:=fun b hb e=>by rw [av (Nat.ne_of_lt hb)];exact e
  refine ⟨ok',rfl,I2.bare,Un.laid old (Nat.le_refl _) hDn,⟨_,hns₁,fun i x v e1 e2 e3=>?_⟩,fun x c e=>?_,?_,fun x c e=>?_,fun p hp=>?_,I2.hok.laid old (Nat.le_refl _) ⟨Nat.zero_le _,hbig,[],.nil,hacc⟩,?_⟩
  ·-- the names of the def around
   have hiL:L≤i:=by
    by_cases hlt:i<L
    ·exfalso
     unfold gO at e2
     rw [List.getElem?_append_left (by simpa using hlt),List.getElem?_replicate,if_pos hlt] at e2
     cases e2
    ·trivial
   have e2':(src.map fun j=>(σ[j]?).join)[i - L]?=some (some v):=by
    unfold gO at e2
    rw [List.getElem?_append_right (by simpa using hiL),List.length_replicate] at e2
    exact e2
   rw [List.getElem?_map] at e2'
   cases hj:src[i - L]? with
   | none=>rw [hj] at e2';cases e2'
   | some j=>
    rw [hj] at e2'
    have e3':(σ[j]?).join=some v:=Option.some.inj e2'
    have hσ:σ[j]?=some (some v):=by
     cases q:σ[j]? with
     | none=>rw [q] at e3';cases e3'
     | some o=>rw [q] at e3';exact congrArg some e3'
    obtain ⟨x',g1,g2,g3⟩:=ck.frees (i - L) j hj
    have:L+(i - L)=i:=by trivial
    rw [this] at g1
    have ex:x'=x:=Option.some.inj (g1.symm.trans e1)
    subst ex
    have hfree:=ck.free _ (PySem.mem_of_lookup g3) rfl
    obtain ⟨m,hn,hl⟩:=I2.loc
    obtain ⟨u,r,l⟩:=hl j x' v g2 hσ (hfree.elim (fun z=>.inr (.inl z)) fun z=>.inr (.inr z))
    refine ⟨u,r,.inr ⟨?_,?_⟩⟩
    ·-- its kind in the block
     have key:∀(names:List (Str×NameKind)),names.lookup x'=some .free→
      ((names.map fun (n,k)=>if (k==NameKind.free && X.env.scope.kind==.function && X.env.kindOf n==some .cell) then (n,NameKind.cell) else (n,k)).lookup x'=some .cell∨
       (names.map fun (n,k)=>if (k==NameKind.free && X.env.scope.kind==.function && X.env.kindOf n==some .cell) then (n,NameKind.cell) else (n,k)).lookup x'=some .free):=by
      intro names
      induction names with
      | nil=>intro h;simp at h
      | cons y r ih=>
       intro h
       obtain ⟨n,k⟩:=y
       by_cases hb:x'=n
       ·subst hb
        simp only [List.lookup_cons,beq_self_eq_true,if_true] at h
        have hk:k=.free:=Option.some.inj h
        subst hk
        rw [List.map_cons]
        dsimp only
        by_cases hcnd:(NameKind.free==NameKind.free && X.env.scope.kind==.function && X.env.kindOf x'==some .cell)=true
        ·rw [if_pos hcnd];left;simp [List.lookup_cons]
        ·rw [if_neg hcnd];right;simp [List.lookup_cons]
       ·have hb':(x'==n)=false:=by simpa using hb
        have h':=ih (by simpa only [List.lookup_cons,hb'] using h)
        rw [List.map_cons]
        dsimp only
        by_cases hcnd:(k==NameKind.free && X.env.scope.kind==.function && X.env.kindOf n==some .cell)=true
        ·rw [if_pos hcnd];simpa only [List.lookup_cons,hb'] using h'
        ·rw [if_neg hcnd];simpa only [List.lookup_cons,hb'] using h'
     exact key scope.names g3
    ·obtain ⟨c,hcl⟩:=hhas _ (PySem.mem_of_lookup g3) rfl
     have hcx:=hsub _ _ hcl
     rcases l with ⟨k1,_⟩ | ⟨_,c',e4,z⟩
     ·exfalso
      have k1':X.env.scope.names.lookup x'=some .local:=k1
      rcases hfree with z | z
      ·rw [z] at k1';cases k1'
      ·rw [z] at k1';cases k1'
     ·rw [hcx] at e4
      cases e4
      obtain ⟨o,ho,hd⟩:=z
      exact ⟨c,hcl,o,old _ _ ho,hd⟩
  ·obtain ⟨v,o,ho,hd⟩:=I2.cell x c (hsub _ _ e)
   exact ⟨v,o,old _ _ ho,hd⟩
  ·show aI H2 s2.heap.objs.size (.dK []) hp2.objs.size=none
   rw [av (Ne.symm hDC)]
   exact I2.hok.fresh hCle
  ·obtain ⟨v,o,ho,hd⟩:=I2.cell x c (hsub _ _ e)
   exact upn c (Heap.lt_size ho) (I2.freeC x c (hsub _ _ e))
  ·have hp':p∈X.pn++pins:=by simpa [cV] using hp
   obtain ⟨e,n,ne,nf,d⟩:=I2.pin p hp'
   have hlt:=Heap.lt_size e
   refine ⟨old _ _ e,upn _ hlt n,(below _ hlt).1,fun z=>?_,d⟩
   rcases List.mem_cons.mp (I2.stkSub _ z) with z' | z'
   ·exact ne z'
   ·exact nf z'
  ·show (gO L src σ).length=N'.length
   unfold gO
   rw [List.length_append,List.length_replicate,List.length_map,ck.len]
 have eA:X'.A=X.A:=by subst hX;rfl
 have eP:X'.prog=X.prog:=by subst hX;rfl
 have eW:X'.w=X.w:=by subst hX;rfl
 have eK:X'.K=X.K:=by subst hX;rfl
 have ec:X'.calm=true:=by subst hX;exact hc
 have exe:X'.xe=fun _ _=>False:=by subst hX;rfl
 have eE:X'.env=compEnvC scope cl hp2.objs.size X.env:=by subst hX;rfl
 have hg':PG X' tg g:=by subst hX;exact hg _ _ _ _ _ _
 have hif':mV X' ifs tt:=by subst hX;exact hif _ _ _ _ _ _
 have hk':PE X' kx tk:=by subst hX;exact hk _ _ _ _ _ _
 have hv':PE X' vx tv:=by subst hX;exact hv _ _ _ _ _ _
 have aft:∀{H':Hp}{s':Shared},af X' [] (gO L src σ) H' s'→af X pins σ H' s'∧(∃m,s'.heap.Ns hp2.objs.size m)∧iT X pins H' hp2.objs.size:=by
  subst hX
  intro H' s' J
  refine ⟨I2.call' (ch:=fp) J.os J.base J.hok J.bare fun b hb=>⟨(f2 b hb).2.2.2.1,(f2 b hb).2.1,(f2 b hb).2.2.2.2.1,(f2 b hb).2.2.2.2.2⟩,?_,I2.fpOk hCle J.free⟩
  obtain ⟨m,hn,_⟩:=J.loc
  exact ⟨m,hn⟩
 have st1:tn 0 h₁:=T.keep _ _ _ st2 fun b hb o e=>old b o e
 have loop:∀s₃:Shared,s₃={ s2 with heap:=h₁,toks:=s2.toks+([]:List (Str×Value)).length }→
  codeAny (model X.prog X.w) X.A (.compLoop (.DictComp kx vx [⟨tg,iter,ifs,0⟩] scope pos) 0 (.ref it) (.ref s2.heap.objs.size) (compEnvC scope cl hp2.objs.size X.env))
   (RR (.ref s2.heap.objs.size) hp2.objs.size) s₃:=by
  rintro s₃ rfl
  refine uY (fun n s'=>jq fun i H' ys=>af X' [] (gO L src σ) H' s'∧tn i s'.heap∧(∀b∈fp,H' b=none)∧W i n H' ys) ?_ m0
   ⟨0,_,[],I1,st1,fun b hb=>(by rw [av (below b (fplt b hb)).2];exact (f2 b hb).1),w0⟩
  rintro n s3 ⟨i,H3,ys,I3,st3,fr3,w3⟩
  obtain ⟨hD,alt⟩:=turn i n H3 ys w3
  rcases alt with ⟨stop,qn⟩ | ⟨go,hlen,N,hN,step⟩
  ·have d:=T.done X' eP eW eK ec i [] s3 (gO L src σ) H3 (fun _ _=>False) I3 (stat fr3) st3 stop
   rw [eA] at d
   refine aR d fun r s4 ⟨hr,I4⟩=>?_
   subst hr
   obtain ⟨J,⟨m,hn⟩,fpC⟩:=aft I4
   exact hRR _ _ H3 .next s4 m J hn fpC qn
  ·have d:=T.item X' eP eW eK ec i [] s3 (gO L src σ) H3 (fun _ _=>False) I3 (stat fr3) st3 go
   rw [eA] at d
   refine aR d fun r s4 ⟨u,hr,h4⟩=>?_
   subst hr
   refine aR h4 fun _ s5 ⟨x,H5,I5,r5,y5,st5,fr5⟩=>?_
   have I5':=I5.pinned (stat fr5) (T.obj _ _ st5)
   have a1:=hg' _ s5 (gO L src σ) H5 x u _ I5' r5 (step x H5 y5)
   rw [eP,eW,eA,eE,exe] at a1
   refine aR a1 fun _ s6 ⟨σ6,H6,I6,bk,q6⟩=>?_
   have a2:=hif' _ s6 σ6 H6 _ I6 q6
   rw [eP,eW,eA,eE,exe] at a2
   refine aR a2 fun b s7 ⟨H7,I7,q7⟩=>?_
   have again:∀{H8:Hp}{s8:Shared}{ys':List (bp×V)},af X' ([]++nJ fp s5.heap) σ6 H8 s8→N H8 ys'→∃m,m<n∧jq fun i H' ys=>af X' [] (gO L src σ) H' s8∧tn i s8.heap∧(∀b∈fp,H' b=none)∧W i m H' ys:=fun {H8 s8 ys'} I8 n8=>by
    obtain ⟨m',hm,w8⟩:=hN H8 ys' n8
    refine ⟨m',hm,i+1,H8,ys',(I8.unpinned).weak bk.1.symm bk.2,T.keep _ _ _ st5 fun b hb o e=>(I8.pin (b,o) (List.mem_append_right _ (List.mem_append_right _ (ie hb e)))).1,fun b hb=>?_,w8⟩
    obtain ⟨o,e,d⟩:=T.obj _ _ st5 b hb
    exact (I8.pin (b,o) (List.mem_append_right _ (List.mem_append_right _ (ie hb e)))).2.1
   cases b with
   | false=>
    rw [if_neg Bool.false_ne_true] at q7 ⊢
    exact again I7 q7
   | true=>
    rw [if_pos rfl] at q7 ⊢
    have a3:=hk' _ s7 σ6 H7 _ I7 q7
    rw [eP,eW,eA,eE,exe] at a3
    refine aR a3 fun kv s8 ⟨yk,H8,I8,r8,k,ek,q8⟩=>?_
    subst ek
    have a4:=hv' _ s8 σ6 H8 _ I8 q8
    rw [eP,eW,eA,eE,exe] at a4
    refine aR a4 fun vv s9 ⟨y,H9,I9,r9,hD9,q9⟩=>?_
    obtain ⟨hz,hm,vs,rel,dd⟩:=(show bo X'.prog X'.w H9 s9.heap s2.heap.objs.size (.dK ys) from I9.hok _ _ hD9)
    rw [eP,eW] at dd
    refine wpAny_dictSet_pairs (knd:=cf X.prog X.w) (hsz:=by rw [←rel.length];exact hz) (jb r8) dd fun h' hd' sb=>?_
    have hd2:h'.DictOf (cf X'.prog X'.w) s2.heap.objs.size (stored vs k vv):=by rw [eP,eW];exact hd'
    exact again (I9.dset (t':=s9.toks+1) hD9 hm (ug hlen) (uc rel r9) hd2 sb) q9
 exact codeAny_compStart_dict (loop _ rfl) (T.self _ 0 _ _ _ st1 (loop _ rfl))
theorem Au (hc:X.calm=true) (ck:qq X.env.scope X.N scope N' L src=true) (hi:PI X tg iter wi) (hg:∀cl C s H ex pn,PG (cV X scope cl C N' s H ex pn) tg g) (hif:∀cl C s H ex pn,mV (cV X scope cl C N' s H ex pn) ifs tt)
 (hk:∀cl C s H ex pn,PE (cV X scope cl C N' s H ex pn) kx tk) (hv:∀cl C s H ex pn,PE (cV X scope cl C N' s H ex pn) vx tv) (hs:∀x,foldedSetIterable iter X.env x=pure x:=by intro _;rfl) :
 PE X (.DictComp kx vx [⟨tg,iter,ifs,0⟩] scope pos) (wm wi L src g tt tk tv):=by
 intro pins s σ H Q I h
 have ck:=tY ck
 obtain ⟨cl,hclos,hsub,hhas⟩:=qC (scope:=scope) (env:=X.env) fun y hy e=>I.ok.has y.1 (ck.free y hy e)
 rw [arm_eval_DictComp]
 refine wpAny_comprehension_free (use:=none) rfl hs hclos ck.kind ck.loc (ua hc ck I hsub hhas hi hg hif hk hv h (RR:=fun acc C=>compPost (model X.prog X.w) X.A X.xe none (EP X pins σ Q) acc C) ?_)
 intro D C H' f s' m J hn fpC q
 refine ⟨m,hn,fun h' hsb=>⟨.ref D,H',?_,rfl,q⟩⟩
 obtain ⟨f0,f1,f2,f3,f4,f5⟩:=fpC
 exact J.turned (t':=s'.toks) (fun b o hb e=>(hsb.2 b hb).trans e) f0 f1 f3 f4 f5
theorem wI {j:Nat}{y:Str}{py spos:Pos} (hN:X.N.Nodup) (hj:X.N[j]?=some y) (hy:X.env.scope.names.lookup y=some .local) (hsw:swapsWith (.DictComp kx vx [⟨tg,iter,ifs,0⟩] scope pos) (some (.Name y py)) spos.line X.env=pure true)
 (hc:X.calm=true) (ck:qq X.env.scope X.N scope N' L src=true) (hi:PI X tg iter wi) (hg:∀cl C s H ex pn,PG (cV X scope cl C N' s H ex pn) tg g) (hif:∀cl C s H ex pn,mV (cV X scope cl C N' s H ex pn) ifs tt)
 (hk:∀cl C s H ex pn,PE (cV X scope cl C N' s H ex pn) kx tk) (hv:∀cl C s H ex pn,PE (cV X scope cl C N' s H ex pn) vx tv) (hs:∀x,foldedSetIterable iter X.env x=pure x:=by intro _;rfl) :
 PS X (.Assign [.Name y py] (.DictComp kx vx [⟨tg,iter,ifs,0⟩] scope pos) spos) (tP (wm wi L src g tt tk tv) (qD j)):=by
 intro pins s σ H D I h
 have ck:=tY ck
 obtain ⟨cl,hclos,hsub,hhas⟩:=qC (scope:=scope) (env:=X.env) fun y hy e=>I.ok.has y.1 (ck.free y hy e)
 rw [exec_Assign_Name_used _ _ _ _ hsw]
 refine wpAny_bind (wpAny_standAt (wpAny_bind ?_))
 show wpAny _ X.A (do let _ ←comprehension (.DictComp kx vx [⟨tg,iter,ifs,0⟩] scope pos) scope X.env _ newDict false (eval iter X.env) (some (assign (.Name y py) X.env))) _ _ s
 refine wpAny_bind (wpAny_mono (wpAny_comprehension_free (use:=some (assign (.Name y py) X.env)) (Q:=fun _ s'=>SP X pins D .next s') rfl hs hclos ck.kind ck.loc
  (ua hc ck I hsub hhas hi hg hif hk hv h (RR:=fun acc C=>compPost (model X.prog X.w) X.A X.xe (some (assign (.Name y py) X.env)) (fun _ s'=>SP X pins D .next s') acc C) ?_)) (fun _ s' hq=>wpAny_pure (wpAny_pure hq)) fun _ _ e=>e)
 intro L' C H' f s' m J hn fpC q
 show wpAny _ X.A (assign (.Name y py) X.env (.ref L')) _ _ _
 refine wpAny_assign_Name (pZ J hN hj (.inl hy) (v:=.ref L') rfl (fun s2 J2 hsb=>?_) (.inr hy))
 obtain ⟨f0,f1,f2,f3,f4,f5⟩:=fpC
 obtain ⟨a,hsb,ha⟩:=hsb
 have hCa:C≠a:=by
  rcases ha with rfl | ha
  ·exact f1
  ·exact fun z=>f4 _ _ ha z.symm
 refine ⟨m,hn.sameBut hsb hCa,fun h' hsb'=>⟨_,H',?_,q⟩⟩
 exact J2.turned (t':=s2.toks) (fun b o hb e=>(hsb'.2 b hb).trans e) f0 f1 f3 f4 f5
end
end L2
namespace KM
theorem mul_le_l {a b c:Rat} (h:a≤b) (hc:0≤c):c*a≤c*b:=Rat.mul_le_mul_of_nonneg_left h hc
variable {ls:List (List Nat)}{es done:List Edge}{W u:List Nat→Rat}{S:List (List Nat)}{q:List Nat}{m:Rat}
end KM
namespace L2
open PySem PySem.Spec PyProof.Rows
section
variable {z:Nat}{E:Addr→Prop}{H H':Hp}{n m k:Nat}{v:V}{xs ys:List V}
end
section
variable {X:Cx}{K:PySem.W.Frag}
end
end L2
namespace L2
open PySem PySem.Spec PyProof.Rows
section
variable {X:Cx}
inductive Ad (x:V) (vs:List V) (H:Hp) (Q:VK):Prop
 | mk (l:Addr) (ks:List (List Nat)) (k:List Nat) (j:Nat) (h0:x=.ref l) (h1:vs=[aD k]) (h2:H l=some (.lst (ks.map aD))) (h3:ks.length≤10000) (h4:ks[j]?=some k) (h5:ks.Nodup) (h6:Q (.int (j:Int)) H)
def CG:V→List V→Hp→VK→Prop:=fun x vs H Q=>Ad  x vs H Q
theorem zM:vN X "list.index" CG:=by
 intro pins s σ H x vs v us Q I rx rv h
 obtain ⟨l,ks,k,j,rfl,rfl,hH,hz,hj,nd,q⟩:=h
 cases rx
 obtain ⟨u,rfl,ru⟩:=rv.one
 obtain ⟨t,rfl⟩:=ru
 obtain ⟨z,its,n,r,hl,e⟩:=I.lstM hH
 have hlen:ks.length=its.length:=by rw [←hl,List.length_map]
 have isI:∀(m:Nat) (w:Value),its[m]?=some w→bz fun i t'=>ks[m]?=some i∧w=.str (S i) t':=fun m w hw=>by
  obtain ⟨i,hi⟩:∃i,ks[m]?=some i:=⟨_,List.getElem?_eq_getElem (by rw [hlen];exact (List.getElem?_eq_some_iff.mp hw).1)⟩
  obtain ⟨w',hw',rw'⟩:=r.get (show (ks.map aD)[m]?=some (aD i) by rw [List.getElem?_map,hi];rfl)
  rw [hw] at hw'
  cases hw'
  obtain ⟨t',rfl⟩:=rw'
  exact ⟨i,t',hi,rfl⟩
 have hji:j<its.length:=by rw [←hlen];exact (List.getElem?_eq_some_iff.mp hj).1
 refine call_meets F.slot_list_index ⟨_,e,rfl⟩ F.entry_list_index (F.args_list_index_2 _ _)
  (MeetsSeq.list_index l its.toArray n (.str (S k) t) (fun y=>match y with | .str i _=>i==S k | _=>false) (fun y hy=>?_) j (by simpa using hji) (by trivial) ?_ (fun m hm hlt=>?_)) ⟨e,?_⟩
 ·obtain ⟨m,hm⟩:=List.getElem?_of_mem (by simpa using hy:y∈its)
  obtain ⟨i,t',_,rfl⟩:=isI m y hm
  exact eqGives_str (S i) (S k) t' t
 ·obtain ⟨i,t',e1,e2⟩:=isI j its[j] (List.getElem?_eq_getElem hji)
  rw [hj] at e1
  cases e1
  simp only [List.getElem_toArray,e2,beq_self_eq_true]
 ·have hm':m<its.length:=by simpa using hm
  obtain ⟨i,t',e1,e2⟩:=isI m its[m] (List.getElem?_eq_getElem hm')
  simp only [List.getElem_toArray,e2]
  apply beq_eq_false_iff_ne.mpr
  intro q
  have q':i=k:=qy q
  subst q'
  have a1:=List.getElem?_eq_some_iff.mp e1
  have a2:=List.getElem?_eq_some_iff.mp hj
  have:=uw nd a1.1 a2.1 (by rw [a1.2,a2.2])
  trivial
 ·exact ⟨.int (j:Int),H,I.tok _,⟨_,rfl⟩,q⟩
end
end L2
namespace L2
open PySem
theorem yH {a b c:Rat} (h:a<b) (k:b≤c):a<c:=by grind
theorem qm {a b c:Rat} (h:a≤b) (k:b<c):a<c:=by grind
theorem pS {p q:KM.Fra} (hp:1≤p.2) (hq:1≤q.2):KM.vl p≤KM.vl q↔p.1*q.2≤q.1*p.2:=by
 have e:KM.vl q - KM.vl p=Rat.divInt (q.1*p.2 - p.1*q.2) (q.2*p.2):=by
  unfold KM.vl
  rw [Rat.divInt_sub_divInt _ _ (by trivial) (by trivial)]
 have h:=Rat.divInt_nonneg_iff_of_pos_right (a:=q.1*p.2 - p.1*q.2) (b:=q.2*p.2) (Int.mul_pos (by trivial) (by trivial))
 rw [←e] at h
 constructor
 ·intro z
  have:=h.mp (by grind)
  trivial
 ·intro z
  have:=h.mpr (by trivial)
  grind
theorem iZ {p q:KM.Fra} (hp:1≤p.2) (hq:1≤q.2):KM.vl p<KM.vl q↔p.1*q.2<q.1*p.2:=by
 have:=pS hq hp
 constructor
 ·intro z
  have n:¬KM.vl q≤KM.vl p:=Rat.not_le.mpr z
  rw [this] at n
  trivial
 ·intro z
  apply Rat.not_le.mp
  rw [this]
  trivial
theorem fQ {p:KM.Fra} (h:1≤p.1) (k:1≤p.2):0<KM.vl p:=by
 have:=(iZ (p:=(0,1)) (q:=p) (by decide) k).mpr (by show 0*p.2<p.1*1;trivial)
 rw [KM.vl_zero] at this
 exact this
abbrev vS:=List Nat→KM.Fra
def jY (ω:vS) (b:List Nat) (v:KM.Fra):vS:=fun l=>if l=b then v else ω l
def fW (ω:vS) (t:ah):Bool:=decide (t.most≠(0,1)) && decide ((ω t.bg).1*(KM.lTim t.gain (ω t.en)).2<(KM.lTim t.gain (ω t.en)).1*(ω t.bg).2)
structure LS where
 ω:vS
 on:List Nat→Option Nat
 lf:Option (List Nat)
 la:List Nat→Nat
 tm:List Nat→Nat
 ct:Nat
def lC (p i:Nat) (t:ah) (s:LS):LS:=if fW s.ω t=true then ⟨jY s.ω t.bg (KM.lTim t.gain (s.ω t.en)),fun l=>if l=t.bg then some i else s.on l,some t.bg,fun l=>if l=t.bg then p else s.la l,fun l=>if l=t.bg then s.ct+1 else s.tm l,s.ct+1⟩ else s
def ix (p:Nat) (ts:List ah) (s:LS):Nat→LS
 | 0=>{ s with lf:=none }
 | i+1=>match ts[i]? with
  | some t=>lC p i t (ix p ts s i)
  | none=>ix p ts s i
theorem uA {p i:Nat}{ts:List ah}{s:LS}{t:ah} (h:ts[i]?=some t):ix p ts s (i+1)=lC p i t (ix p ts s i):=by
 rw [ix,h]
def jx (p:Nat) (ts:List ah) (s:LS):LS:=ix p ts s ts.length
def sw:LS:=⟨fun _=>(1,1),fun _=>none,none,fun _=>0,fun _=>0,0⟩
def bN (ts:List ah):Nat→LS
 | 0=>sw
 | k+1=>jx (k+1) ts (bN ts k)
theorem p7 {p i:Nat}{t:ah}{s:LS} (h:fW s.ω t=true):lC p i t s=⟨jY s.ω t.bg (KM.lTim t.gain (s.ω t.en)),fun l=>if l=t.bg then some i else s.on l,some t.bg,fun l=>if l=t.bg then p else s.la l,fun l=>if l=t.bg then s.ct+1 else s.tm l,s.ct+1⟩:=by
 unfold lC;rw [if_pos h]
theorem rR {p i:Nat}{t:ah}{s:LS} (h:fW s.ω t=false):lC p i t s=s:=by
 unfold lC;rw [if_neg (by rw [h];decide)]
theorem p6 {p:Nat}{ts:List ah}{s:LS}:∀{i:Nat},(ix p ts s i).lf=none→(ix p ts s i).ω=s.ω∧∀k t,k<i→ts[k]?=some t→fW s.ω t=false
 | 0,_=>⟨rfl,fun k t h=>by trivial⟩
 | i+1,h=>by
  cases e:ts[i]? with
  | none=>
   have e':ix p ts s (i+1)=ix p ts s i:=by rw [ix,e]
   rw [e'] at h ⊢
   obtain ⟨h1,h2⟩:=p6 h
   refine ⟨h1,fun k t hk et=>?_⟩
   by_cases c:k=i
   ·rw [c,e] at et;cases et
   ·exact h2 k t (by trivial) et
  | some t=>
   rw [uA e] at h ⊢
   cases q:fW (ix p ts s i).ω t with
   | true=>rw [p7 q] at h;cases h
   | false=>
    rw [rR q] at h ⊢
    obtain ⟨h1,h2⟩:=p6 h
    refine ⟨h1,fun k t' hk et=>?_⟩
    by_cases c:k=i
    ·rw [c,e] at et;cases et;rw [←h1];exact q
    ·exact h2 k t' (by trivial) et
theorem yF {p:Nat}{ts:List ah}{s:LS} (h:(jx p ts s).lf=none):(jx p ts s).ω=s.ω∧∀t∈ts,fW s.ω t=false:=by
 obtain ⟨h1,h2⟩:=p6 h
 refine ⟨h1,fun t ht=>?_⟩
 obtain ⟨k,hk⟩:=List.getElem?_of_mem ht
 exact h2 k t (List.getElem?_eq_some_iff.mp hk).1 hk
structure dR (ls:List (List Nat)) (t:ah):Prop where
 b:t.bg∈ls
 e:t.en∈ls
 ne:t.bg≠t.en
 g1:1≤t.gain.1
 g2:1≤t.gain.2
abbrev uW (s:LS) (l:List Nat):Rat:=KM.vl (s.ω l)
abbrev gR (t:ah):Rat:=KM.vl t.gain
structure BI (ls:List (List Nat)) (ts:List ah) (p i:Nat) (s:LS):Prop where
 pos:∀l∈ls,1≤(s.ω l).1∧1≤(s.ω l).2
 on:∀l k,s.on l=some k→∃t,ts[k]?=some t∧t.most≠(0,1)∧t.bg=l∧uW s l≤gR t*uW s t.en∧(s.tm l≤s.tm t.en→uW s l<gR t*uW s t.en)∧s.la l≤s.la t.en+1
 la1:∀l,1≤s.la l→s.on l≠none
 up:∀k t,ts[k]?=some t→t.most≠(0,1)→gR t*uW s t.en≤uW s t.bg∨(if k<i then p else p - 1)≤s.la t.en
 lap:∀l,s.la l≤p
 tmc:∀l,s.tm l≤s.ct
 lf:∀b,s.lf=some b→s.la b=p∧b∈ls
theorem vG {ls:List (List Nat)}{t:ah}{ω:vS} (c:dR ls t) (pos:∀l∈ls,1≤(ω l).1∧1≤(ω l).2):KM.vl (KM.lTim t.gain (ω t.en))=KM.vl t.gain*KM.vl (ω t.en)∧1≤(KM.lTim t.gain (ω t.en)).2∧1≤(KM.lTim t.gain (ω t.en)).1:=by
 obtain ⟨p1,p2⟩:=pos t.en c.e
 have g2:=c.g2
 exact ⟨KM.vl_tim (by trivial) (by trivial),(KM.low_spec _ _ (Int.mul_ne_zero (by trivial) (by trivial))).1,tU c.g1 c.g2 p1 p2⟩
theorem zL {ls:List (List Nat)}{t:ah}{ω:vS} (c:dR ls t) (pos:∀l∈ls,1≤(ω l).1∧1≤(ω l).2):fW ω t=true↔(t.most≠(0,1)∧KM.vl (ω t.bg)<KM.vl t.gain*KM.vl (ω t.en)):=by
 obtain ⟨e1,e2,e3⟩:=vG c pos
 unfold fW
 rw [Bool.and_eq_true,decide_eq_true_iff,decide_eq_true_iff,←e1,iZ (pos t.bg c.b).2 e2]
theorem BI.step {ls:List (List Nat)}{ts:List ah}{p i:Nat}{s:LS}{t:ah} (hp:1≤p) (c:dR ls t) (et:ts[i]?=some t) (tc:∀t∈ts,dR ls t) (h:BI ls ts p i s):BI ls ts p (i+1) (lC p i t s):=by
 have hlt:=zL c h.pos
 cases q:fW s.ω t with
 | false=>
  rw [rR q]
  refine ⟨h.pos,h.on,h.la1,fun k t' ek ho=>?_,h.lap,h.tmc,h.lf⟩
  by_cases ck:k=i
  ·subst ck
   rw [et] at ek
   cases ek
   left
   rw [q] at hlt
   have:¬(KM.vl (s.ω t.bg)<KM.vl t.gain*KM.vl (s.ω t.en)):=fun z=>by
    have:=hlt.mpr ⟨ho,z⟩
    cases this
   exact Rat.not_lt.mp this
  ·rcases h.up k t' ek ho with z | z
   ·exact .inl z
   ·right
    by_cases ck2:k<i
    ·rw [if_pos (by trivial)];rw [if_pos ck2] at z;exact z
    ·rw [if_neg (by trivial)];rw [if_neg ck2] at z;exact z
 | true=>
  rw [q] at hlt
  obtain ⟨ho,hl⟩:=hlt.mp rfl
  obtain ⟨e1,e2,e3⟩:=vG c h.pos
  rw [p7 q]
  have ub:∀l,l=t.bg→uW ⟨jY s.ω t.bg (KM.lTim t.gain (s.ω t.en)),fun l=>if l=t.bg then some i else s.on l,some t.bg,fun l=>if l=t.bg then p else s.la l,fun l=>if l=t.bg then s.ct+1 else s.tm l,s.ct+1⟩ l=gR t*uW s t.en:=fun l e=>by
   show KM.vl (jY _ _ _ l)=_
   unfold jY
   rw [if_pos e]
   exact e1
  have un:∀l,l≠t.bg→uW ⟨jY s.ω t.bg (KM.lTim t.gain (s.ω t.en)),fun l=>if l=t.bg then some i else s.on l,some t.bg,fun l=>if l=t.bg then p else s.la l,fun l=>if l=t.bg then s.ct+1 else s.tm l,s.ct+1⟩ l=uW s l:=fun l e=>by
   show KM.vl (jY _ _ _ l)=_
   unfold jY
   rw [if_neg e]
  generalize es:(⟨jY s.ω t.bg (KM.lTim t.gain (s.ω t.en)),fun l=>if l=t.bg then some i else s.on l,some t.bg,fun l=>if l=t.bg then p else s.la l,fun l=>if l=t.bg then s.ct+1 else s.tm l,s.ct+1⟩:LS)=s' at ub un ⊢
  have a1:s'.ω=jY s.ω t.bg (KM.lTim t.gain (s.ω t.en)):=by rw [←es]
  have a2:∀l,s'.on l=if l=t.bg then some i else s.on l:=fun l=>by rw [←es]
  have a3:∀l,s'.la l=if l=t.bg then p else s.la l:=fun l=>by rw [←es]
  have a4:∀l,s'.tm l=if l=t.bg then s.ct+1 else s.tm l:=fun l=>by rw [←es]
  have a5:s'.ct=s.ct+1:=by rw [←es]
  have a6:s'.lf=some t.bg:=by rw [←es]
  have mono:∀l,uW s l≤uW s' l:=fun l=>by
   by_cases cl:l=t.bg
   ·rw [ub l cl,cl];exact Rat.le_of_lt hl
   ·rw [un l cl];exact Rat.le_refl
  have lamono:∀l,s.la l≤s'.la l:=fun l=>by
   rw [a3]
   by_cases cl:l=t.bg
   ·rw [if_pos cl];exact h.lap l
   ·rw [if_neg cl];exact Nat.le_refl _
  have gpos:∀{t:ah},t∈ts→0<gR t:=fun {t} ht=>fQ (tc t ht).g1 (tc t ht).g2
  refine ⟨fun l hl'=>?_,fun l k hk=>?_,fun l h1=>?_,fun k t' ek ho'=>?_,fun l=>?_,fun l=>?_,fun b hb=>?_⟩
  ·rw [a1]
   unfold jY
   by_cases cl:l=t.bg
   ·rw [if_pos cl];exact ⟨e3,e2⟩
   ·rw [if_neg cl];exact h.pos l hl'
  ·rw [a2] at hk
   by_cases cl:l=t.bg
   ·rw [if_pos cl] at hk
    cases hk
    have ne:t.en≠t.bg:=fun z=>c.ne z.symm
    refine ⟨t,et,ho,cl.symm,?_,fun z=>?_,?_⟩
    ·rw [ub l cl,un t.en ne];exact Rat.le_refl
    ·rw [a4,a4,if_pos cl,if_neg ne] at z
     have:=h.tmc t.en
     trivial
    ·rw [a3,a3,if_pos cl,if_neg ne]
     rcases h.up i t et ho with z | z
     ·exact absurd hl (Rat.not_lt.mpr z)
     ·rw [if_neg (Nat.lt_irrefl _)] at z
      trivial
   ·rw [if_neg cl] at hk
    obtain ⟨t',e',o',b',l',s',r'⟩:=h.on l k hk
    have gp:=gpos (List.mem_of_getElem? e')
    have hm:=KM.mul_le_l (mono t'.en) (Rat.le_of_lt gp)
    refine ⟨t',e',o',b',?_,fun z=>?_,?_⟩
    ·rw [un l cl];exact Rat.le_trans l' hm
    ·rw [un l cl]
     rw [a4,a4,if_neg cl] at z
     by_cases ce:t'.en=t.bg
     ·rw [ub t'.en ce]
      have:uW s t'.en<gR t*uW s t.en:=by rw [ce];exact hl
      have h2:=Rat.mul_lt_mul_of_pos_left this gp
      exact qm l' h2
     ·rw [un t'.en ce]
      rw [if_neg ce] at z
      exact s' z
    ·rw [a3 l,if_neg cl]
     exact Nat.le_trans r' (Nat.add_le_add_right (lamono _) 1)
  ·rw [a2]
   by_cases cl:l=t.bg
   ·rw [if_pos cl];intro z;cases z
   ·rw [if_neg cl]
    rw [a3,if_neg cl] at h1
    exact h.la1 l h1
  ·by_cases ck:k=i
   ·subst ck
    rw [et] at ek
    cases ek
    left
    rw [ub t.bg rfl,un t.en (fun z=>c.ne z.symm)]
    exact Rat.le_refl
   ·by_cases ce:t'.en=t.bg
    ·right
     rw [a3,if_pos ce]
     split <;> trivial
    ·rcases h.up k t' ek ho' with z | z
     ·left
      rw [un t'.en ce]
      exact Rat.le_trans z (mono _)
     ·right
      rw [a3,if_neg ce]
      by_cases ck2:k<i
      ·rw [if_pos (by trivial)];rw [if_pos ck2] at z;exact z
      ·rw [if_neg (by trivial)];rw [if_neg ck2] at z;exact z
  ·rw [a3]
   by_cases cl:l=t.bg
   ·rw [if_pos cl];exact Nat.le_refl _
   ·rw [if_neg cl];exact h.lap l
  ·rw [a4,a5]
   by_cases cl:l=t.bg
   ·rw [if_pos cl];exact Nat.le_refl _
   ·rw [if_neg cl];have:=h.tmc l;trivial
  ·rw [a6] at hb
   cases hb
   exact ⟨by rw [a3,if_pos rfl],c.b⟩
theorem BI.all {ls:List (List Nat)}{ts:List ah} (tc:∀t∈ts,dR ls t) (p:Nat):∀i,i≤ts.length→BI ls ts p ts.length (bN ts p)→BI ls ts (p+1) i (ix (p+1) ts (bN ts p) i)
 | 0,_,h=>⟨h.pos,h.on,h.la1,fun k t e o=>by
  rcases h.up k t e o with z | z
  ·exact .inl z
  ·right
   rw [if_pos (List.getElem?_eq_some_iff.mp e).1] at z
   rw [if_neg (by trivial)]
   exact z,fun l=>by have:=h.lap l;exact Nat.le_succ_of_le this,h.tmc,fun b hb=>by cases hb⟩
 | i+1,hi,h=>by
  have ih:=BI.all tc p i (by trivial) h
  have e:ts[i]?=some ts[i]:=List.getElem?_eq_getElem (by trivial)
  rw [uA e]
  exact ih.step (by trivial) (tc _ (List.getElem_mem _)) e tc
theorem BI.st {ls:List (List Nat)}{ts:List ah} (tc:∀t∈ts,dR ls t):∀p,BI ls ts p ts.length (bN ts p)
 | 0=>⟨fun l _=>⟨by show (1:Int)≤1;decide,by show (1:Int)≤1;decide⟩,(fun l k h=>by cases h),(fun l h=>by exact absurd h (by show ¬1≤0;decide)),(fun k t e o=>.inr (by split <;> exact Nat.zero_le _)),fun l=>Nat.le_refl _,fun l=>Nat.le_refl _,fun b hb=>by cases hb⟩
 | p+1=>BI.all tc p _ (Nat.le_refl _) (BI.st tc p)
def bY (us:List ah):Rat:=(us.map gR).foldr (· * ·) 1
structure Ed (s:LS) (t:ah):Prop where
 g:0<gR t
 le:uW s t.bg≤gR t*uW s t.en
 lt:s.tm t.bg≤s.tm t.en→uW s t.bg<gR t*uW s t.en
theorem AT {s:LS}{c:List Nat}:∀{us:List ah}{a:List Nat},us.map (·.bg)++[c]=a :: us.map (·.en)→(∀t∈us,Ed s t)→us≠[]→uW s a≤bY us*uW s c∧(uW s a<bY us*uW s c∨s.tm c<s.tm a)
 | [],_,_,_,h=>absurd rfl h
 | t :: r,a,e,h,_=>by
  simp only [List.map_cons,List.cons_append,List.cons.injEq] at e
  obtain ⟨rfl,e⟩:=e
  have ht:=h t (List.mem_cons_self ..)
  have hr:=fun x hx=>h x (List.mem_cons_of_mem _ hx)
  have ep:bY (t :: r)=gR t*bY r:=rfl
  rw [ep]
  have g0:=Rat.le_of_lt ht.g
  cases r with
  | nil=>
   simp only [List.map_nil,List.nil_append,List.cons.injEq,and_true] at e
   subst e
   have e1:bY []=1:=rfl
   rw [e1,Rat.mul_one]
   refine ⟨ht.le,?_⟩
   by_cases z:s.tm t.bg≤s.tm t.en
   ·exact .inl (ht.lt z)
   ·exact .inr (by trivial)
  | cons t2 r2=>
   obtain ⟨h1,h2⟩:=AT e hr (by simp)
   have m1:=KM.mul_le_l h1 g0
   have ea:gR t*(bY (t2 :: r2)*uW s c)=gR t*bY (t2 :: r2)*uW s c:=(Rat.mul_assoc _ _ _).symm
   rw [ea] at m1
   refine ⟨Rat.le_trans ht.le m1,?_⟩
   by_cases z:s.tm t.bg≤s.tm t.en
   ·exact .inl (yH (ht.lt z) m1)
   ·rcases h2 with h2 | h2
    ·have m2:=Rat.mul_lt_mul_of_pos_left h2 ht.g
     rw [ea] at m2
     exact .inl (qm ht.le m2)
    ·exact .inr (by trivial)
structure iQ (ts:List ah) (R:List Nat) (us:List ah):Prop where
 at':R.map (fun k=>ts[k]?)=us.map some
 op:∀t∈us,t.most≠(0,1)
 two:2≤R.length
 nd:(us.map (·.bg)).Nodup
 rot:us.map (·.en)=(us.map (·.bg)).drop 1++(us.map (·.bg)).take 1
 gain:1<bY us
theorem DY {ls:List (List Nat)}{ts:List ah}{s:LS}{ks:List Nat}{us:List ah}{l0 c:List Nat}{j:Nat} (tc:∀t∈ts,dR ls t) (pos:∀l∈ls,1≤(s.ω l).1∧1≤(s.ω l).2)
 (h1:ks.map (fun k=>ts[k]?)=us.map some) (ho:∀t∈us,t.most≠(0,1)) (he:∀t∈us,Ed s t) (nd:(us.map (·.bg)).Nodup) (ch:us.map (·.bg)++[c]=l0 :: us.map (·.en)) (hj:(us.map (·.bg))[j]?=some c):iQ ts (ks.drop j) (us.drop j):=by
 have lj:j<us.length:=by have:=(List.getElem?_eq_some_iff.mp hj).1;rwa [List.length_map] at this
 have lk:ks.length=us.length:=by have:=congrArg List.length h1;simpa using this
 have memT:∀t∈us,t∈ts:=fun t ht=>by
  have:some t∈ks.map (fun k=>ts[k]?):=by rw [h1];exact List.mem_map_of_mem ht
  obtain ⟨k,_,hk⟩:=List.mem_map.mp this
  exact List.mem_of_getElem? hk
 have sub:∀t∈us.drop j,t∈us:=fun t ht=>List.mem_of_mem_drop ht
 have ch2:(us.drop j).map (·.bg)++[c]=c :: (us.drop j).map (·.en):=by
  have e:=congrArg (List.drop j) ch
  rw [List.drop_append_of_le_length (by rw [List.length_map];trivial)] at e
  rw [List.map_drop,e]
  cases j with
  | zero=>
   cases us with
   | nil=>simp at lj
   | cons t r=>
    simp at hj ch
    simp [←ch.1,hj]
  | succ m=>
   rw [List.drop_succ_cons,List.map_drop]
   have hm:m<(us.map (·.en)).length:=by rw [List.length_map];trivial
   rw [List.drop_eq_getElem_cons hm]
   have:(us.map (·.en))[m]?=some c:=by
    have e2:=congrArg (fun z=>z[m+1]?) ch
    simp only [List.getElem?_cons_succ] at e2
    rw [←e2,List.getElem?_append_left (by rw [List.length_map];exact lj)]
    exact hj
   rw [(List.getElem?_eq_some_iff.mp this).2]
 obtain ⟨t0,r0,e0⟩:bz fun t r=>us.drop j=t :: r:=by
  cases e:us.drop j with
  | nil=>have:=congrArg List.length e;simp at this;trivial
  | cons t r=>exact ⟨t,r,rfl⟩
 have al:=AT ch2 (fun t ht=>he t (sub t ht)) (by rw [e0];simp)
 have hc:c∈ls:=by
  obtain ⟨t,ht,rfl⟩:=List.mem_map.mp (List.mem_of_getElem? hj)
  exact (tc t (memT t ht)).b
 have up:0<uW s c:=fQ (pos c hc).1 (pos c hc).2
 have gain:1<bY (us.drop j):=by
  rcases al.2 with z | z
  ·apply Rat.not_le.mp
   intro w
   have:=Rat.mul_le_mul_of_nonneg_right w (Rat.le_of_lt up)
   rw [Rat.one_mul] at this
   exact absurd z (Rat.not_lt.mpr this)
  ·trivial
 have rot:(us.drop j).map (·.en)=((us.drop j).map (·.bg)).drop 1++((us.drop j).map (·.bg)).take 1:=by
  rw [e0] at ch2 ⊢
  simp only [List.map_cons,List.cons_append,List.cons.injEq] at ch2
  simp only [List.map_cons,List.drop_succ_cons,List.drop_zero,List.take_succ_cons,List.take_zero]
  rw [←ch2.2,ch2.1]
 refine ⟨by rw [List.map_drop,h1,List.map_drop],fun t ht=>ho t (sub t ht),?_,?_,rot,gain⟩
 ·rw [List.length_drop,lk]
  have:(us.drop j).length=us.length - j:=List.length_drop ..
  rw [←this]
  cases r0 with
  | nil=>
   rw [e0] at rot
   simp at rot
   exact absurd rot.symm (tc t0 (memT t0 (sub t0 (by rw [e0];simp)))).ne
  | cons t1 r1=>rw [e0];simp
 ·rw [List.map_drop]
  exact List.Sublist.nodup (List.drop_sublist _ _) nd
theorem uE {ls:List (List Nat)}{u:List Nat→Rat} (pos:∀l∈ls,0<u l) {c:List Nat}:∀{us:List ah}{a:List Nat},us.map (·.bg)++[c]=a :: us.map (·.en)→(∀t∈us,dR ls t∧gR t*u t.en≤u t.bg)→bY us*u c≤u a
 | [],a,e,_=>by
  simp at e
  rw [e]
  show (1:Rat)*u a≤u a
  rw [Rat.one_mul]
  exact Rat.le_refl
 | t :: r,a,e,h=>by
  simp only [List.map_cons,List.cons_append,List.cons.injEq] at e
  obtain ⟨rfl,e⟩:=e
  obtain ⟨ht,hh⟩:=h t (List.mem_cons_self ..)
  have ih:=uE pos e fun x hx=>h x (List.mem_cons_of_mem _ hx)
  have g0:0<gR t:=fQ ht.g1 ht.g2
  have m:=KM.mul_le_l ih (Rat.le_of_lt g0)
  have ea:gR t*(bY r*u c)=bY (t :: r)*u c:=(Rat.mul_assoc _ _ _).symm
  rw [ea] at m
  exact Rat.le_trans m hh
end L2
namespace L2
open PySem PySem.Spec PyProof.Rows
section
variable {prog:Program}{w:World}{A:Around}{E:Value→Shared→Prop}{hp:Heap}{gs:Array GenState}{dr:Drawn}{tk:Nat}{os:OsState}
variable {nm qn:Str}{C N:Addr}{bs bm bB:List Value}{hd:Bool}{sn:List Str}{sb:List Value}{ab:Bool}{cl:Option Bool}{dd:Option Addr}{k0 k1 k2 k3 k5:Option Value}{B nw ni:String}
theorem ym (FB:ExcBaseFacts B nw ni bB) (T:OwnTail hp bB bm) {mN:Str→Option Value}{us:List Value}{fI:Addr}{oI:Obj}{R:Fin→Shared→Prop}
 (eC:hp.get? C=some (excClassObj nm qn C N bs bm hd sn sb ab cl dd k0 k1 k2 k3 k5 nw)) (eN:hp.Ns N mN) (eI:mN "__init__" = some (.ref fI)) (ef:hp.get? fI=some oI) (ec:oI.cls=.type "function") (lu:us.length≤sizeLine)
 (go:∀h1 x,Heap.MadeExcOf hp h1 x (.ref C) us→wpAny (model prog w) A (call (.ref fI) (.ref x :: us)) (fun r s1=>r=.none∧R (.done (.ret (.ref x))) s1) E ⟨h1,gs,dr,tk,os⟩) :
 wpAny (model prog w) A (Builtin.«type.__call__» ⟨.ref C :: us,[]⟩) R E ⟨hp,gs,dr,tk,os⟩:=by
 repeat (first | with_reducible refine wpAny_madeBy_exc eC ?_ | with_reducible refine wpAny_loadPart_at eC ?_ | wp_step)
 refine codeAny_call_builtin_code (Code.quiet_builtin _ FB.quiet) (wpAny_check_new_subT FB T eC ?_)
 refine codeAny_exc_new_subT FB T eC ?_ lu
 show wpAny _ _ _ _ _ _
 have up:∀b o,hp.get? b=some o→((hp.push { cls:=.type "tuple",data:=.seq us.toArray }).push { cls:=.ref C,data:=.fields #[.ref hp.objs.size,.none,.none,.none,.bool false,.none] }).get? b=some o:=fun b o e=>Heap.get?_push_of_some _ (Heap.get?_push_of_some _ e)
 have at1:((hp.push { cls:=.type "tuple",data:=.seq us.toArray }).push { cls:=.ref C,data:=.fields #[.ref hp.objs.size,.none,.none,.none,.bool false,.none] }).get? (hp.objs.size+1)=some { cls:=.ref C,data:=.fields #[.ref hp.objs.size,.none,.none,.none,.bool false,.none] }:=by heap_get
 have me:Heap.MadeExcOf hp ((hp.push { cls:=.type "tuple",data:=.seq us.toArray }).push { cls:=.ref C,data:=.fields #[.ref hp.objs.size,.none,.none,.none,.bool false,.none] }) (hp.objs.size+1) (.ref C) us:=
  ⟨up,Heap.get?_none_of_le (Nat.le_succ _),hp.objs.size,at1,Heap.get?_none_of_le (Nat.le_refl _),Heap.get?_push_of_some _ (Heap.get?_push_at rfl rfl)⟩
 have cc:(Value.ref C :: bm).contains (.ref C)=true:=by simp
 have f1:=up _ _ ef
 unfold isInstance
 repeat (first | with_reducible refine wpAny_loadPart_at at1 ?_ | (with_reducible refine wpAny_isSubtype_exc (up _ _ eC) ?_;rw [cc]) | wp_step)
 show wpAny _ _ (typeLookup (.ref C) _) _ _ _
 refine wpAny_typeLookup_tail (up _ _ eC) (eN.keeps up) (T.keeps up) FB.mroIs FB.init.lookup ?_
 rw [eI]
 refine wpAny_holding (wpAny_bind ?_)
 unfold bindSpecial
 refine wpAny_bind (wpAny_typeOf (T := "function") ⟨_,f1,ec⟩ ?_)
 rw [if_pos (by decide)]
 refine wpAny_pure (wpAny_bind (wpAny_mono (go _ _ me) (fun r s1 hr=>?_) fun _ _ z=>z))
 obtain ⟨rfl,hR⟩:=hr
 wp_walk
 exact hR
theorem y4 (FB:ExcBaseFacts B nw ni bB) (T:OwnTail hp bB bm) {mN:Str→Option Value}{us:List Value}{fI:Addr}{oI:Obj}{R:Value→Shared→Prop}
 (eC:hp.get? C=some (excClassObj nm qn C N bs bm hd sn sb ab cl dd k0 k1 k2 k3 k5 nw)) (eN:hp.Ns N mN) (eI:mN "__init__" = some (.ref fI)) (ef:hp.get? fI=some oI) (ec:oI.cls=.type "function") (lu:us.length≤sizeLine)
 (go:∀h1 x,Heap.MadeExcOf hp h1 x (.ref C) us→wpAny (model prog w) (A.under (.builtin "type.__call__" ⟨.ref C :: us,[]⟩)) (call (.ref fI) (.ref x :: us)) (fun r s1=>r=.none∧R (.ref x) s1) E ⟨h1,gs,dr,tk,os⟩) :
 wpAny (model prog w) A (call (.ref C) us) R E ⟨hp,gs,dr,tk,os⟩:=by
 have l1:=tc_lookup
 have l2:=tc_bind (.ref C)
 have ty:(⟨hp,gs,dr,tk,os⟩:Shared).TypeIs (.ref C) "type" := ⟨_,eC,rfl⟩
 refine wpAny_call (codeAny_of_tree ?_)
 show wpAny _ _ (callAny (.ref C) _) _ _ _
 repeat (any_goals (first | assumption | with_reducible refine wpAny_loadPart_at eC ?_ | wp_step))
 exact ⟨rfl,codeAny_call_builtin_at (Code.quiet_builtin _ (by decide +kernel)) entry_typeCall (wpAny_check_type_call_sub eC (ym FB T eC eN eI ef ec lu fun h1 x m=>go h1 x m))⟩
end
end L2
namespace L2
open PySem PySem.Spec PyProof.Rows PySem.W
section
variable {prog:Program}{w:World}{A:Around}{E:Value→Shared→Prop}{s:Shared}{K:Frag}{x C:Addr}{ox:Obj}{od:Option Obj}{name:Str}{fill expr:Bool}
abbrev si (K:Frag) (C:Addr):Bool:=findIn K (.ref C) "__getattribute__" == some (some (.builtin "BaseException.__getattribute__")) && findIn K (.ref C) "__getattr__" == some none && mroIn K C (.type "BaseException")==some true
theorem xu {K:Frag}{C:Addr} (h:si K C=true):findIn K (.ref C) "__getattribute__" = some (some (.builtin "BaseException.__getattribute__"))∧findIn K (.ref C) "__getattr__" = some none∧mroIn K C (.type "BaseException")=some true:=by
 simp only [si,Bool.and_eq_true,beq_iff_eq] at h
 exact ⟨h.1.1,h.1.2,h.2⟩
theorem yS {tk:Tok}{R:Result→Shared→Prop}{f:Builtin.ObjectAttr.Found} (X:K.In s.heap) (I:InstAt s.heap x ox C od) (g:si K C=true) (hf:findObj K C od name=some f)
 (h:wpAny (model prog w) A.in1 (match f with | .value v=>ret v | .bind g a=>Builtin.ObjectAttr.bindTo g a (.ref x) (.ref C) | .missing=>unsupported "") (fun fin s'=>match fin with | .done (.ret v)=>R (.ok (.ret v)) s' | _=>False) (fun _ _=>False) s) (hm:f≠.missing) :
 codeAny (model prog w) A (.call (.builtin "BaseException.__getattribute__") ⟨[.ref x,.str name tk],[]⟩) R s:=by
 obtain ⟨g1,g2,g3⟩:=xu g
 have sub:Looks (model prog w) s.heap (isInstance (.ref x) (.type "BaseException")) true:=I.type.andThen (looks_mroIn X g3)
 refine codeAny_call_builtin PySem.F.attr_ValueError.ga.plain PySem.F.entry_bexc_ga (@check_slot (model prog w) _ _ s "BaseException.__getattribute__" "BaseException" "__getattribute__" (.ref x) [.str name tk] [] _ (by decide +kernel) (by decide +kernel) sub (PySem.F.args_bexc_ga _ _) ?_)
 have L1:=looks_find (M:=model prog w) X I hf
 have L0:=I.type (M:=model prog w)
 unfold Builtin.«object.__getattribute__»
 refine wpAny_bind (wpAny_pure (wpAny_bind (wpAny_pure (wpAny_bind (L0.here (wpAny_bind (L1.here ?_)))))))
 cases f with
 | missing=>exact absurd rfl hm
 | value v=>
  refine wpAny_mono h (fun fin s' z=>?_) fun _ _ z=>z.elim
  rcases fin with (_ | _ | _ | _) | _ <;> first | exact z | exact z.elim
 | bind g a=>
  refine wpAny_mono h (fun fin s' z=>?_) fun _ _ z=>z.elim
  rcases fin with (_ | _ | _ | _) | _ <;> first | exact z | exact z.elim
theorem CA {tk:Tok}{Q:Value→Shared→Prop}{f:Builtin.ObjectAttr.Found} (X:K.In s.heap) (I:InstAt s.heap x ox C od) (g:si K C=true) (hf:findObj K C od name=some f) (hm:f≠.missing)
 (h:wpAny (model prog w) A.in1 (match f with | .value v=>ret v | .bind g a=>Builtin.ObjectAttr.bindTo g a (.ref x) (.ref C) | .missing=>unsupported "") (fun fin s'=>match fin with | .done (.ret v)=>wpAny (model prog w) A (handedOut v) Q E s' | _=>False) (fun _ _=>False) s) :
 wpAny (model prog w) A (getAttrBy (.ref x) (.str name tk) fill expr) Q E s:=by
 obtain ⟨g1,g2,g3⟩:=xu g
 have L0:=I.type (M:=model prog w)
 have L1:=looks_findIn (M:=model prog w) X g1
 have L2:=looks_findIn (M:=model prog w) X g2
 unfold getAttrBy
 refine wpAny_holding (wpAny_bind (L0.here (wpAny_bind (L1.here ?_))))
 dsimp only
 rw [show (onTheHeap (Value.ref C) && Value.builtin "BaseException.__getattribute__" == Value.builtin "object.__getattribute__")=false from by rw [show (Value.builtin "BaseException.__getattribute__" == Value.builtin "object.__getattribute__")=false from by decide +kernel,Bool.and_false],if_neg (by decide)]
 unfold getAttrByItsOwn hookBefore
 rw [if_pos (show onTheHeap (Value.ref C)=true from rfl)]
 refine wpAny_bind (L2.here (wpAny_bind (wpAny_attempt (wpAny_holding ?_))))
 unfold callGetattribute
 rw [show (expr && onTheHeap (Value.builtin "BaseException.__getattribute__"))=false by cases expr <;> rfl,if_neg (by decide)]
 unfold boundAndCalled
 rw [PySem.F.attr_ValueError.ga.bind]
 refine wpAny_bind (wpAny_pure (wpAny_call (yS X I g hf (wpAny_mono h (fun fin s' z=>?_) fun _ _ z=>z) hm)))
 rcases fin with (_ | _ | _ | _) | _ <;> first | exact z | exact z.elim
theorem Ft {v:Value}{Q:Value→Shared→Prop} (X:K.In s.heap) (I:InstAt s.heap x ox C od) (g:si K C=true) (hf:findObj K C od name=some (.value v)) (hh:handedIn v=true) (h:Q v { s with toks:=s.toks+1 }) :
 wpAny (model prog w) A (getAttr (.ref x) name expr) Q E s:=by
 unfold getAttr
 refine wpAny_bind (wpAny_mkText (CA (s:={ s with toks:=s.toks+1 }) X I g hf (fun z=>nomatch z) (wpAny_pure ?_)))
 show wpAny _ _ (handedOut v) _ _ _
 rw [handedOut_of hh]
 exact wpAny_pure h
abbrev GO (K:Frag) (C:Addr):Bool:=si K C && (clsIn K C).isSome && findIn K (.ref C) "__class__" == some (some (.builtin "object.__class__")) && specialIn K (.builtin "object.__class__") "__get__" == some (some (.builtin "getset_descriptor.__get__")) && takesIn K (.builtin "object.__class__")==some true && mroIn K C (.type "object")==some true
end
end L2
namespace L2
open PySem PySem.Spec PyProof.Rows PySem.W PySem.Builtin.ObjectAttr
def qo:List Value→Bool
 | .ref _ :: r=>qo r
 | l=>l==[.type "ValueError",.type "Exception",.type "BaseException",.type "object"]
theorem fU (self:Value):refuseLoop self "__setattr__" [.type "ValueError",.type "Exception",.type "BaseException",.type "object"]=pure ():=by kernel_rfl
theorem sv (self:Value):∀{l:List Value},qo l=true→refuseLoop self "__setattr__" l=pure ()
 | .ref c :: r,e=>by rw [refuseLoop_ref];exact sv self e
 | [],e=>by cases beq_iff_eq.mp (show (([]:List Value)==_)=true from e)
 | .none :: r,e=>by rw [beq_iff_eq.mp (show (_==_)=true from e)];exact fU self
 | .bool _ :: r,e=>by rw [beq_iff_eq.mp (show (_==_)=true from e)];exact fU self
 | .int _ _ :: r,e=>by rw [beq_iff_eq.mp (show (_==_)=true from e)];exact fU self
 | .float _ _ :: r,e=>by rw [beq_iff_eq.mp (show (_==_)=true from e)];exact fU self
 | .str _ _ :: r,e=>by rw [beq_iff_eq.mp (show (_==_)=true from e)];exact fU self
 | .bytes _ _ :: r,e=>by rw [beq_iff_eq.mp (show (_==_)=true from e)];exact fU self
 | .type _ :: r,e=>by rw [beq_iff_eq.mp (show (_==_)=true from e)];exact fU self
 | .builtin _ :: r,e=>by rw [beq_iff_eq.mp (show (_==_)=true from e)];exact fU self
abbrev qa (K:Frag) (C:Addr) (name:Str):Bool:=(clsIn K C).any (fun cd=>qo cd.mro && cd.hasDict) && findIn K (.ref C) "__setattr__" == some (some (.builtin "object.__setattr__")) && takerIn K C name==some none && mroIn K C (.type "object")==some true
theorem zu {h:Heap}{a:Addr}{name:Str}{v:Value} (n:h.Ns1 a fun y=>if y=name then some v else none):∃o,h.get? a=some o∧o.data.pastItsLine=none:=by
 obtain ⟨o,es,ep,e,d,sk,uq,f⟩:=n
 refine ⟨o,e,?_⟩
 rw [d]
 refine pastItsLine_dict ?_
 have key:∀x∈es,∃t,x.key=.str name t:=fun x hx=>by
  obtain ⟨m,t,hm⟩:=sk x hx
  have q:=f m
  by_cases c:m=name
  ·exact ⟨t,by rw [hm,c]⟩
  ·dsimp only at q
   rw [if_neg c] at q
   simp only [nsFind,findBy,Option.map_eq_none_iff,Array.find?_eq_none] at q
   have:=q x hx
   rw [hm] at this
   simp [Value.isStr] at this
 have small:es.toList.length≤1:=by
  unfold UniqKeys at uq
  cases el:es.toList with
  | nil=>simp
  | cons x r=>
   cases r with
   | nil=>simp
   | cons y r=>
    rw [el] at uq
    obtain ⟨t1,k1⟩:=key x (Array.mem_toList_iff.mp (by rw [el];simp))
    obtain ⟨t2,k2⟩:=key y (Array.mem_toList_iff.mp (by rw [el];simp))
    exfalso
    exact (List.pairwise_cons.mp uq).1 y (by simp) name (by rw [k1];simp [Value.isStr]) (by rw [k2];simp [Value.isStr])
 rw [Array.length_toList] at small
 rw [sizeLine_eq]
 trivial
section
variable {prog:Program}{w:World}{A:Around}{E:Value→Shared→Prop}{s:Shared}{K:Frag}{x C:Addr}{ox:Obj}{name:Str}{v:Value}
abbrev qt:Obj:={ cls:=.type "dict",data:=.dict #[] }
theorem F7 {tk:Tok}{R:Result→Shared→Prop} (X:K.In s.heap) (I:InstAt s.heap x ox C none) {vs:Array Value} (hf:ox.data=.fields vs) (g:qa K C name=true)
 (h:∀h' tk',h'.Ns1 s.heap.objs.size (fun y=>if y=name then some v else none)→h'.get? x=some { ox with dict:=some s.heap.objs.size }→(∀b o,b≠x→s.heap.get? b=some o→h'.get? b=some o)→R (.ok (.ret .none)) { s with heap:=h',toks:=tk' }) :
 codeAny (model prog w) A (.call (.builtin "object.__setattr__") ⟨[.ref x,.str name tk,v],[]⟩) R s:=by
 have SF:=PySem.F.store_object
 unfold qa at g
 simp only [Bool.and_eq_true,beq_iff_eq] at g
 obtain ⟨⟨⟨g1,g2⟩,g3⟩,g4⟩:=g
 obtain ⟨cd,hc,hp⟩:=any_some g1
 rw [Bool.and_eq_true] at hp
 have sub:Looks (model prog w) s.heap (isInstance (.ref x) (.type "object")) true:=I.type.andThen (looks_mroIn X g4)
 refine codeAny_call_builtin SF.slot.plain SF.entry (@check_slot (model prog w) _ _ s "object.__setattr__" "object" "__setattr__" (.ref x) [.str name tk,v] [] _ SF.kind SF.split sub (SF.args (.ref x) (.str name tk) v) ?_)
 obtain ⟨attr,ha,hr⟩:=Option.bind_eq_some_iff.mp g3
 have lm:Looks (model prog w) s.heap (mroOf (.ref C)) cd.mro:=(looks_clsIn X hc).andThen .now
 have lt:Looks (model prog w) s.heap (storeTaker? attr) none:=by
  cases attr with
  | none=>exact .now
  | some a=>
   obtain ⟨b,hb,e⟩:=Option.map_eq_some_iff.mp hr
   refine (looks_takesIn X hb).andThen ?_
   cases b with
   | true=>cases e
   | false=>exact .now
 rw [osa_eq,refuse_eq]
 refine wpAny_bind (wpAny_bind (I.type.here (wpAny_bind (lm.here ?_))))
 rw [sv _ hp.1]
 refine wpAny_pure (wpAny_bind (I.type.here (wpAny_bind ((looks_findIn X ha).here (wpAny_bind (lt.here ?_))))))
 obtain ⟨hx,hcl,hn,hd⟩:=I
 obtain ⟨oc,odi,oda,osl⟩:=ox
 dsimp only at hcl hd hn hf
 subst hcl hf
 have e0:odi=none:=by
  cases odi with
  | none=>rfl
  | some d=>exact hd.elim
 subst e0
 refine wpAny_bind (wpAny_pure (wpAny_bind (wpAny_bind (wpAny_loadPart hx (wpAny_bind ((looks_clsIn X hc).here ?_))))))
 rw [hp.2,if_neg (by decide)]
 show wpAny _ _ (alloc qt >>= fun d=>update x (fun o=>{ o with dict:=some d }) >>= fun _=>dictMade (.ref C) x d) _ _ _
 refine wpAny_bind (wpAny_alloc (wpAny_bind ?_))
 have lx:x<s.heap.objs.size:=Heap.lt_size hx
 have hx1:(s.heap.push qt).get? x=some ⟨.ref C,none,.fields vs,osl⟩:=Heap.get?_push_of_some _ hx
 have nd:s.heap.objs.size≠x:=Nat.ne_of_gt lx
 have hd1:((s.heap.push qt).update x fun o=>{ o with dict:=some s.heap.objs.size }).get? s.heap.objs.size=some qt:=by
  rw [Heap.get?_update_other _ _ (Ne.symm nd)]
  exact Heap.get?_push_size _ rfl
 refine wpAny_update hx1 ?_
 refine wpAny_pure ?_
 show wpAny _ _ (storeInDict s.heap.objs.size (.str name tk) name v) _ _ _
 have n0:((s.heap.push qt).update x fun o=>{ o with dict:=some s.heap.objs.size }).Ns1 s.heap.objs.size (fun _=>none):=Heap.Ns1.of_empty ⟨qt,#[],_,hd1,rfl,(fun e he=>absurd he (by simp)),fun _=>rfl⟩
 unfold storeInDict
 refine wpAny_bind (wpAny_pure (wpAny_bind (wpAny_nsSet1 n0 fun h2 n2 sb=>wpAny_bind ?_)))
 obtain ⟨o2,e2,p2⟩:=zu n2
 refine wpAny_lookBehind e2 p2 (wpAny_pure ?_)
 refine h h2 _ n2 ?_ fun b o nb hb=>?_
 ·rw [sb.2 x (Ne.symm nd)]
  exact Heap.get?_update_self _ hx1 rfl
 ·rw [sb.2 b (Nat.ne_of_lt (Heap.lt_size hb)),Heap.get?_update_other _ _ (Ne.symm nb)]
  exact Heap.get?_push_of_some _ hb
theorem Fv {Q:Unit→Shared→Prop} (X:K.In s.heap) (I:InstAt s.heap x ox C none) {vs:Array Value} (hf:ox.data=.fields vs) (g:qa K C name=true)
 (h:∀h' tk',h'.Ns1 s.heap.objs.size (fun y=>if y=name then some v else none)→h'.get? x=some { ox with dict:=some s.heap.objs.size }→(∀b o,b≠x→s.heap.get? b=some o→h'.get? b=some o)→Q () { s with heap:=h',toks:=tk' }) :
 wpAny (model prog w) A (setAttr (.ref x) name v) Q E s:=by
 have g2:findIn K (.ref C) "__setattr__" = some (some (.builtin "object.__setattr__")):=by
  unfold qa at g
  simp only [Bool.and_eq_true,beq_iff_eq] at g
  exact g.1.1.2
 exact set_plain X I g2 (F7 (s:={ s with toks:=s.toks+1 }) X I hf g fun h' tk' a b c=>h h' tk' a b c)
end
end L2
namespace L2
open PySem PySem.Spec PyProof.Rows PySem.W PySem.Builtin.ObjectAttr
abbrev A4:List Value:=[.type "ValueError",.type "Exception",.type "BaseException",.type "object"]
def Ab (d:Data):Option ClassData:=match d with
 | .cls cd=>some cd
 | _=>none
theorem BX {d:Data}{cd:ClassData} (h:Ab d=some cd):d=.cls cd:=by
 cases d with
 | cls c=>cases h;rfl
 | _=>cases h
theorem Dh {α:Type}{ls:List α} (h:ls.length=6):D9 fun a b c d e f=>ls=[a,b,c,d,e,f]:=by
 match ls,h with
 | [a,b,c,d,e,f],_=>exact ⟨a,b,c,d,e,f,rfl⟩
theorem Ej {α:Type}{sl:Array α}{x:α} (h:sl.size=6) (k:sl[4]?=some x):Bh fun a b c d f=>sl=#[a,b,c,d,x,f]:=by
 obtain ⟨l⟩:=sl
 obtain ⟨a,b,c,d,e,f,rfl⟩:=Dh (show l.length=6 from h)
 obtain rfl:e=x:=Option.some.inj k
 exact ⟨a,b,c,d,f,rfl⟩
def nt (K:Frag) (C:Addr) (ini:Option Value):Bool:=match K.lookup C with
 | none=>false
 | some o=>match Ab o.data with
  | none=>false
  | some cd=>(o.cls==.type "type") && ((cd.mro.head?==some (.ref C)) && (!cd.hasDel && (tailIn K A4 cd.mro.tail && (nsOkIn K cd.ns && (nsIn K cd.ns "__init__" == some ini && (o.slots.size==6 && o.slots[4]?==some (some (.builtin "ValueError.__new__"))))))))
theorem D5 {K:Frag}{h:Heap}{N:Addr}{mp:Str→Option Value}{n:Str}{v:Value} (X:K.In h) (G:h.Ns N mp) (e:nsIn K N n=some (some v)):mp n=some v:=by
 obtain ⟨ob,es,ep,ho,hd,_,f⟩:=G
 unfold nsIn at e
 split at e
 ·rename_i q
  have z:=X _ _ q
  rw [ho] at z
  cases z
  cases hd
  split at e
  ·rename_i he
   cases e
   rw [←f]
   unfold nsFind findBy
   rw [←Array.find?_toList,he];rfl
  ·split at e <;> cases e
 ·cases e
theorem xI {K:Frag}{h:Heap}{C:Addr}{ini:Option Value} (X:K.In h) (q:nt K C ini=true):∃nm qn N bs bm hd sn sb ab cl dd k0 k1 k2 k3 k5 mN,
 h.get? C=some (excClassObj nm qn C N bs bm hd sn sb ab cl dd k0 k1 k2 k3 k5 "ValueError.__new__")∧h.Ns N mN∧OwnTail h A4 bm∧mN "__init__" = ini:=by
 unfold nt at q
 cases ho:K.lookup C with
 | none=>rw [ho] at q;cases q
 | some o=>
  rw [ho] at q
  dsimp only at q
  cases hc:Ab o.data with
  | none=>rw [hc] at q;cases q
  | some cd=>
   rw [hc] at q
   dsimp only at q
   rw [Bool.and_eq_true,Bool.and_eq_true,Bool.and_eq_true,Bool.and_eq_true,Bool.and_eq_true,Bool.and_eq_true,Bool.and_eq_true,beq_iff_eq,beq_iff_eq,beq_iff_eq,beq_iff_eq,beq_iff_eq,Bool.not_eq_true'] at q
   obtain ⟨q1,q2,dl,tl,ok,hi,z1,z2⟩:=q
   obtain ⟨k0,k1,k2,k3,k5,e6⟩:=Ej z1 z2
   have ed:=BX hc
   obtain ⟨oc,dd,od,sl⟩:=o
   dsimp only at q1 ed e6
   subst q1 ed e6
   obtain ⟨nm,bs,mro,ns,qn,hd,sn,sub,ab,col,del⟩:=cd
   dsimp only at q2 dl tl ok hi
   subst dl
   cases mro with
   | nil=>cases q2
   | cons m bm=>
    obtain rfl:m=.ref C:=Option.some.inj q2
    have nm1:h.Ns ns (h.nsMap ns):=.of_isNs (isNs_of_in X ok)
    refine ⟨nm,qn,ns,bs,bm,hd,sn,sub,ab,col,dd,k0,k1,k2,k3,k5,_,X _ _ ho,nm1,tail_of_in X tl,?_⟩
    cases ini with
    | none=>exact nsMap_none_of_in X ok hi
    | some v=>exact D5 X nm1 hi
section
variable {prog:Program}{w:World}{A:Around}{E:Value→Shared→Prop}{s:Shared}{K:Frag}{x C:Addr}{ox:Obj}{od:Option Obj}{a0:Value}
theorem DX {u:Value}{Q:Value→Shared→Prop}{ini:Option Value} (X:K.In s.heap) (I:InstAt s.heap x ox C od) (hf:ox.data=.fields #[a0,.none,.none,.none,.bool false,.none]) (hm:nt K C ini=true)
 (h:∀h',h'.get? x=some { ox with data:=.fields #[.ref s.heap.objs.size,.none,.none,.none,.bool false,.none] }→(∀b o,b≠x→s.heap.get? b=some o→h'.get? b=some o)→Q .none { s with heap:=h' }) :
 wpAny (model prog w) A (call (.builtin "ValueError.__init__") [.ref x,u]) Q E s:=by
 have FB:=PySem.F.excBase_ValueError
 obtain ⟨nm,qn,N,bs,bm,hd,sn,sb,ab,cl,dd,k0,k1,k2,k3,k5,mN,eC,eN,T,_⟩:=xI X hm
 have hx:=I.at_
 have hc:=I.cls
 obtain ⟨oc,odi,oda,osl⟩:=ox
 dsimp only at hf hc hx
 subst hf hc
 obtain ⟨hp,gs,dr,tk,os⟩:=s
 dsimp only at eC eN T hx
 refine wpAny_call (codeAny_call_builtin FB.init.plain FB.initEntry (wpAny_check_init_subT FB T eC hx rfl ?_))
 have lx:x<hp.objs.size:=Heap.lt_size hx
 have hx1:(hp.push { cls:=.type "tuple",data:=.seq #[u] }).get? x=some ⟨.ref C,odi,.fields #[a0,.none,.none,.none,.bool false,.none],osl⟩:=Heap.get?_push_of_some _ hx
 unfold Builtin.«BaseException.__init__»
 refine wpAny_bind (wpAny_newTuple (wpAny_bind ?_))
 unfold Builtin.BaseException.bexcPut
 refine wpAny_bind (wpAny_field hx1 rfl rfl (wpAny_bind (wpAny_setField hx1 rfl (by show 0<6;decide) ?_)))
 have fin:wpAny (model prog w) A.in1 (ret .none) (fun fin s'=>match fin with | .done f=>(match Except.ok f with | Except.ok (Flow.ret v)=>Q v s' | Except.ok _=>False | Except.error e=>E e s') | .again c'=>False) (fun e s'=>E e s') ⟨(hp.push { cls:=.type "tuple",data:=.seq #[u] }).update x (Obj.mapFields (·.setIfInBounds 0 (.ref hp.objs.size))),gs,dr,tk,os⟩:=by
  refine wpAny_pure (h _ ?_ fun b o nb hb=>?_)
  ·exact Heap.get?_update_self _ hx1 rfl
  ·rw [Heap.get?_update_other _ _ (Ne.symm nb)]
   exact Heap.get?_push_of_some _ hb
 have fin2:=wpAny_mono fin (Q':=fun fin s'=>match fin with | .done f=>(match (Except.ok f:Result) with | Except.ok (Flow.ret v)=>Q v s' | Except.ok _=>False | Except.error e=>E e s') | .again c'=>c'.quiet=true∧codeAny (model prog w) A c' (fun r s'=>match r with | Except.ok (Flow.ret v)=>Q v s' | Except.ok _=>False | Except.error e=>E e s') s') (fun f s' z=>by
  cases f with
  | done f=>exact z
  | again c=>exact z.elim) fun _ _ z=>z
 split
 ·exact wpAny_letGo fin2
 ·exact wpAny_pure fin2
end
end L2
namespace L2
open PySem PySem.Spec PyProof.Rows
theorem bo.there {P:Program}{w:World}{H:Hp}{h:Heap}{a:Addr}{o:HO} (x:bo P w H h a o):∃u,h.get? a=some u:=by
 cases o with
 | lst xs=>obtain ⟨_,_,_,_,e⟩:=x;exact ⟨_,e⟩
 | tup xs=>obtain ⟨_,_,_,⟨_,e,_⟩,_⟩:=x;exact ⟨_,e⟩
 | dK kvs=>obtain ⟨_,_,_,_,o,_,_,e,_⟩:=x;exact ⟨_,e⟩
 | dT kvs=>obtain ⟨_,_,_,_,o,_,_,e,_⟩:=x;exact ⟨_,e⟩
 | set S n=>obtain ⟨o,_,_,_,e,_⟩:=x;exact ⟨_,e⟩
 | ins C dx fs=>obtain ⟨_,_,_,e,_⟩:=x;exact ⟨_,e⟩
 | own y=>obtain ⟨_,e⟩:=x;exact ⟨_,e⟩
 | xd fs=>obtain ⟨_,⟨_,_,_,e,_⟩,_⟩:=x;exact ⟨_,e⟩
 | rng lo hi=>obtain ⟨_,_,_,e⟩:=x;exact ⟨_,e⟩
 | frz ob u=>obtain ⟨e,_⟩:=x;exact ⟨_,e⟩
 | tbl ps=>exact ⟨_,show h.get? a=some _ from x⟩
 | met f y=>exact ⟨_,show h.get? a=some _ from x⟩
 | ext φ=>obtain ⟨_,e,_⟩:=x;exact e
theorem dJ.none' {P:Program}{w:World}{H:Hp}{h:Heap}{a:Addr} (x:dJ P w H h) (e:h.get? a=none):H a=none:=by
 cases q:H a with
 | none=>rfl
 | some u=>obtain ⟨o,z⟩:=(x a u q).there;rw [e] at z;cases z
section
variable {X:Cx}{pins:List (Addr×Obj)}{σ:St}{H:Hp}{s:Shared}{h':Heap}
theorem af.laidN {a:Addr}{o:HO}{t':Nat} (I:af X pins σ H s) (k:∀b u,s.heap.get? b=some u→h'.get? b=some u) (hn:s.heap.get? a=none) (new:bo X.prog X.w (aI H a o) h' a o) :
 af X pins σ (aI H a o) { s with heap:=h',toks:=t' }:=by
 have hH:=I.hok.none' hn
 have ne:∀{b:Addr}{u:HO},H b=some u→b≠a:=fun q z=>by rw [z,hH] at q;cases q
 refine I.un ⟨fun b u q _ _ _=>k b u q,fun b u q _ _ _=>⟨u.slots,k b u q⟩,fun b u q n _=>?_,fun b u q _=>⟨u,k b u q⟩,fun b xs q=>?_,fun b u xs q=>?_,fun b ps q=>⟨#[],?_⟩⟩ fun b u e=>?_
 ·rw [av (fun z=>by rw [z,hn] at q;cases q)];exact n
 ·rw [av (ne q)];exact q
 ·rw [av (ne q)];exact q
 ·rw [av (ne q),q];simp
 ·by_cases hb:b=a
  ·subst hb;rw [aC] at e;cases e;exact new
  ·rw [av hb] at e
   exact (I.hok b u e).stay (fun c v _ q=>k c v q) (fun c q=>by rw [av (ne q)];exact q) fun c xs q=>by rw [av (ne q)];exact q
end
def tG (x C:Addr) (dx:Option Addr) (h:Heap):Prop:=bz fun a0 sl=>h.get? x=some ⟨.ref C,dx,.fields #[a0,.none,.none,.none,.bool false,.none],sl⟩
def fZ (x C:Addr) (dx:Option Addr):HO:=.ext (tG x C dx)
theorem xm {P:Program}{w:World}{H:Hp}{h:Heap}{x C:Addr}{dx:Option Addr} (e:tG x C dx h):bo P w H h x (fZ x C dx):=
 ⟨e,let ⟨_,_,q⟩:=e;⟨_,q⟩,fun h1 h2 ⟨a0,sl,q⟩ k=>⟨a0,sl,k _ q⟩⟩
theorem qu {P:Program}{w:World}{H:Hp}{h:Heap}{x C:Addr}{dx:Option Addr} (ok:dJ P w H h) (e:H x=some (fZ x C dx)):tG x C dx h:=(ok x _ e).1
section
variable {X:Cx}{C f:Addr}{x:Str}{p pos:Pos}{e:Expr}{es:List Expr}{t:TA}{k:Nat}{fd:FuncData}{ps:List Str}{sp:Sp}{E:XK}
def FE (C:Addr) (sp:Sp) (t:TA):TE:=fun σ H Q=>t σ H fun vs H1=>vs.length≤10000∧∀y H',Nw H1 y (fZ y C none) H'→sp (.ref y :: vs) H' (fun v H2=>v=.non∧Q (.ref y) H2) E0
theorem Eh {K:PySem.W.Frag}{h:Heap}{f:Addr} (KX:K.In h) (q:PySem.W.isFn K (.ref f)=true):∃o,h.get? f=some o∧o.cls=.type "function" := by
 unfold PySem.W.isFn at q
 rw [beq_iff_eq] at q
 unfold PySem.W.typeIn at q
 obtain ⟨o,e,z⟩:=Option.map_eq_some_iff.mp q
 exact ⟨o,KX _ _ e,z⟩
theorem AI {pins:List (Addr×Obj)}{σ:St}{H:Hp}{s:Shared}{Q:VK}{us:List Value}{vs:List V} (q:nt X.K C (some (.ref f))=true) (fn:PySem.W.isFn X.K (.ref f)=true) (F:bv X.prog X.w X.K X.mg X.base CX0 k f fd ps sp) (hr:dC (k+1) X.A) (hb:kc X.K fd ps [])
 (I:af X pins σ H s) (r:aH vs us) (hl:vs.length≤10000) (h:∀y H',Nw H y (fZ y C none) H'→sp (.ref y :: vs) H' (fun v H2=>v=.non∧Q (.ref y) H2) E0):wpAny (model X.prog X.w) X.A (call (.ref C) us) (EP X pins σ Q) X.xe s:=by
 obtain ⟨nm,qn,N,bs,bm,hd,sn,sb,ab,cl,dd,k0,k1,k2,k3,k5,mN,eC,eN,T,eI⟩:=xI I.kIn q
 obtain ⟨oI,ef,ec⟩:=Eh I.kIn fn
 have FB:=PySem.F.excBase_ValueError
 obtain ⟨hp,gs,dr,tk,os⟩:=s
 refine y4 FB T eC eN eI ef ec (by rw [←r.length];exact fE hl) fun h1 y m=>?_
 obtain ⟨a0,e1,_,_⟩:=m.there
 have I2:=I.laidN (t':=tk) m.keeps m.new (xm (H:=aI H y (fZ y C none)) ⟨_,_,e1⟩)
 have hq:=h y _ (.mk' (I.hok.none' m.new))
 have r2:aH (V.ref y :: vs) (Value.ref y :: us):=.cons rfl r
 have ln:(Value.ref y :: us).length=ps.length:=by rw [←r2.length];exact F.len _ _ _ _ hq
 have hbb:=hb _ (Value.ref y :: us) I2.kIn (by rw [List.append_nil];exact ln)
 rw [List.append_nil] at hbb
 refine wpAny_call (codeAny_mono (F.run _ X.stack _ _ ⟨Value.ref y :: us,[]⟩ (Value.ref y :: us) _ _ E0 (hr.make C us []) (I2.env0.make C us []) hbb r2 hq) fun rs s' hq'=>?_)
 cases rs with
 | error z=>exact hq'.elim
 | ok fl=>
  cases fl with
  | ret u=>
   obtain ⟨v,H',I3,rv,ev,q3⟩:=I2.after hq'
   subst ev
   exact ⟨rv,⟨V.ref y,H',I3,rfl,q3⟩⟩
  | next=>exact False.elim hq'
  | brk=>exact False.elim hq'
  | cont=>exact False.elim hq'
theorem Cy (q:nt X.K C (some (.ref f))=true) (fn:PySem.W.isFn X.K (.ref f)=true) (kp:PySem.W.keepIn X.K (.ref C)=true) (F:bv X.prog X.w X.K X.mg X.base CX0 k f fd ps sp) (hr:dC (k+1) X.A) (hb:kc X.K fd ps []) (hg:Gl X x) (hm:X.mg x=some (.ref C))
 (ha:PA X (e :: es) t) (hdb:(x==("__debug__" : Str))=false:=by decide) (he:starEach (e :: es) X.env=(false,eval e X.env) :: starEach es X.env:=by rfl) (hpl:(backTo pos (starEach es X.env)).any (·.1)=false:=by rfl):PE X (.Call (.Name x p) (e :: es) [] pos) (FE C sp t):=by
 intro pins s σ H Q I h
 refine wpAny_Call_Name_kw (nF I hg hm ?_ hdb)
 exact PySem.W.callWith_K (h₀:=X.base) I.ok.mod.kin kp (aR (ha pos pins s σ H _ I h) fun us s1 ⟨vs,H1,I1,r,hl,q1⟩=>⟨I1.kIn,AI q fn F hr hb I1 r hl q1⟩) he hpl
theorem wu {h:Heap}{y C:Addr} (e:tG y C none h):bz fun ox a0=>PySem.W.InstAt h y ox C none∧ox.data=.fields #[a0,.none,.none,.none,.bool false,.none]:=by
 obtain ⟨a0,sl,q⟩:=e
 exact ⟨_,a0,⟨q,rfl,rfl,trivial⟩,rfl⟩
theorem af.exc {pins:List (Addr×Obj)}{σ:St}{H:Hp}{s:Shared}{h':Heap}{y C:Addr}{dx:Option Addr}{t':Nat} (I:af X pins σ H s) (e:H y=some (fZ y C dx)) (k:∀b o,b≠y→s.heap.get? b=some o→h'.get? b=some o) {dx':Option Addr} (n:tG y C dx' h'):af X pins σ (aI H y (fZ y C dx')) { s with heap:=h',toks:=t' }:=
 I.write (x:=y) (e:=y) (by rw [e];exact trivial) (.inl rfl) k (let ⟨_,_,q⟩:=n;⟨_,q⟩) (xm n)
theorem lT {H:Hp}{a:Addr}{o:HO} (h:H a=some o):aI H a o=H:=by
 funext b
 unfold aI
 split
 ·rename_i z;rw [z,h]
 ·rfl
abbrev xW (K:PySem.W.Frag) (B:Addr):Bool:=PySem.W.specialIn K (.ref B) "__getattribute__" == some (some (.builtin "type.__getattribute__")) && PySem.W.readsIn K B (.type "type") && (match PySem.W.findCls K (.ref B) (.type "type") "__init__" with | some (.val v)=>v==.builtin "ValueError.__init__" | _=>false)
def D8 (K:PySem.W.Frag) (t:TA):TE:=fun σ H Q=>t σ H fun vs H1=>ml fun y u C ini=>vs=[.ref y,u]∧H1 y=some (fZ y C none)∧nt K C ini=true∧Q .non H1
theorem zY {B:Addr}{pl:Sem Bool}{apos:Pos} (q:xW X.K B=true) (hg:Gl X x) (hm:X.mg x=some (.ref B)) (ha:PA X (e :: es) t) (hdb:(x==("__debug__" : Str))=false:=by decide)
 (hst:starEach (e :: es) X.env=(false,eval e X.env) :: starEach es X.env:=by rfl) (hpl:(backTo pos (starEach es X.env)).any (·.1)=false:=by rfl)
 (ht:eval (.Call (.Attribute (.Name x p) "__init__" apos) (e :: es) [] pos) X.env=(do
  let ov ←eval (.Name x p) X.env
  standAt apos.atName
  let (f,first) ←holding [ov] (getMethod ov "__init__" pl)
  callWith pos f first (backTo pos (starEach (e :: es) X.env)) (backToKw pos (keywordEach [] X.env))):=by rfl) :
 PE X (.Call (.Attribute (.Name x p) "__init__" apos) (e :: es) [] pos) (D8 X.K t):=by
 intro pins s σ H Q I h
 unfold xW at q
 rw [Bool.and_eq_true,Bool.and_eq_true,beq_iff_eq] at q
 obtain ⟨⟨q1,q2⟩,q3⟩:=q
 refine PySem.W.methodCall_KW (pl:=pl) (nF I hg hm ?_ hdb) ht
 cases e3:PySem.W.findCls X.K (.ref B) (.type "type") "__init__" with
 | none=>rw [e3] at q3;cases q3
 | some r=>
  cases r with
  | get g a o tp=>rw [e3] at q3;cases q3
  | val v=>
   rw [e3] at q3
   obtain rfl:=beq_iff_eq.mp (show (v==Value.builtin "ValueError.__init__")=true from q3)
   refine PySem.W.method_cls I.kIn q1 (PySem.W.cls_value I.kIn q2 e3 rfl ?_)
   have I1:af X pins σ H { s with toks:=s.toks+1 }:=I.tok _
   refine PyProof.Rows.callWith_builtin1 (aR (ha pos pins _ σ H _ I1 h) fun us s1 ⟨vs,H1,I2,r,q4⟩=>?_) hst hpl
   obtain ⟨y,u,C,ini,rfl,hy,hC,k⟩:=q4
   obtain ⟨uy,uu,rfl,r1,r2⟩:=vg r
   cases r1
   obtain ⟨ox,a0,J,hf⟩:=wu (qu I2.hok hy)
   refine DX I2.kIn J hf hC fun h' e1 kp=>?_
   have I3:=I2.exc (t':=s1.toks) hy kp (dx':=none) ⟨_,ox.slots,by
    rw [e1,J.cls]
    have:ox.dict=none:=by
     have z:=J.dict
     cases q:ox.dict with
     | none=>rfl
     | some d=>rw [q] at z;exact z.elim
    rw [this]⟩
   rw [lT hy] at I3
   exact ⟨.non,H1,I3,rfl,k⟩
abbrev xH (K:PySem.W.Frag) (C:Addr) (f:Str):Bool:=si K C && (PySem.W.clsIn K C).any (·.hasDict) && PySem.W.findIn K (.ref C) f==some none
def F9 (K:PySem.W.Frag) (ta tv:TE) (f:Str):TS:=fun D σ H=>tv σ H fun v H1=>ta σ H1 fun y H2=>bz fun a C=>y=.ref a∧H2 a=some (fZ a C none)∧qa K C f=true∧∀dx H',H2 dx=none→dx≠a→H'=aI (aI H2 dx (.xd [(f,v)])) a (fZ a C (some dx))→D.nx σ H'
theorem Cw {o value:Expr}{ta tv:TE}{f:Str}{pos':Pos} (ha:PE X o ta) (hv:PE X value tv) (hs:swapsWith value (some (.Attribute o f pos')) pos.line X.env=pure false):PS X (.Assign [.Attribute o f pos'] value pos) (F9 X.K ta tv f):=by
 intro pins s σ H D I h
 refine plainObj_wpAny_Assign_Attribute (aR (hv pins s σ H _ I h) fun u s1 ⟨v,H1,I1,ry,q⟩=>aR (ha pins s1 σ H1 _ I1 q) fun ov s2 ⟨y,H2,I2,rx,a,C,ex,ea,g,q2⟩=>?_) hs
 subst ex
 obtain rfl:ov=Value.ref a:=rx
 obtain ⟨ox,a0,J,hf⟩:=wu (qu I2.hok ea)
 refine Fv I2.kIn J hf g fun h' tk n1 e1 kp=>?_
 have nd:s2.heap.get? s2.heap.objs.size=none:=Heap.get?_none_of_le (Nat.le_refl _)
 have na:s2.heap.objs.size≠a:=Nat.ne_of_gt (Heap.lt_size J.at_)
 have fr:H2 s2.heap.objs.size=none:=I2.hok.fresh (Nat.le_refl _)
 have ne:tG a C (some s2.heap.objs.size) h':=⟨a0,ox.slots,by rw [e1,J.cls,hf]⟩
 obtain ⟨od,es,ep,h1,h2⟩:=id n1
 have h3:(s2.heap.push od).get? s2.heap.objs.size=some od:=Heap.get?_push_size _ (Heap.get?_some_iff.mp h1).2
 have I3:af X pins σ (aI H2 s2.heap.objs.size (.xd [(f,v)])) { s2 with heap:=s2.heap.push od,toks:=tk }:=I2.laid (fun b o z=>Heap.get?_push_of_some _ z) (Nat.le_refl _) (show bo X.prog X.w _ _ _ (.xd [(f,v)]) from ⟨_,n1.at fun o z=>by rw [h1] at z;cases z;exact h3,fun y=>by
  by_cases c:y=f
  ·subst c
   rw [if_pos rfl]
   simp only [List.lookup,beq_self_eq_true]
   exact ry
  ·rw [if_neg c]
   have:(y==f)=false:=beq_eq_false_iff_ne.mpr c
   simp only [List.lookup,this]
   exact trivial⟩)
 have ea3:aI H2 s2.heap.objs.size (.xd [(f,v)]) a=some (fZ a C none):=by rw [av (Ne.symm na)];exact ea
 have I4:=I3.exc (t':=tk) (h':=h') ea3 (fun b o nb z=>by
  by_cases c:b=s2.heap.objs.size
  ·subst c
   rw [h3] at z
   cases z
   exact h1
  ·rw [Heap.get?_push_ne _ _ _ c] at z
   exact kp b o nb z) ne
 exact ⟨σ,_,I4,q2 _ _ fr na rfl⟩
def Hg (H:Hp) (a C:Addr) (fs:List (Str×V)):Prop:=(fs=[]∧H a=some (fZ a C none))∨∃dx,H a=some (fZ a C (some dx))∧H dx=some (.xd fs)
end
end L2
namespace L2
open PySem PySem.Spec PyProof.Rows
def FV:Stmt→Nat→Stmt
 | .ClassDef _ _ _ body _ _ _ _ _ _ _,j=>body.getD j (.Pass ⟨0,0,0,0⟩)
 | _,_=>.Pass ⟨0,0,0,0⟩
def A1 (K:PySem.W.Frag) (cs:List Addr) (g:Addr):Bool:=decide cs.Nodup && cs.all fun c=>GO K c && (PySem.W.kitOne K (.ref c) (.ref g)==some true && (PySem.W.kitOne K (.ref c) (.type "ValueError")==some true && cs.all fun d=>PySem.W.kitOne K (.ref c) (.ref d)==some (decide (c=d))))
section
variable {X:Cx}
end
end L2
namespace L2
open PySem PySem.Spec PyProof.Rows
def nI (h:Heap) (a T:Addr) (C:Value) (dx:Option Addr) (fl:Value):Prop:=
 ml fun vs sl oT ts=>h.get? a=some ⟨C,dx,.fields vs,sl⟩∧vs[1]?=some (.ref T)∧T≠a∧h.get? T=some oT∧oT.data=.fields ts∧ts[3]?=some fl
def Kp (h h':Heap) (bad fs:List Addr):Prop:=∀b o,b∉bad→h.get? b=some o→(∃sl,h'.get? b=some { o with slots:=sl })∧(b∉fs→h'.get? b=some o)
def C8 (head:Value) (L:Addr) (pl:List Value):Obj:={ cls:=.type "traceback",dict:=none,data:=.fields ([head,.ref L,.none,rawInt L,.none]++(if pl.isEmpty then List.replicate 6 Value.none else pl)).toArray }
section
variable {M:Model}{A:Around}{E:Value→Shared→Prop}{s:Shared}{base:Heap}{env:Env}{outer:List Env}{L a T:Addr}{C head:Value}{dx:Option Addr}{vs:Array Value}{sl:Array (Option Value)}{hn:Bool}{Q:Unit→Shared→Prop}
theorem uP (hfr:A.frames=some (env :: outer)) (hl:s.heap.FunFrames base (env :: outer)) (hf:env.frame=some L) (he:s.heap.get? a=some ⟨C,dx,.fields vs,sl⟩) (hz:1<vs.size)
 (h:∀h' T,nI h' a T C dx (rawInt L)→T=s.heap.objs.size→Kp s.heap h' [a] (gS (env :: outer))→Q () { s with heap:=h' }) :
 wpAny M A (do let f ←frameOf env;let pl ←entryPlaceOf L hn;let b ←EntryCells.newEntry head f .none (rawInt L) .none pl;setField (.ref a) 1 b) Q E s:=by
 have na:a∉gS (env :: outer):=fun z=>by
  obtain ⟨_,o,ho,q⟩:=hl.mem z
  rw [he] at ho
  cases ho
  exact q vs rfl
 refine wpAny_bind (wpAny_frameOf_fun hfr hl hf fun h1 s1=>wpAny_bind (wpAny_entryPlaceOf fun pl hp=>?_))
 have e1:h1.get? a=some ⟨C,dx,.fields vs,sl⟩:=(s1.2.1 a na).trans he
 unfold EntryCells.newEntry newFields
 refine wpAny_bind (wpAny_newObj_type ?_ (hp.sizeOk5 _ _ _ _ _))
 show wpAny M A (setField (.ref a) 1 (.ref h1.objs.size)) Q E { s with heap:=h1.push (C8 head L pl) }
 have e2:=Heap.get?_push_of_some (h:=h1) (C8 head L pl) e1
 have nT:h1.objs.size≠a:=Nat.ne_of_gt (Heap.lt_size e1)
 refine wpAny_setField e2 rfl hz (h _ h1.objs.size ⟨vs.setIfInBounds 1 (.ref h1.objs.size),sl,C8 head L pl,_,?_,?_,nT,?_,rfl,?_⟩ s1.1 fun b o nb hb=>?_)
 ·exact Heap.get?_update_self _ e2 rfl
 ·simp [hz]
 ·rw [Heap.get?_update_other _ _ (Ne.symm nT)]
  exact Heap.get?_push_size h1 rfl
 ·rw [List.getElem?_toArray,List.getElem?_append_left (by show 3<5;decide)]
  rfl
 ·have nb':a≠b:=fun z=>nb (by simp [z])
  obtain ⟨sl',q⟩:=s1.2.2 b o hb
  refine ⟨⟨sl',?_⟩,fun nf=>?_⟩
  ·rw [Heap.get?_update_other _ _ nb']
   exact Heap.get?_push_of_some _ q
  ·rw [Heap.get?_update_other _ _ nb']
   exact Heap.get?_push_of_some _ ((s1.2.1 b nf).trans hb)
theorem yv (hfr:A.frames=some (env :: outer)) (hl:s.heap.FunFrames base (env :: outer)) (hf:env.frame=some L) (he:s.heap.get? a=some ⟨C,dx,.fields vs,sl⟩) (h1:vs[1]?=some .none)
 (h:∀h' T,nI h' a T C dx (rawInt L)→T=s.heap.objs.size→Kp s.heap h' [a] (gS (env :: outer))→Q () { s with heap:=h' }):wpAny M A (noteFrame (.ref a) env) Q E s:=by
 unfold noteFrame
 simp only [hf]
 refine wpAny_bind (wpAny_field he rfl h1 ?_)
 rw [if_neg (by decide)]
 exact uP hfr hl hf he (Array.getElem?_eq_some_iff.mp h1).1 h
theorem uz (hfr:A.frames=some (env :: outer)) (hl:s.heap.FunFrames base (env :: outer)) (hf:env.frame=some L) (ht:nI s.heap a T C dx .none)
 (h:∀h' T',nI h' a T' C dx (rawInt L)→T'=s.heap.objs.size→Kp s.heap h' [a,T] (gS (env :: outer))→Q () { s with heap:=h' }):wpAny M A (noteFrame (.ref a) env) Q E s:=by
 obtain ⟨vs,sl,oT,ts,he,h1,ne,hT,hd,h3⟩:=ht
 unfold noteFrame
 simp only [hf]
 refine wpAny_bind (wpAny_field he rfl h1 ?_)
 rw [if_pos (show (Value.ref T != Value.none)=true by simp)]
 refine wpAny_bind (wpAny_field hT hd h3 ?_)
 rw [if_neg (show ¬((Value.none==rawInt L)=true) by simp [rawInt])]
 refine wpAny_bind (wpAny_setField hT hd (Array.getElem?_eq_some_iff.mp h3).1 ?_)
 have ot:∀b,b≠T→(s.heap.update T (Obj.mapFields (·.setIfInBounds 3 Value.none))).get? b=s.heap.get? b:=fun b nb=>Heap.get?_update_other _ _ (Ne.symm nb)
 have nr:∀b o,s.heap.get? b=some o→(∀vs,o.data≠.fields vs)→b≠T:=fun b o hb q z=>by
  rw [z,hT] at hb
  cases hb
  exact q ts hd
 refine uP hfr (hl.of_keeps fun b o hb q=>⟨o,(ot b (nr b o hb q)).trans hb,rfl⟩) hf ((ot a (Ne.symm ne)).trans he) (Array.getElem?_eq_some_iff.mp h1).1 fun h' T' t z k=>h h' T' t (z.trans (Heap.size_after_update ..)) fun b o nb hb=>?_
 have n1:b∉[a]:=fun z=>nb (by simp [List.mem_singleton.mp z])
 have n2:b≠T:=fun z=>nb (by simp [z])
 exact k b o n1 ((ot b n2).trans hb)
theorem qE {fl:Value} (ht:nI s.heap a T C dx fl) (h:∀h',nI h' a T C dx .none→Kp s.heap h' [T] []→Q () { s with heap:=h' }):wpAny M A (setFlight (.ref a) none) Q E s:=by
 obtain ⟨vs,sl,oT,ts,he,h1,ne,hT,hd,h3⟩:=ht
 unfold setFlight
 refine wpAny_bind (wpAny_field he rfl h1 ?_)
 rw [if_pos (show (Value.ref T != Value.none)=true by simp)]
 have z3:=(Array.getElem?_eq_some_iff.mp h3).1
 have dT:=Obj.data_mapFields hd (·.setIfInBounds 3 Value.none)
 refine wpAny_setField hT hd z3 (h _ ⟨vs,sl,_,_,?_,h1,ne,Heap.get?_update_self _ hT (Obj.isFreed_of_fields dT),dT,by simp [z3]⟩ fun b o nb hb=>?_)
 ·exact (Heap.get?_update_other _ _ ne).trans he
 ·have nb':T≠b:=fun z=>nb (by simp [z])
  have q:=(Heap.get?_update_other s.heap (Obj.mapFields (·.setIfInBounds 3 ((none:Option Addr).elim Value.none fun f=>rawInt f))) nb').trans hb
  exact ⟨⟨o.slots,q⟩,fun _=>q⟩
theorem Kp.trans0 {h h1 h2:Heap}{bad fs:List Addr}{T:Addr} (k:Kp h h1 bad fs) (k2:Kp h1 h2 [T] []) (n:h.objs.size≤T):Kp h h2 bad fs:=fun b o nb hb=>by
 have nT:b∉[T]:=fun z=>by
  have q:=Heap.lt_size hb
  rw [List.mem_singleton.mp z] at q
  exact absurd q (Nat.not_lt.mpr n)
 obtain ⟨⟨sl,q1⟩,q2⟩:=k b o nb hb
 exact ⟨⟨sl,(k2 b _ nT q1).2 (by simp)⟩,fun nf=>(k2 b _ nT (q2 nf)).2 (by simp)⟩
theorem wK (hfr:A.frames=some (env :: outer)) (hl:s.heap.FunFrames base (env :: outer)) (hf:env.frame=some L) (he:s.heap.get? a=some ⟨C,dx,.fields vs,sl⟩) (h1:vs[1]?=some .none)
 (h:∀h' T,nI h' a T C dx .none→T=s.heap.objs.size→Kp s.heap h' [a] (gS (env :: outer))→Q () { s with heap:=h' }):wpAny M A (leaving env (.ref a)) Q E s:=by
 unfold leaving
 exact wpAny_bind (yv hfr hl hf he h1 fun h' T t z k=>qE t fun h2 t2 k2=>h h2 T t2 z (k.trans0 k2 (Nat.le_of_eq z.symm)))
theorem xT (hfr:A.frames=some (env :: outer)) (hl:s.heap.FunFrames base (env :: outer)) (hf:env.frame=some L) (ht:nI s.heap a T C dx .none)
 (h:∀h' T',nI h' a T' C dx .none→T'=s.heap.objs.size→Kp s.heap h' [a,T] (gS (env :: outer))→Q () { s with heap:=h' }):wpAny M A (leaving env (.ref a)) Q E s:=by
 unfold leaving
 exact wpAny_bind (uz hfr hl hf ht fun h' T t z k=>qE t fun h2 t2 k2=>h h2 T t2 z (k.trans0 k2 (Nat.le_of_eq z.symm)))
end
end L2
namespace L2
open PySem PySem.Spec PyProof.Rows
def mr (x C:Addr) (dx:Option Addr):HO:=.ext fun h=>bz fun vs sl=>h.get? x=some ⟨.ref C,dx,.fields vs,sl⟩
theorem BO {P:Program}{w:World}{H:Hp}{h:Heap}{x C:Addr}{dx:Option Addr} (e:bz fun vs sl=>h.get? x=some ⟨.ref C,dx,.fields vs,sl⟩):bo P w H h x (mr x C dx):=
 ⟨e,let ⟨_,_,q⟩:=e;⟨_,q⟩,fun h1 h2 ⟨vs,sl,q⟩ k=>⟨vs,sl,k _ q⟩⟩
theorem AB {P:Program}{w:World}{H:Hp}{h:Heap}{x C:Addr}{dx:Option Addr} (ok:dJ P w H h) (e:H x=some (mr x C dx)):bz fun vs sl=>h.get? x=some ⟨.ref C,dx,.fields vs,sl⟩:=(ok x _ e).1
theorem Cu {fs ch:List Addr}{H:Hp}{h h':Heap}{a:Addr}{φ:Heap→Prop}{o:HO} (ea:H a=some (.ext φ)) (k:Kp h h' (a :: ch) fs) (th:∃u,h'.get? a=some u):Un fs ch H (aI H a o) h h':=by
 have ne:∀{b:Addr},H b=none→b≠a:=fun q z=>by rw [z,ea] at q;cases q
 have nc:∀{b:Addr},b≠a→b∉ch→b∉a :: ch:=fun n1 n2 z=>(List.mem_cons.mp z).elim n1 n2
 refine ⟨fun b u q n f x=>(k b u (nc (ne n) x) q).2 f,fun b u q n _ x=>(k b u (nc (ne n) x) q).1,fun b u q n _=>by rw [av (ne n)];exact n,fun b u q x=>?_,fun b xs q=>?_,fun b u xs q=>?_,fun b ps q=>⟨#[],?_⟩⟩
 ·by_cases e:b=a
  ·rw [e];exact th
  ·obtain ⟨⟨sl,z⟩,_⟩:=k b u (nc e x) q
   exact ⟨_,z⟩
 ·rw [av (fun z=>by rw [z,ea] at q;cases q)];exact q
 ·rw [av (fun z=>by rw [z,ea] at q;cases q)];exact q
 ·rw [av (fun z=>by rw [z,ea] at q;cases q),q];simp
theorem AK {P:Program}{w:World}{fs ch:List Addr}{H:Hp}{h h':Heap}{a:Addr}{φ:Heap→Prop}{o:HO} (ok:dJ P w H h) (ea:H a=some (.ext φ)) (k:Kp h h' (a :: ch) fs) (ff:∀b∈fs,H b=none) (fc:∀b∈ch,H b=none)
 (nw:bo P w (aI H a o) h' a o):dJ P w (aI H a o) h':=fun b u e=>by
 by_cases hb:b=a
 ·subst hb
  rw [aC] at e
  cases e
  exact nw
 ·rw [av hb] at e
  refine (ok b u e).stay (fun c v cd q=>?_) (fun c q=>?_) fun c xs q=>?_
  ·have hc:H c≠none∧c≠a:=by
    rcases cd with rfl | cd
    ·exact ⟨by rw [e];simp,hb⟩
    ·exact ⟨by rw [cd];simp,fun z=>by rw [z,ea] at cd;cases cd⟩
   exact (k c v (fun z=>(List.mem_cons.mp z).elim hc.2 fun z=>hc.1 (fc c z)) q).2 fun z=>hc.1 (ff c z)
  ·rw [av (fun z=>by rw [z,ea] at q;cases q)];exact q
  ·rw [av (fun z=>by rw [z,ea] at q;cases q)];exact q
section
variable {X:Cx}{pins:List (Addr×Obj)}{σ:St}{H:Hp}{s:Shared}{h':Heap}{a T C:Addr}{dx:Option Addr}{φ:Heap→Prop}{ch:List Addr}{fl:Value}
theorem nI.there (t:nI h' a T (.ref C) dx fl):bz fun vs sl=>h'.get? a=some ⟨.ref C,dx,.fields vs,sl⟩:=let ⟨vs,sl,_,_,e,_⟩:=t;⟨vs,sl,e⟩
theorem af.noted (I:af X pins σ H s) (ea:H a=some (.ext φ)) (k:Kp s.heap h' (a :: ch) (gS X.stack)) (t:bz fun vs sl=>h'.get? a=some ⟨.ref C,dx,.fields vs,sl⟩) (fc:∀b∈ch,H b=none)
 (hch:∀b∈ch,(b∈X.ex∨X.s₀.heap.objs.size≤b)∧b≠X.env.locals∧(∀x c,X.env.cells.lookup x=some c→c≠b)∧∀p∈X.pn++pins,p.1≠b):af X pins σ (aI H a (mr a C dx)) { s with heap:=h' }:=
 I.call' (ch:=ch) rfl (Cu ea k (let ⟨_,_,e⟩:=t;⟨_,e⟩)) (AK I.hok ea k I.stkFree fc (BO t)) I.bare hch
theorem af.far (I:af X pins σ H s) (n:s.heap.objs.size≤T):(T∈X.ex∨X.s₀.heap.objs.size≤T)∧T≠X.env.locals∧(∀x c,X.env.cells.lookup x=some c→c≠T)∧∀p∈X.pn++pins,p.1≠T:=by
 have lt:∀{b:Addr}{u:Obj},s.heap.get? b=some u→b≠T:=fun q z=>by
  have q':=Heap.lt_size q
  rw [z] at q'
  exact absurd q' (Nat.not_lt.mpr n)
 refine ⟨.inr (Nat.le_trans I.sz n),?_,fun x c e=>?_,fun p hp=>lt (I.pin p hp).1⟩
 ·obtain ⟨m,⟨o,es,ep,ho,_⟩,_⟩:=I.loc
  exact Ne.symm (lt ho)
 ·obtain ⟨v,q⟩:=I.cell x c e
  obtain ⟨o,ho,_⟩:=q
  exact lt ho
end
def nH (P:Program) (w:World):kW:=fun outer H s E e s'=>Bh fun a T C dx H'=>e=.ref a∧s'.os=s.os∧AllBare s'.gens∧Un (gS outer) [] H H' s.heap s'.heap∧dJ P w H' s'.heap∧nI s'.heap a T (.ref C) dx .none∧s.heap.objs.size≤T∧H' T=none∧H' a=some (mr a C dx)∧E (.ref C) dx H'
def yz (X:Cx) (E:XK):Prop:=∀pins σ H s a C dx,af X pins σ H s→H a=some (fZ a C dx)→E (.ref C) dx (aI H a (mr a C dx))→X.xe (.ref a) s
section
variable {P:Program}{w:World}{K:PySem.W.Frag}{mg:Str→Option Value}{base:Heap}{N:List Str}{qual:Str}{scope:Scope}{f:Addr}{cd:Value}{A:Around}{outer:List Env}{s:Shared}{H:Hp}{E:XK}
theorem xS:qb (nH P w) (oK (nH P w) P w K mg base N qual scope f cd A outer s H E) E:=by
 intro pins σ H1 s1 e s2 I h
 obtain ⟨a,T,C,dx,H',rfl,os,bare,un,hok,t,n,hT,ha,hE⟩:=h
 have J:=I.call' (ch:=[]) os un hok bare (fun b z=>by cases z)
 have far:=I.far n
 refine xT (L:=s.heap.objs.size) J.ok.frames J.stack rfl t fun h' T' t' z k=>?_
 have J2:=J.noted ha (ch:=[T]) k t'.there (fun b hb=>by rw [List.mem_singleton.mp hb];exact hT) (fun b hb=>by rw [List.mem_singleton.mp hb];exact far)
 rw [lT ha] at J2
 exact ⟨a,T',C,dx,H',rfl,J2.os,J2.bare,J2.base,J2.hok,t',by rw [z];exact J.sz,J.hok.fresh (by rw [z];exact Nat.le_refl _),ha,hE⟩
theorem CB:yz (oK (nH P w) P w K mg base N qual scope f cd A outer s H E) E:=by
 intro pins σ H1 s1 a C dx J ha hE
 obtain ⟨a0,sl,ea⟩:=qu J.hok ha
 refine wK (L:=s.heap.objs.size) J.ok.frames J.stack rfl ea rfl fun h' T' t' z k=>?_
 have J2:=J.noted ha (ch:=[]) k t'.there (fun b hb=>by cases hb) (fun b hb=>by cases hb)
 have nT:H1 T'=none:=J.hok.fresh (by rw [z];exact Nat.le_refl _)
 exact ⟨a,T',C,dx,_,rfl,J2.os,J2.bare,J2.base,J2.hok,t',by rw [z];exact J.sz,by rw [av (fun q=>by rw [q,ha] at nT;cases nT)];exact nT,aC,hE⟩
end
end L2
namespace L2
open PySem PySem.Spec PyProof.Rows
section
variable {M:Model}{A:Around}{E:Value→Shared→Prop}{s:Shared}{env:Env}
theorem zO {x:Sem Value}{Q:Flow→Shared→Prop} (hh:A.handled=none)
 (h:wpAny M A x (fun v s1=>∃e a0 dx sl nm q C N bs bm hd sn sb ab cl dd k0 k1 k2 k3 k5 nw,v=.ref e∧bm.contains (.type "BaseException")=true∧s1.heap.get? C=some (excClassObj nm q C N bs bm hd sn sb ab cl dd k0 k1 k2 k3 k5 nw)∧
  s1.heap.get? e=some ⟨.ref C,dx,.fields #[a0,.none,.none,.none,.bool false,.none],sl⟩∧E (.ref e) s1) E s):wpAny M A (raiseStmt env (some x) none) Q E s:=by
 unfold raiseStmt
 refine wpAny_bind (wpAny_mono h (fun v s1 h1=>?_) fun _ _ x=>x)
 obtain ⟨e,a0,dx,sl,nm,q,C,N,bs,bm,hd,sn,sb,ab,cl,dd,k0,k1,k2,k3,k5,nw,rfl,hb,hC,he,hE⟩:=h1
 have hcB:(Value.ref C :: bm).contains (.type "BaseException")=true:=by rw [List.contains_cons,hb,Bool.or_true]
 obtain ⟨hp,g,d,tk,os⟩:=s1
 repeat
  first
   | (with_reducible refine wpAny_isSubtype_exc hC ?_
      rw [hcB])
   | (with_reducible refine wpAny_loadPart_at hC ?_)
   | (with_reducible refine wpAny_loadPart_at he ?_)
   | wp_step
 exact wpAny_raiseNew_none hh hE
end
section
variable {X:Cx}{e:Expr}{te:TE}{pos:Pos}{E:XK}
def CM (K:PySem.W.Frag) (E:XK) (te:TE):TS:=fun D σ H=>te σ H fun v H'=>ml fun a C dx ini=>v=.ref a∧H' a=some (fZ a C dx)∧nt K C ini=true∧E (.ref C) dx (aI H' a (mr a C dx))
theorem Ae (hc:X.calm=true) (hx:yz X E) (he:PE X e te):PS X (.Raise (some e) none pos) (CM X.K E te):=by
 intro pins s σ H D I h
 rw [arm_exec_Raise]
 refine wpAny_bind (wpAny_standAt ?_)
 show wpAny _ _ (raiseStmt X.env (some (do let v ←eval e X.env;standAt pos;pure v)) none) _ _ _
 refine zO (I.ok.hd hc) (wpAny_bind (aR (he pins s σ H _ I h) fun u s1 ⟨v,H1,I1,r,a,C,dx,ini,ev,ha,q,hE⟩=>wpAny_bind (wpAny_standAt (wpAny_pure ?_))))
 subst ev
 obtain rfl:u=Value.ref a:=r
 obtain ⟨nm,qn,N,bs,bm,hd,sn,sb,ab,cl,dd,k0,k1,k2,k3,k5,mN,eC,eN,T,_⟩:=xI I1.kIn q
 obtain ⟨a0,sl,ea⟩:=qu I1.hok ha
 exact ⟨a,a0,dx,sl,nm,qn,C,N,bs,bm,hd,sn,sb,ab,cl,dd,k0,k1,k2,k3,k5,_,rfl,T.hasType (by decide),eC,ea,hx pins σ H1 s1 a C dx I1 ha hE⟩
theorem PS.nox {st:Stmt}{t:TS} (h:PS X.nox st t):PS X st t:=fun pins s σ H D I hw=>wpAny_mono (h pins s σ H D (I.wish _) hw) (fun _ _ q=>q.unwish) fun _ _ z=>False.elim z
theorem sQ.okX {P:Program}{w:World}{K:PySem.W.Frag}{mg:Str→Option Value}{base:Heap}{x qual:Str}{st:Stmt}{f:Addr}{fd:FuncData}{N ps:List Str}{k:Nat}{sp:Sp} (F:sQ K x qual st f fd) (S:aS N ps (ag st)) (len:∀vs H Q E,sp vs H Q E→vs.length=ps.length)
 (hbody:∀(cdv:Value) (A:Around) (outer:List Env) (s:Shared) (H:Hp) (vs:List V) (Q:VK) (E:XK),dC k (A.deeper (envOfC qual (ag st) s.heap.objs.size f cdv))→sp vs H Q E→
  ∃t,kX (oK (nH P w) P w K mg base N qual (ag st) f cdv A outer s H E) (aQ st) t∧t { nx:=fun _ H'=>Q .non H',rt:=Q } (lw N vs) H):bv P w K mg base (nH P w) (k+1) f fd ps sp:=by
 obtain ⟨oc,od,kV,doc,pm,an,cdv,ct,osl,rfl,lk,hcd⟩:=F.ex
 exact AU lk hcd S len fun A outer s H vs Q E hr hsp=>hbody cdv A outer s H vs Q E hr hsp
end
section
variable {X:Cx}{pins:List (Addr×Obj)}{σ σ':St}{H:Hp}{s:Shared}{h':Heap}
theorem af.locs {m':Str→Option Value}{t':Nat} (I:af X pins σ H s) (hs:Heap.SameBut X.env.locals s.heap h') (hn:h'.Ns X.env.locals m') (hl:∀(i:Nat) (x:Str) (v:V),X.N[i]?=some x→σ'[i]?=some (some v)→zk X.env.scope x→∃u,bc v u∧Et X.env h' m' x u) (ln:σ'.length=X.N.length) :
 af X pins σ' H { s with heap:=h',toks:=t' }:=by
 have ne:∀{b:Addr}{o:Obj},X.s₀.heap.get? b=some o→b≠X.env.locals:=fun e=>Nat.ne_of_lt (Nat.lt_of_lt_of_le (Heap.lt_size e) I.ok.above)
 refine ⟨I.ok,I.os,I.bare,⟨fun b o e n hb hx=>(hs.2 b (ne e)).trans (I.base.keep b o e n hb hx),fun b o e n hb hx=>?_,I.base.free,fun b o e hx=>?_,I.base.tups,I.base.frzs,I.base.tbls⟩,⟨m',hn,hl⟩,fun y c e=>?_,I.free,I.freeC,fun p hp=>?_,fun b ob e=>?_,ln⟩
 ·obtain ⟨sl,q⟩:=I.base.slot b o e n hb hx
  exact ⟨sl,(hs.2 b (ne e)).trans q⟩
 ·obtain ⟨o',q⟩:=I.base.there b o e hx
  exact ⟨o',(hs.2 b (ne e)).trans q⟩
 ·obtain ⟨w',z⟩:=I.cell y c e
  exact ⟨w',z.sameBut hs (I.cne y c e)⟩
 ·obtain ⟨e,n,ne,nf,d⟩:=I.pin p hp
  exact ⟨(hs.2 p.1 ne).trans e,n,ne,nf,d⟩
 ·refine (I.hok b ob e).stay (fun c w' hc q=>(hs.2 c fun z=>?_).trans q) (fun _ q=>q) fun _ _ q=>q
  subst z
  have hf:=I.free
  rcases hc with rfl | hc
  ·rw [hf] at e;cases e
  ·rw [hf] at hc;cases hc
theorem qB {M:Model}{A:Around}{E:Value→Shared→Prop}{i:Nat}{x:Str}{pos:Pos}{Q:Unit→Shared→Prop} (I:af X pins σ H s) (hN:X.N.Nodup) (hi:X.N[i]?=some x) (hk:X.env.scope.names.lookup x=some .local)
 (h:∀s',af X pins (σ.set i none) H s'→Q () s'):wpAny M A (do bindName X.env x .none;unbindBehindTheSuite X.env x pos) Q E s:=by
 have iσ:i<σ.length:=by rw [I.len];exact (List.getElem?_eq_some_iff.mp hi).1
 refine wpAny_bind (wpAny_bindName (jX (v:=.non) (u:=.none) I hN hi (.inl hk) rfl (fun s1 I1=>?_) (.inr hk)))
 obtain ⟨m,hn,hl⟩:=id I1.loc
 have kl:X.env.kindOf x=some .local:=hk
 have hc:(X.env.scope.kind==.class || (X.env.scope.kind==.module && X.env.locals != X.env.globals))=false:=by rw [I.ok.kind];rfl
 have mx:∃u,m x=some u:=by
  obtain ⟨u,_,q⟩:=hl i x .non hi (by rw [List.getElem?_set_self iσ]) (.inl hk)
  rcases q with ⟨_,e⟩ | ⟨k,_⟩
  ·exact ⟨u,e⟩
  ·rw [kl] at k
   rcases k with k | k <;> cases k
 unfold unbindBehindTheSuite
 refine wpAny_onRaise ?_
 unfold unbindName
 refine wpAny_bind (wpAny_point (wpAny_bind ?_))
 unfold deleteName
 simp only [kl,hc]
 rw [if_neg (by decide)]
 obtain ⟨u,mx⟩:=mx
 refine wpAny_bind (wpAny_nsDel_keeps hn fun h2 v2 n2 s2=>?_)
 simp only [mx,if_true,Option.isSome_some,Bool.not_true,Bool.false_eq_true,if_false]
 refine wpAny_pure (wpAny_point (h _ (I1.locs s2 n2 (fun j y v e1 e2 e3=>?_) (by simpa using I.len))))
 have hj:j≠i:=fun z=>by
  rw [z,List.getElem?_set_self iσ] at e2
  cases e2
 rw [List.getElem?_set_ne (Ne.symm hj)] at e2
 obtain ⟨u',r',q⟩:=hl j y v e1 (by rw [List.getElem?_set_ne (Ne.symm hj)];exact e2) e3
 refine ⟨u',r',?_⟩
 rcases q with ⟨k,e⟩ | ⟨k,c,e,z⟩
 ·refine .inl ⟨k,?_⟩
  have ny:y≠x:=fun e=>hj (rm hN e1 (e▸hi))
  simp [ny,e]
 ·exact .inr ⟨k,c,e,z.sameBut s2 (I1.cne y c e)⟩
end
end L2
namespace L2
open PySem PySem.Spec PyProof.Rows
def qH (CX:kW) (X:Cx) (EE:St→XK):Prop:=∀(pins:List (Addr×Obj)) (σ:St) (H:Hp) (s:Shared) (e:Value) (s':Shared),af X pins σ H s→CX X.stack H s (EE σ) e s'→X.xe e s'
section
variable {X:Cx}{CX:kW}{k:Nat}{f:Addr}{fd:FuncData}{ps:List Str}{sp:Sp}{EE:St→XK}{x:Str}{p pos:Pos}{e:Expr}{es:List Expr}{t:TA}
def D4 (sp:Sp) (EE:St→XK) (t:TA):TE:=fun σ H Q=>t σ H fun vs H1=>sp vs H1 Q (EE σ)
theorem zQ (F:bv X.prog X.w X.K X.mg X.base CX k f fd ps sp) (hr:dC k X.A) (hg:Gl X x) (hm:X.mg x=some (.ref f)) (hk:PySem.W.keepIn X.K (.ref f)=true) (hb:kc X.K fd ps []) (hx:qH CX X EE)
 (ha:PA X (e :: es) t) (hdb:(x==("__debug__" : Str))=false:=by decide) (he:starEach (e :: es) X.env=(false,eval e X.env) :: starEach es X.env:=by rfl) (hpl:(backTo pos (starEach es X.env)).any (·.1)=false:=by rfl) :
 PE X (.Call (.Name x p) (e :: es) [] pos) (D4 sp EE t):=by
 intro pins s σ H Q I h
 refine wpAny_Call_Name_kw (nF I hg hm ?_ hdb)
 refine PySem.W.callWith_K (h₀:=X.base) I.ok.mod.kin hk (aR (ha pos pins s σ H _ I h) fun us s1 ⟨vs,H1,I1,r,q⟩=>⟨I1.kIn,?_⟩) he hpl
 have hl:us.length=ps.length:=by rw [←r.length];exact F.len _ _ _ _ q
 have hbb:=hb s1 us I1.kIn (by rw [List.append_nil];exact hl)
 rw [List.append_nil] at hbb
 refine wpAny_call (codeAny_mono (F.run X.A X.stack s1 H1 ⟨us,[]⟩ us vs Q (EE σ) hr I1.env0 hbb r q) fun rs s' hq=>?_)
 cases rs with
 | error z=>exact hx pins σ H1 s1 z s' I1 hq
 | ok fl=>
  cases fl with
  | ret u=>exact I1.after hq
  | next=>exact False.elim hq
  | brk=>exact False.elim hq
  | cont=>exact False.elim hq
end
abbrev Cx.tr (X:Cx) (pn:List (Addr×Obj)) (xe:Value→Shared→Prop):Cx:={ X with pn:=pn,xe:=xe }
abbrev Cx.hn (X:Cx) (A:Around):Cx:={ X with A:=A,calm:=false,xe:=fun _ _=>False }
section
variable {X:Cx}{pins pins' pn:List (Addr×Obj)}{σ:St}{H:Hp}{s:Shared}{xe:Value→Shared→Prop}
theorem Cx.Ok.tr (ok:X.Ok):(X.tr pn xe).Ok:=⟨ok.mod,ok.kind,ok.glob,ok.blt,ok.above,ok.inj,ok.has,ok.cab,ok.hd,ok.frames,ok.stk,ok.exf,ok.bs,ok.bsz,ok.noex,ok.exfs,ok.funs,ok.frf⟩
theorem Cx.Ok.untr (ok:(X.tr pn xe).Ok):X.Ok:=⟨ok.mod,ok.kind,ok.glob,ok.blt,ok.above,ok.inj,ok.has,ok.cab,ok.hd,ok.frames,ok.stk,ok.exf,ok.bs,ok.bsz,ok.noex,ok.exfs,ok.funs,ok.frf⟩
theorem af.tr (I:af X pins σ H s):af (X.tr (X.pn++pins) xe) [] σ H s:=⟨I.ok.tr,I.os,I.bare,I.base,I.loc,I.cell,I.free,I.freeC,fun p hp=>I.pin p (by rw [List.append_nil] at hp;exact hp),I.hok,I.len⟩
theorem af.untr (I:af (X.tr (X.pn++pins) xe) pins' σ H s):af X pins σ H s:=⟨I.ok.untr,I.os,I.bare,I.base,I.loc,I.cell,I.free,I.freeC,fun p hp=>I.pin p (List.mem_append_left _ hp),I.hok,I.len⟩
theorem Cx.Ok.hn {A:Around} (ok:X.Ok) (hA:A.frames=X.A.frames):(X.hn A).Ok:=⟨ok.mod,ok.kind,ok.glob,ok.blt,ok.above,ok.inj,ok.has,ok.cab,(fun z=>by cases z),hA.trans ok.frames,ok.stk,ok.exf,ok.bs,ok.bsz,ok.noex,ok.exfs,ok.funs,ok.frf⟩
theorem af.hn {A:Around} (I:af X pins σ H s) (hA:A.frames=X.A.frames):af (X.hn A) pins σ H s:=⟨I.ok.hn hA,I.os,I.bare,I.base,I.loc,I.cell,I.free,I.freeC,I.pin,I.hok,I.len⟩
theorem af.unhn {A:Around} (I:af (X.hn A) pins σ H s) (ok:X.Ok):af X pins σ H s:=⟨ok,I.os,I.bare,I.base,I.loc,I.cell,I.free,I.freeC,I.pin,I.hok,I.len⟩
end
theorem Kp.weak {h h':Heap}{bad bad' fs fs':List Addr} (k:Kp h h' bad fs) (hb:∀b∈bad,b∈bad') (hf:∀b∈fs,b∈fs'):Kp h h' bad' fs':=fun b o nb q=>
 ⟨(k b o (fun z=>nb (hb b z)) q).1,fun nf=>(k b o (fun z=>nb (hb b z)) q).2 fun z=>nf (hf b z)⟩
def yd (X:Cx) (EE:St→XK) (e:Value) (s:Shared):Prop:=∃pins σ H a T C dx,e=.ref a∧af X pins σ H s∧nI s.heap a T (.ref C) dx .none∧H T=none∧((T∈X.ex∨X.s₀.heap.objs.size≤T)∧T≠X.env.locals∧(∀x c,X.env.cells.lookup x=some c→c≠T)∧∀p∈X.pn++pins,p.1≠T)∧
 H a=some (mr a C dx)∧EE σ (.ref C) dx H
theorem Fb {X:Cx}{EE:St→XK}{Y:Cx} (h:X.xe=yd Y EE) (hY:∀{pins σ H s},af X pins σ H s→af Y pins σ H s):qH (nH X.prog X.w) X EE:=by
 intro pins σ H s e s' I q
 obtain ⟨a,T,C,dx,H',rfl,os,bare,un,hok,t,n,hT,ha,hE⟩:=q
 have J:=I.call' (ch:=[]) os un hok bare (fun b z=>by cases z)
 rw [h]
 exact ⟨pins,σ,H',a,T,C,dx,rfl,hY J,t,hT,(hY I).far n,ha,hE⟩
def hD (i:Nat) (D:cF):cF:={ nx:=fun σ H=>D.nx (σ.set i none) H,rt:=D.rt,bk:=fun σ H=>D.bk (σ.set i none) H,ct:=fun σ H=>D.ct (σ.set i none) H }
def x8 (K:PySem.W.Frag) (Cc:Addr) (i:Nat) (th:TS) (D:cF):St→XK:=fun σ cv dx H=>∀a C,cv=.ref C→H a=some (mr a C dx)→PySem.W.exmOne K (.ref C) (.ref Cc)=some true∧th (hD i D) (σ.set i (some (.ref a))) H
def GQ (K:PySem.W.Frag) (Cc:Addr) (i:Nat) (tb:(St→XK)→TS) (th:TS):TS:=fun D σ H=>tb (x8 K Cc i th D) D σ H
section
variable {X:Cx}{body suite:List Stmt}{b0:Stmt}{x n:Str}{hpos pos np:Pos}{tb:(St→XK)→TS}{th:TS}{Cc:Addr}{i:Nat}
theorem DK (hst:X.stack=X.env :: X.outer) (hfr:X.env.frame=some X.env.locals) (hN:X.N.Nodup) (hi:X.N[i]?=some n) (hk:X.env.scope.names.lookup n=some .local) (hg:Gl X x) (hm:X.mg x=some (.ref Cc))
 (hb:∀(EE:St→XK) (pn:List (Addr×Obj)) (xe:Value→Shared→Prop),qH (nH X.prog X.w) (X.tr pn xe) EE→kX (X.tr pn xe) body (tb EE)) (hs:∀A:Around,kX (X.hn A) (b0 :: suite) th) (hdb:(x==("__debug__" : Str))=false:=by decide) :
 PS X (.Try body [.ExceptHandler (some (.Name x np)) (some n) (b0 :: suite) hpos] [] [] pos) (GQ X.K Cc i tb th):=by
 intro pins s σ H D I h
 refine wpAny_Try_except ?_
 have hx:qH (nH X.prog X.w) (X.tr (X.pn++pins) (yd (X.tr (X.pn++pins) fun _ _=>False) (x8 X.K Cc i th D))) (x8 X.K Cc i th D):=Fb (X:=X.tr (X.pn++pins) (yd (X.tr (X.pn++pins) fun _ _=>False) (x8 X.K Cc i th D))) rfl fun J=>J.wish _
 refine wpAny_mono (hb _ _ _ hx [] s σ H D I.tr h) (fun f s1 q=>?_) fun e s1 q=>?_
 ·cases f with
  | next=>obtain ⟨σ',H',J,q⟩:=q;exact wpAny_execs_nil ⟨σ',H',J.untr,q⟩
  | brk=>obtain ⟨σ',H',J,q⟩:=q;exact ⟨σ',H',J.untr,q⟩
  | cont=>obtain ⟨σ',H',J,q⟩:=q;exact ⟨σ',H',J.untr,q⟩
  | ret u=>obtain ⟨v,σ',H',J,r,q⟩:=q;exact ⟨v,σ',H',J.untr,r,q⟩
 ·obtain ⟨pins',σ',H',a,T,C,dx,rfl,J0,t,hT,far,ha,hE⟩:=q
  have J:af X pins σ' H' s1:=J0.untr
  obtain ⟨hm',hth⟩:=hE a C rfl ha
  have st:∀{h2:Heap}{bad:List Addr},Kp s1.heap h2 bad (gS (X.env :: X.outer))→Kp s1.heap h2 bad (gS X.stack):=fun k=>by rw [hst];exact k
  refine uz (L:=X.env.locals) (J.ok.frames.trans (congrArg some hst)) (by have z:=J.stack;rw [hst] at z;exact z) hfr t fun h2 T2 t2 z2 k2=>?_
  have J2:=J.noted ha (ch:=[T]) (st k2) t2.there (fun b hb=>by rw [List.mem_singleton.mp hb];exact hT) (fun b hb=>by
   rw [List.mem_singleton.mp hb]
   exact ⟨far.1,far.2.1,far.2.2.1,fun p hp=>far.2.2.2 p (List.mem_append_left _ hp)⟩)
  rw [lT ha] at J2
  have n2:s1.heap.objs.size≤T2:=Nat.le_of_eq z2.symm
  have far0:=J.far n2
  have hT2:∀b∈[T2],H' b=none:=fun b hb=>by rw [List.mem_singleton.mp hb];exact J.hok.fresh n2
  have wk:∀{g g':Heap},Kp g g' [T2] []→Kp g g' [a,T2] (gS X.stack):=fun k=>k.weak (fun b hb=>List.mem_cons_of_mem _ hb) fun b hb=>by cases hb
  refine qE t2 fun h3 t3 k3=>?_
  have J3:=J2.noted ha (ch:=[T2]) (wk k3) t3.there hT2 (fun b hb=>by rw [List.mem_singleton.mp hb];exact far0)
  rw [lT ha] at J3
  refine wpAny_handleBy_cons (codeAny_handlers_test ?_) (by intro q;cases q)
  have J3h:=J3.hn (A:=X.A.mark (some (.ref a))) rfl
  refine nF J3h hg hm ?_ hdb
  obtain ⟨vs,sl,ea⟩:=t3.there
  have LT:PySem.W.Looks (model X.prog X.w) h3 (typeOf (.ref a)) (.ref C):=(PySem.W.Looks.ld ea).andThen .now
  refine (PySem.W.exm_one J3.kIn LT hm').here ?_
  refine codeAny_handlers_suite_as (qE t3 fun h5 t5 k5=>?_)
  have J5:=J3.noted ha (ch:=[T2]) (wk k5) t5.there hT2 (fun b hb=>by rw [List.mem_singleton.mp hb];exact far0)
  rw [lT ha] at J5
  refine jX J5 hN hi (.inl hk) (v:=.ref a) (u:=.ref a) rfl (fun s6 J6=>?_) (.inr hk)
  refine wpAny_mono (hs _ pins s6 _ H' _ (J6.hn (A:=X.A.mark (some (.ref a))) rfl) hth) (fun f s7 q=>?_) fun _ _ z=>z.elim
  cases f with
  | next=>obtain ⟨σ7,H7,J7,q⟩:=q;exact qB (J7.unhn J.ok) hN hi hk fun s8 J8=>⟨_,_,J8,q⟩
  | brk=>obtain ⟨σ7,H7,J7,q⟩:=q;exact qB (J7.unhn J.ok) hN hi hk fun s8 J8=>⟨_,_,J8,q⟩
  | cont=>obtain ⟨σ7,H7,J7,q⟩:=q;exact qB (J7.unhn J.ok) hN hi hk fun s8 J8=>⟨_,_,J8,q⟩
  | ret u=>obtain ⟨v,σ7,H7,J7,r,q⟩:=q;exact qB (J7.unhn J.ok) hN hi hk fun s8 J8=>⟨v,_,_,J8,r,q⟩
end
theorem mM {P:Program}{w:World}{X:Cx}:qb (nH P w) X E0:=fun _ _ _ _ _ _ _ h=>by
 obtain ⟨a,T,C,dx,H',_,_,_,_,_,_,_,_,_,hE⟩:=h
 exact hE.elim
section
variable {X:Cx}{C:Addr}{e:Expr}{pos:Pos}
def AX (K:PySem.W.Frag) (ta:TE) (f:Str):TE:=fun σ H Q=>ta σ H fun y H1=>Bh fun a C dx fs v=>y=.ref a∧H1 a=some (mr a C (some dx))∧H1 dx=some (.xd fs)∧fs.lookup f=some v∧xH K C f=true∧Q v H1
theorem BL {ta:TE}{f:Str} (he:PE X e ta) (hb:attributeBase e f X.env (eval e X.env)=eval e X.env):PE X (.Attribute e f pos) (AX X.K ta f):=by
 intro pins s σ H Q I h
 refine Cr hb (aR (he pins s σ H _ I h) fun u s1 ⟨y,H1,I1,rx,a,C,dx,fs,v,ex,ea,ed,el,g,q⟩=>?_)
 subst ex
 obtain rfl:u=Value.ref a:=rx
 obtain ⟨vs,sl,e1⟩:=AB I1.hok ea
 obtain ⟨mA,n1,rl⟩:=(show bo X.prog X.w H1 s1.heap dx (.xd fs) from I1.hok dx _ ed)
 obtain ⟨od,e2,lk⟩:=uG n1
 have rv:=rl f
 rw [el] at rv
 cases em:mA f with
 | none=>rw [em] at rv;exact rv.elim
 | some uv=>
  rw [em] at rv
  unfold xH at g
  rw [Bool.and_eq_true,Bool.and_eq_true,beq_iff_eq] at g
  obtain ⟨⟨g1,g2⟩,g3⟩:=g
  obtain ⟨cd,hc,hd⟩:=PySem.W.any_some g2
  have J:PySem.W.InstAt s1.heap a ⟨.ref C,some dx,.fields vs,sl⟩ C (some od):=⟨e1,rfl,rfl,e2⟩
  have fo:PySem.W.findObj X.K C (some od) f=some (.value uv):=by
   unfold PySem.W.findObj
   rw [hc,Option.bind_some,g3,Option.bind_some]
   simp only [Option.bind_some]
   unfold PySem.W.ownOf
   rw [hd,if_pos rfl]
   dsimp only
   rw [lk f,em]
   rfl
  exact Ft I1.kIn J g1 fo (zc rv) ⟨v,H1,I1.tok _,rv,q⟩
end
end L2
namespace L2
open PySem PySem.Spec PyProof.Rows
section
variable {X:Cx}
theorem y9 {K:PySem.W.Frag}{e:Expr}{ta:TE}{f:Str}{pos:Pos} (he:PE X e ta) (ek:X.K=K:=by rfl) (hb:attributeBase e f X.env (eval e X.env)=eval e X.env:=by rfl):PE X (.Attribute e f pos) (AX K ta f):=by
 subst ek
 exact BL he hb
end
end L2
namespace L2
open PySem PySem.Spec PyProof.Rows
structure oX (ls:List (List Nat)) (ts:List ah):Prop where
 len:ts.length=ls.length
 nd:ls.Nodup
 at':∀k t,ts[k]?=some t→ls[k]?=some t.bg∧ls[(k+1) % ls.length]?=some t.en
theorem bI {α:Type}{N:List α} (hN:N.Nodup) {i j:Nat}{x:α} (a:N[i]?=some x) (b:N[j]?=some x):i=j:=by
 obtain ⟨h1,e1⟩:=List.getElem?_eq_some_iff.mp a
 obtain ⟨h2,e2⟩:=List.getElem?_eq_some_iff.mp b
 have pw:=List.pairwise_iff_getElem.mp hN
 rcases Nat.lt_trichotomy i j with q | q | q
 ·exact absurd (e1.trans e2.symm) (pw i j h1 h2 q)
 ·exact q
 ·exact absurd (e2.trans e1.symm) (pw j i h2 h1 q)
theorem fP {R:List Nat}{ts us:List ah} (h:R.map (fun k=>ts[k]?)=us.map some) {i k:Nat} (e:R[i]?=some k):∃t,us[i]?=some t∧ts[k]?=some t:=by
 have q:(R.map fun k=>ts[k]?)[i]?=some ts[k]?:=by rw [List.getElem?_map,e];rfl
 rw [h,List.getElem?_map] at q
 obtain ⟨t,e1,e2⟩:=Option.map_eq_some_iff.mp q
 exact ⟨t,e1,e2.symm⟩
theorem tM {α:Type}{xs:List α}{i:Nat} (h:i+1<xs.length):(xs.drop 1++xs.take 1)[i]?=xs[i+1]?:=by
 rw [List.getElem?_append_left (by rw [List.length_drop];trivial),List.getElem?_drop,Nat.add_comm]
theorem rO {α:Type}{xs:List α}{i:Nat} (h:i+1=xs.length):(xs.drop 1++xs.take 1)[i]?=xs[0]?:=by
 rw [List.getElem?_append_right (by rw [List.length_drop];trivial),List.length_drop,show i - (xs.length - 1)=0 by trivial,List.getElem?_take_of_lt (by decide)]
theorem oX.turned {ls:List (List Nat)}{ts us:List ah}{R:List Nat} (h:oX ls ts) (ok:iQ ts R us):∃f,f<ls.length∧R=(List.range ls.length).map fun k=>(f+k) % ls.length:=by
 have lR:R.length=us.length:=by have:=congrArg List.length ok.at';simpa using this
 have two:=ok.two
 have lt:∀{i k:Nat},R[i]?=some k→k<ls.length:=fun e=>by
  obtain ⟨t,_,e2⟩:=fP ok.at' e
  have:=(List.getElem?_eq_some_iff.mp e2).1
  rw [h.len] at this
  exact this
 obtain ⟨f,ef⟩:∃f,R[0]?=some f:=⟨_,List.getElem?_eq_getElem (by trivial)⟩
 have hf:=lt ef
 have lb:(us.map (·.bg)).length=R.length:=by rw [List.length_map,lR]
 have nxt:∀{i k j k':Nat},R[i]?=some k→R[j]?=some k'→((us.map (·.bg)).drop 1++(us.map (·.bg)).take 1)[i]?=(us.map (·.bg))[j]?→k'=(k+1) % ls.length:=fun {i k j k'} e e' q=>by
  obtain ⟨t,e1,e2⟩:=fP ok.at' e
  obtain ⟨t',e1',e2'⟩:=fP ok.at' e'
  have q1:(us.map (·.en))[i]?=some t.en:=by rw [List.getElem?_map,e1];rfl
  rw [ok.rot,q,List.getElem?_map,e1'] at q1
  have q2:t'.bg=t.en:=Option.some.inj q1
  have a1:=(h.at' k t e2).2
  have a2:=(h.at' k' t' e2').1
  rw [q2] at a2
  exact bI h.nd a2 a1
 have all:∀i,i<R.length→R[i]?=some ((f+i) % ls.length):=by
  intro i
  induction i with
  | zero=>intro _;rw [ef,Nat.add_zero,Nat.mod_eq_of_lt hf]
  | succ i ih=>
   intro hi
   have e:=ih (by trivial)
   obtain ⟨k',e'⟩:∃k',R[i+1]?=some k':=⟨_,List.getElem?_eq_getElem hi⟩
   rw [e',nxt e e' (tM (by trivial))]
   congr 1
   rw [Nat.mod_add_mod]
   rfl
 have lst:(f+R.length) % ls.length=f:=by
  have e:=all (R.length - 1) (by trivial)
  have q:=nxt e ef (rO (by trivial))
  rw [Nat.mod_add_mod] at q
  rw [show f+R.length=f+(R.length - 1)+1 by trivial]
  exact q.symm
 have le:R.length≤ls.length:=by
  refine Nat.le_of_not_lt fun z=>?_
  have e:=all ls.length z
  rw [Nat.add_mod_right,Nat.mod_eq_of_lt hf] at e
  obtain ⟨t,e1,e2⟩:=fP ok.at' ef
  obtain ⟨t',e1',e2'⟩:=fP ok.at' e
  rw [e2] at e2'
  obtain rfl:=Option.some.inj e2'
  have z1:(us.map (·.bg))[0]?=some t.bg:=by rw [List.getElem?_map,e1];rfl
  have z2:(us.map (·.bg))[ls.length]?=some t.bg:=by rw [List.getElem?_map,e1'];rfl
  have:=bI ok.nd z1 z2
  trivial
 have en:R.length=ls.length:=by
  by_cases c:f+R.length<ls.length
  ·rw [Nat.mod_eq_of_lt c] at lst;trivial
  ·rw [Nat.mod_eq_sub_mod (by trivial),Nat.mod_eq_of_lt (by trivial)] at lst
   trivial
 refine ⟨f,hf,List.ext_getElem? fun i=>?_⟩
 by_cases hi:i<R.length
 ·rw [all i hi,List.getElem?_map,List.getElem?_range (by trivial)];rfl
 ·rw [List.getElem?_eq_none (by trivial),List.getElem?_eq_none (by simp;trivial)]
theorem uQ (a b:List ah):bY (a++b)=bY a*bY b:=by
 induction a with
 | nil=>show bY b=1*bY b;rw [Rat.one_mul]
 | cons t r ih=>show gR t*bY (r++b)=gR t*bY r*bY b;rw [ih,Rat.mul_assoc]
theorem oX.us {ls:List (List Nat)}{ts us:List ah}{R:List Nat} (h:oX ls ts) (ok:iQ ts R us):∃f,us=ts.drop f++ts.take f:=by
 obtain ⟨f,hf,eR⟩:=h.turned ok
 have lR:R.length=us.length:=by have:=congrArg List.length ok.at';simpa using this
 have ln:R.length=ls.length:=by rw [eR];simp
 have hl:=h.len
 refine ⟨f,List.ext_getElem? fun i=>?_⟩
 by_cases hi:i<ls.length
 ·have e:R[i]?=some ((f+i) % ls.length):=by rw [eR,List.getElem?_map,List.getElem?_range hi];rfl
  obtain ⟨t,e1,e2⟩:=fP ok.at' e
  rw [e1,←e2]
  by_cases c:f+i<ls.length
  ·rw [Nat.mod_eq_of_lt c,List.getElem?_append_left (by rw [List.length_drop];trivial),List.getElem?_drop]
  ·rw [Nat.mod_eq_sub_mod (by trivial),Nat.mod_eq_of_lt (by trivial),List.getElem?_append_right (by rw [List.length_drop];trivial),List.length_drop,List.getElem?_take_of_lt (by trivial)]
   congr 1
   trivial
 ·rw [List.getElem?_eq_none (by trivial),List.getElem?_eq_none (by rw [List.length_append,List.length_drop,List.length_take];trivial)]
theorem oX.prod {ls:List (List Nat)}{ts us:List ah}{R:List Nat} (h:oX ls ts) (ok:iQ ts R us):bY us=bY ts∧∀t∈ts,t.most≠(0,1):=by
 obtain ⟨f,e⟩:=h.us ok
 refine ⟨?_,fun t ht=>ok.op t ?_⟩
 ·rw [e,uQ,Rat.mul_comm,←uQ,List.take_append_drop]
 ·rw [e]
  rw [←List.take_append_drop f ts] at ht
  rcases List.mem_append.mp ht with z | z
  ·exact List.mem_append_right _ z
  ·exact List.mem_append_left _ z
theorem oX.le {ls:List (List Nat)}{ts:List ah}{u:List Nat→Rat} (h:oX ls ts) (ne:ls≠[]) (pos:∀l∈ls,0<u l) (ok:∀t∈ts,dR ls t∧gR t*u t.en≤u t.bg):bY ts≤1:=by
 have hl:=h.len
 have n0:0<ls.length:=List.length_pos_iff.mpr ne
 have eb:ts.map (·.bg)=ls:=by
  refine List.ext_getElem? fun i=>?_
  rw [List.getElem?_map]
  by_cases hi:i<ts.length
  ·obtain ⟨t,et⟩:∃t,ts[i]?=some t:=⟨_,List.getElem?_eq_getElem hi⟩
   rw [et,(h.at' i t et).1];rfl
  ·rw [List.getElem?_eq_none (by trivial),List.getElem?_eq_none (by trivial)];rfl
 have ee:ts.map (·.en)=ls.drop 1++ls.take 1:=by
  refine List.ext_getElem? fun i=>?_
  rw [List.getElem?_map]
  by_cases hi:i<ts.length
  ·obtain ⟨t,et⟩:∃t,ts[i]?=some t:=⟨_,List.getElem?_eq_getElem hi⟩
   rw [et]
   show some t.en=_
   rw [←(h.at' i t et).2]
   by_cases c:i+1<ls.length
   ·rw [Nat.mod_eq_of_lt c,tM c]
   ·rw [show i+1=ls.length by trivial,Nat.mod_self,rO (by trivial)]
  ·rw [List.getElem?_eq_none (by trivial),List.getElem?_eq_none (by rw [List.length_append,List.length_drop,List.length_take];trivial)];rfl
 cases ls with
 | nil=>exact absurd rfl ne
 | cons l0 r=>
  have ch:ts.map (·.bg)++[l0]=l0 :: ts.map (·.en):=by rw [eb,ee];rfl
  have q:=uE (ls:=l0 :: r) (u:=u) pos ch ok
  have u0:=pos l0 (by simp)
  refine Rat.not_lt.mp fun z=>?_
  have m:=Rat.mul_lt_mul_of_pos_left z u0
  rw [Rat.mul_one,Rat.mul_comm] at m
  exact absurd q (Rat.not_le.mpr m)
end L2
namespace L2
open PySem PySem.Spec PyProof.Rows
section
variable {X:Cx}
def De (tk tv:TE):TE:=fun σ H Q=>∀p H0,Nw H p (.dK []) H0→tk σ H0 fun x H1=>∃k,x=jv k∧tv σ H1 fun y H2=>H2 p=some (.dK [])∧∀H3,Bf H2 p (.dK [(k,y)]) H3→Q (.ref p) H3
theorem vp {k v:Expr}{tk tv:TE}{pos:Pos} (hk:PE X k tk) (hv:PE X v tv):PE X (.Dict [some k] [v] pos) (De tk tv):=by
 intro pins s σ H Q I h
 have big:(s.heap.objs.size==sysModules)=false:=by
  have e:mainGlobals<s.heap.objs.size:=(I.mod.glob.keeps I.bk).lt
  exact beq_eq_false_iff_ne.mpr (Ne.symm (Nat.ne_of_lt (Nat.lt_trans (by decide) e)))
 have I1:=I.laid (a:=s.heap.objs.size) (o:=.dK []) (h':=s.heap.push { cls:=.type "dict",data:=.dict #[] }) (t':=s.toks) (fun _ _ e=>Heap.get?_push_of_some _ e) (Nat.le_refl _) (show bo X.prog X.w _ _ _ (.dK []) from ⟨Nat.zero_le _,big,[],.nil,Heap.DictOf.new s.heap⟩)
 refine wpAny_Dict_walk (knd:=cf X.prog X.w) rfl rfl (by simp) (by show 1≤15;decide) (pairTrees_cons_walk (aR (hk pins _ σ _ _ I1 (h _ _ (.mk' I.fresh))) fun u s1 ⟨x,H1,I2,rx,kk,ex,q1⟩=>aR (hv pins s1 σ H1 _ I2 q1) fun w2 s2 ⟨y,H2,I3,ry,e,q2⟩=>pairTrees_nil_walk ?_))
 subst ex
 obtain ⟨hz,hm,vs,rel,dd⟩:=(show bo X.prog X.w H2 s2.heap _ (.dK []) from I3.hok _ _ e)
 cases rel
 refine ⟨[(kk,w2)],⟨jb rx,rfl,True.intro⟩,dd,fun h' dd' hs=>⟨.ref s.heap.objs.size,_,?_,rfl,q2 _ .mk'⟩⟩
 exact I3.dset e hm (by show 1≤_;rw [sizeLine_eq];decide) (.cons ⟨rfl,ry⟩ .nil) dd' hs
def FO (td ty:TE):TE:=fun σ H Q=>td σ H fun x H1=>bz fun d kv=>x=.ref d∧H1 d=some (.dK kv)∧ty σ H1 fun y H2=>bz fun kvs k=>y=jv k∧H2 d=some (.dK kvs)∧Q ((valD kvs k).getD .non) H2
theorem BS {o e:Expr}{apos cpos:Pos}{td ty:TE} (ho:PE X o td) (he:PE X e ty)
 (h1:attributeBase o "get" X.env (eval o X.env)=eval o X.env:=by rfl)
 (h2:((backTo cpos (starEach [e] X.env)).all (fun x=>!x.1) && (backToKw cpos (keywordEach [] X.env)).all (fun x=>x.1.isSome) && decide (([e]:List Expr).length+([]:List Keyword).length+(if ([]:List Keyword).isEmpty then 0 else 1)<30))=true:=by rfl)
 (h3:(apos.endLine==cpos.line)=true:=by rfl) (h4:backTo cpos (starEach [e] X.env)=[(false,eval e X.env)]:=by rfl):PE X (.Call (.Attribute o "get" apos) [e] [] cpos) (FO td ty):=by
 intro pins s σ H Q I h
 refine wpAny_Call_method h1 h2 h3 PySem.F.plainAttrs_dict PySem.F.slot_dict_get PySem.F.type_dict_get (aR (ho pins s σ H _ I h) fun u s1 ⟨x,H1,I1,rx,d,kv,ex,hd,q1⟩=>?_)
 subst ex
 cases rx
 obtain ⟨hz,hm,vs,rel,dd⟩:=(show bo X.prog X.w H1 s1.heap d (.dK kv) from I1.hok _ _ hd)
 refine ⟨dd.typeIs,fun b q=>?_,?_⟩
 ·cases q
  obtain ⟨ob,_,_,h1,h2,_⟩:=dd
  exact ⟨ob,h1,h2.2.1⟩
 rw [h4]
 refine Calls.callWith_builtin rfl (Calls.evalArgs_plain (Calls.spliced_cons (aR (he pins s1 σ H1 _ I1 q1) fun iv s2 ⟨y,H2,I2,ry,kvs,k,ey,hd2,q2⟩=>Calls.spliced_nil ?_)))
 subst ey
 obtain ⟨hz,hm,vs2,rel2,dd2⟩:=(show bo X.prog X.w H2 s2.heap d (.dK kvs) from I2.hok _ _ hd2)
 refine call_meetsIn PySem.F.slot_dict_get dd2.typeIs PySem.F.entry_dict_get (PySem.F.args_dict_get_2 _ _) (meets_dict_get (cf X.prog X.w) d (jb ry) hm) ⟨_,dd2.mapOf,_,H2,I2.tok _,?_,q2⟩
 have r:=rel2.valD k
 revert r
 generalize valueAt vs2 k=o2
 cases valD kvs k <;> cases o2 <;> intro r
 ·exact rfl
 ·exact r.elim
 ·exact r.elim
 ·exact r
end
end L2
namespace L2
open PySem PySem.Spec PyProof.Rows
abbrev pd:=List Nat→Option KM.Fra
def vn (a b:KM.Fra):Bool:=decide (a.1*b.2<b.1*a.2)
def fT (ω:pd) (t:ah):Option KM.Fra:=if t.most=(0,1) then none else
 match ω t.en with
 | none=>none
 | some we=>match ω t.bg with
  | none=>some (KM.lTim t.gain we)
  | some wb=>if vn wb (KM.lTim t.gain we)=true then some (KM.lTim t.gain we) else none
theorem FY {ω:pd}{t:ah}{we:KM.Fra} (h:t.most≠(0,1)) (e:ω t.en=some we) (b:ω t.bg=none):fT ω t=some (KM.lTim t.gain we):=by
 simp only [fT,if_neg h,e,b]
theorem FX {ω:pd}{t:ah}{we wb:KM.Fra} (h:t.most≠(0,1)) (e:ω t.en=some we) (b:ω t.bg=some wb):fT ω t=if vn wb (KM.lTim t.gain we)=true then some (KM.lTim t.gain we) else none:=by
 simp only [fT,if_neg h,e,b]
structure LP where
 ω:pd
 on:List Nat→Option Nat
 lf:Option (List Nat)
def jA (i:Nat) (t:ah) (w:KM.Fra) (s:LP):LP:=⟨fun l=>if l=t.bg then some w else s.ω l,fun l=>if l=t.bg then some i else s.on l,some t.bg⟩
def ii (i:Nat) (t:ah) (s:LP):LP:=match fT s.ω t with
 | some w=>jA i t w s
 | none=>s
theorem ku {i:Nat}{t:ah}{s:LP}{w:KM.Fra} (h:fT s.ω t=some w):ii i t s=jA i t w s:=by unfold ii;rw [h]
theorem j5 {i:Nat}{t:ah}{s:LP} (h:fT s.ω t=none):ii i t s=s:=by unfold ii;rw [h]
def upP (ts:List ah) (s:LP):Nat→LP
 | 0=>{ s with lf:=none }
 | i+1=>match ts[i]? with
  | some t=>ii i t (upP ts s i)
  | none=>upP ts s i
theorem rK {i:Nat}{ts:List ah}{s:LP}{t:ah} (h:ts[i]?=some t):upP ts s (i+1)=ii i t (upP ts s i):=by rw [upP,h]
def gM (ts:List ah) (s:LP):LP:=upP ts s ts.length
def gk (ts:List ah) (s:LP):Nat→LP
 | 0=>s
 | k+1=>gM ts (gk ts s k)
def gL (s:LS):LP:=⟨fun l=>some (s.ω l),s.on,s.lf⟩
theorem AJ (p i:Nat) (t:ah) (s:LS):ii i t (gL s)=gL (lC p i t s):=by
 have e:fT (gL s).ω t=if fW s.ω t=true then some (KM.lTim t.gain (s.ω t.en)) else none:=by
  unfold fT fW
  by_cases c:t.most=(0,1)
  ·rw [if_pos c,decide_eq_false (fun z=>z c)];rfl
  ·rw [if_neg c,decide_eq_true c,Bool.true_and];rfl
 cases q:fW s.ω t with
 | true=>
  rw [q,if_pos rfl] at e
  rw [ku e,p7 q]
  unfold jA gL
  congr 1
  funext l
  show (if l=t.bg then _ else _)=some (jY _ _ _ _)
  unfold jY
  by_cases c:l=t.bg
  ·rw [if_pos c,if_pos c]
  ·rw [if_neg c,if_neg c]
 | false=>
  rw [q,if_neg Bool.false_ne_true] at e
  rw [j5 e,rR q]
theorem vE (p:Nat) (ts:List ah) (s:LS):∀i,upP ts (gL s) i=gL (ix p ts s i)
 | 0=>rfl
 | i+1=>by
  rw [upP,ix]
  cases ts[i]? with
  | none=>exact vE p ts s i
  | some t=>
   show ii i t (upP ts (gL s) i)=gL (lC p i t (ix p ts s i))
   rw [vE p ts s i,AJ p]
theorem vK (p:Nat) (ts:List ah) (s:LS):gM ts (gL s)=gL (jx p ts s):=vE p ts s _
theorem oq (ts:List ah):∀k,gk ts (gL sw) k=gL (bN ts k)
 | 0=>rfl
 | k+1=>by
  show gM ts (gk ts (gL sw) k)=gL (jx (k+1) ts (bN ts k))
  rw [oq ts k,vK (k+1)]
structure PV (ts:List ah) (ω0:pd) (s:LP):Prop where
 pos:∀l w,s.ω l=some w→1≤w.1∧KM.Rd w
 no:∀l,s.on l=none→s.ω l=ω0 l
 on:∀l k,s.on l=some k→jq fun t w we=>ts[k]?=some t∧t.most≠(0,1)∧t.bg=l∧s.ω l=some w∧s.ω t.en=some we∧KM.vl w≤gR t*KM.vl we
 up:∀l w,ω0 l=some w→∃w',s.ω l=some w'∧KM.vl w≤KM.vl w'
def Cl (s:LP) (t:ah):Prop:=∀we,s.ω t.en=some we→∃wb,s.ω t.bg=some wb∧gR t*KM.vl we≤KM.vl wb
theorem qw {ls:List (List Nat)}{t:ah}{we:KM.Fra} (c:dR ls t) (p:1≤we.1∧KM.Rd we):KM.vl (KM.lTim t.gain we)=gR t*KM.vl we∧1≤(KM.lTim t.gain we).1∧KM.Rd (KM.lTim t.gain we):=by
 obtain ⟨p1,p2,_⟩:=p
 have g2:=c.g2
 exact ⟨KM.vl_tim (by trivial) (by trivial),tU c.g1 c.g2 p1 p2,KM.Rd.low (Int.ne_of_gt (Int.mul_pos (by trivial) (by trivial)))⟩
theorem xh {ls:List (List Nat)}{ω:pd}{t:ah}{w:KM.Fra} (c:dR ls t) (pos:∀l w,ω l=some w→1≤w.1∧KM.Rd w) (h:fT ω t=some w):t.most≠(0,1)∧∃we,ω t.en=some we∧w=KM.lTim t.gain we∧∀wb,ω t.bg=some wb→KM.vl wb<gR t*KM.vl we:=by
 unfold fT at h
 by_cases m:t.most=(0,1)
 ·rw [if_pos m] at h;cases h
 rw [if_neg m] at h
 refine ⟨m,?_⟩
 cases e:ω t.en with
 | none=>rw [e] at h;cases h
 | some we=>
  rw [e] at h
  obtain ⟨v1,v2,v3⟩:=qw c (pos _ _ e)
  cases b:ω t.bg with
  | none=>
   rw [b] at h
   exact ⟨we,rfl,(Option.some.inj h).symm,fun wb z=>by cases z⟩
  | some wb=>
   rw [b] at h
   have h:(if vn wb (KM.lTim t.gain we)=true then some (KM.lTim t.gain we) else none)=some w:=h
   by_cases q:vn wb (KM.lTim t.gain we)=true
   ·rw [if_pos q] at h
    refine ⟨we,rfl,(Option.some.inj h).symm,fun wb' z=>?_⟩
    cases z
    rw [←v1]
    exact (iZ (pos _ _ b).2.1 v3.1).mpr (of_decide_eq_true q)
   ·rw [if_neg q] at h;cases h
theorem sU {ls:List (List Nat)}{s:LP}{t:ah} (c:dR ls t) (pos:∀l w,s.ω l=some w→1≤w.1∧KM.Rd w) (m:t.most≠(0,1)):fT s.ω t=none↔Cl s t:=by
 unfold fT Cl
 rw [if_neg m]
 cases e:s.ω t.en with
 | none=>exact ⟨fun _ we z=>(by cases z),fun _=>rfl⟩
 | some we=>
  obtain ⟨v1,v2,v3⟩:=qw c (pos _ _ e)
  cases b:s.ω t.bg with
  | none=>
   constructor
   ·intro z;cases z
   ·intro z
    obtain ⟨wb,q,_⟩:=z we rfl
    cases q
  | some wb=>
   show (if vn wb (KM.lTim t.gain we)=true then some (KM.lTim t.gain we) else none)=none↔_
   have iff:=iZ (pos _ _ b).2.1 v3.1
   rw [v1] at iff
   by_cases q:vn wb (KM.lTim t.gain we)=true
   ·rw [if_pos q]
    constructor
    ·intro z;cases z
    ·intro z
     obtain ⟨wb',q',le⟩:=z we rfl
     cases q'
     exact absurd (iff.mpr (of_decide_eq_true q)) (Rat.not_lt.mpr le)
   ·rw [if_neg q]
    refine ⟨fun _ we' z=>?_,fun _=>rfl⟩
    cases z
    exact ⟨wb,rfl,Rat.not_lt.mp fun z=>q (decide_eq_true (iff.mp z))⟩
theorem PV.step {ls:List (List Nat)}{ts:List ah}{ω0:pd}{s:LP}{i:Nat}{t:ah} (tc:∀t∈ts,dR ls t) (et:ts[i]?=some t) (h:PV ts ω0 s):PV ts ω0 (ii i t s)∧∀l w,s.ω l=some w→∃w',(ii i t s).ω l=some w'∧KM.vl w≤KM.vl w':=by
 have c:=tc t (List.mem_of_getElem? et)
 cases q:fT s.ω t with
 | none=>rw [j5 q];exact ⟨h,fun l w e=>⟨w,e,Rat.le_refl⟩⟩
 | some w=>
  obtain ⟨m,we,ee,rfl,lt⟩:=xh c h.pos q
  obtain ⟨v1,v2,v3⟩:=qw c (h.pos _ _ ee)
  rw [ku q]
  have g0:∀{t:ah},t∈ts→0≤gR t:=fun {t} ht=>Rat.le_of_lt (fQ (tc t ht).g1 (tc t ht).g2)
  have eo:∀l,(jA i t (KM.lTim t.gain we) s).ω l=if l=t.bg then some (KM.lTim t.gain we) else s.ω l:=fun _=>rfl
  have en:∀l,(jA i t (KM.lTim t.gain we) s).on l=if l=t.bg then some i else s.on l:=fun _=>rfl
  have mo:∀l w,s.ω l=some w→∃w',(jA i t (KM.lTim t.gain we) s).ω l=some w'∧KM.vl w≤KM.vl w':=fun l w e=>by
   rw [eo]
   by_cases z:l=t.bg
   ·rw [if_pos z]
    rw [z] at e
    exact ⟨_,rfl,by rw [v1];exact Rat.le_of_lt (lt w e)⟩
   ·rw [if_neg z];exact ⟨w,e,Rat.le_refl⟩
  generalize jA i t (KM.lTim t.gain we) s=s' at eo en mo ⊢
  refine ⟨⟨fun l w' e=>?_,fun l e=>?_,fun l k e=>?_,fun l w' e=>?_⟩,mo⟩
  ·rw [eo] at e
   by_cases z:l=t.bg
   ·rw [if_pos z] at e;cases e;exact ⟨v2,v3⟩
   ·rw [if_neg z] at e;exact h.pos l w' e
  ·rw [en] at e
   by_cases z:l=t.bg
   ·rw [if_pos z] at e;cases e
   ·rw [if_neg z] at e;rw [eo,if_neg z];exact h.no l e
  ·rw [en] at e
   by_cases z:l=t.bg
   ·rw [if_pos z] at e
    cases e
    refine ⟨t,_,we,et,m,z.symm,by rw [eo,if_pos z],by rw [eo,if_neg fun y=>c.ne y.symm];exact ee,by rw [v1];exact Rat.le_refl⟩
   ·rw [if_neg z] at e
    obtain ⟨t',w',we',e1,e2,e3,e4,e5,e6⟩:=h.on l k e
    obtain ⟨we2,e7,e8⟩:=mo _ _ e5
    exact ⟨t',w',we2,e1,e2,e3,by rw [eo,if_neg z];exact e4,e7,Rat.le_trans e6 (KM.mul_le_l e8 (g0 (List.mem_of_getElem? e1)))⟩
  ·obtain ⟨w1,e1,l1⟩:=h.up l w' e
   obtain ⟨w2,e2,l2⟩:=mo _ _ e1
   exact ⟨w2,e2,Rat.le_trans l1 l2⟩
theorem PV.upP {ls:List (List Nat)}{ts:List ah}{ω0:pd}{s:LP} (tc:∀t∈ts,dR ls t) (h:PV ts ω0 s):∀i,PV ts ω0 (L2.upP ts s i)
 | 0=>⟨h.pos,h.no,h.on,h.up⟩
 | i+1=>by
  rw [L2.upP]
  cases e:ts[i]? with
  | none=>exact PV.upP tc h i
  | some t=>exact ((PV.upP tc h i).step tc e).1
theorem PV.st {ls:List (List Nat)}{ts:List ah}{s:LP} (tc:∀t∈ts,dR ls t) (h:PV ts s.ω s):∀k,PV ts s.ω (gk ts s k)
 | 0=>h
 | k+1=>(PV.st tc h k).upP tc _
theorem rf {ts:List ah}{s:LP}:∀{i:Nat},(upP ts s i).lf=none→upP ts s i={ s with lf:=none }∧∀k t,k<i→ts[k]?=some t→fT s.ω t=none
 | 0,_=>⟨rfl,fun k t h=>by trivial⟩
 | i+1,h=>by
  cases e:ts[i]? with
  | none=>
   have e':upP ts s (i+1)=upP ts s i:=by rw [upP,e]
   rw [e'] at h ⊢
   obtain ⟨h1,h2⟩:=rf h
   refine ⟨h1,fun k t hk et=>?_⟩
   by_cases c:k=i
   ·rw [c,e] at et;cases et
   ·exact h2 k t (by trivial) et
  | some t=>
   rw [rK e] at h ⊢
   cases q:fT (upP ts s i).ω t with
   | some w=>rw [ku q] at h;cases h
   | none=>
    rw [j5 q] at h ⊢
    obtain ⟨h1,h2⟩:=rf h
    refine ⟨h1,fun k t' hk et=>?_⟩
    by_cases c:k=i
    ·rw [c,e] at et;cases et;rw [h1] at q;exact q
    ·exact h2 k t' (by trivial) et
theorem sT {ts:List ah}{s:LP} (h:(gM ts s).lf=none):gM ts s={ s with lf:=none }∧∀t∈ts,fT s.ω t=none:=by
 obtain ⟨h1,h2⟩:=rf h
 refine ⟨h1,fun t ht=>?_⟩
 obtain ⟨k,hk⟩:=List.getElem?_of_mem ht
 exact h2 k t (List.getElem?_eq_some_iff.mp hk).1 hk
theorem xL {ts:List ah}{s:LP} (h:∀t∈ts,fT s.ω t=none):∀i,upP ts s i={ s with lf:=none }
 | 0=>rfl
 | i+1=>by
  rw [upP]
  cases e:ts[i]? with
  | none=>exact xL h i
  | some t=>
   have q:=h t (List.mem_of_getElem? e)
   show ii i t (upP ts s i)=_
   rw [xL h i]
   exact j5 q
theorem A2 {ls:List (List Nat)}{ts:List ah}{s:LP}{m:Nat} (tc:∀t∈ts,dR ls t) (h:PV ts s.ω s) (e:(gk ts s (m+1)).lf=none):∀t∈ts,t.most≠(0,1)→Cl (gk ts s m) t:=fun t ht ho=>
 (sU (tc t ht) (PV.st tc h m).pos ho).mp ((sT (s:=gk ts s m) e).2 t ht)
structure Gd (ts:List ah) (rk:List Nat→Nat) (p i:Nat) (s:LP):Prop where
 up:∀k t,ts[k]?=some t→t.most≠(0,1)→Cl s t∨(if k<i then p else p - 1)≤rk t.en
theorem Gd.step {ls:List (List Nat)}{ts:List ah}{rk:List Nat→Nat}{ω0:pd}{p i:Nat}{s:LP}{t:ah} (tc:∀t∈ts,dR ls t) (gr:∀t∈ts,rk t.en<rk t.bg) (et:ts[i]?=some t) (v:PV ts ω0 s) (h:Gd ts rk p i s):Gd ts rk p (i+1) (ii i t s):=by
 have c:=tc t (List.mem_of_getElem? et)
 have mo:=(v.step tc et).2
 refine ⟨fun k t' ek ho=>?_⟩
 have ht':=List.mem_of_getElem? ek
 have g0:0≤gR t':=Rat.le_of_lt (fQ (tc t' ht').g1 (tc t' ht').g2)
 cases q:fT s.ω t with
 | none=>
  rw [j5 q]
  by_cases ck:k=i
  ·subst ck
   rw [et] at ek
   cases ek
   exact .inl ((sU c v.pos ho).mp q)
  ·rcases h.up k t' ek ho with z | z
   ·exact .inl z
   ·right
    by_cases ck2:k<i
    ·rw [if_pos (by trivial)];rw [if_pos ck2] at z;exact z
    ·rw [if_neg (by trivial)];rw [if_neg ck2] at z;exact z
 | some w=>
  obtain ⟨m,we,ee,rfl,lt⟩:=xh c v.pos q
  obtain ⟨v1,v2,v3⟩:=qw c (v.pos _ _ ee)
  have nc:¬Cl s t:=fun z=>by rw [(sU c v.pos m).mpr z] at q;cases q
  have r0:p - 1≤rk t.en:=by
   rcases h.up i t et m with z | z
   ·exact absurd z nc
   ·rw [if_neg (Nat.lt_irrefl _)] at z;exact z
  have r1:=gr t (List.mem_of_getElem? et)
  have eo:∀l,(ii i t s).ω l=if l=t.bg then some (KM.lTim t.gain we) else s.ω l:=fun l=>by rw [ku q];rfl
  by_cases ck:k=i
  ·subst ck
   rw [et] at ek
   cases ek
   left
   intro we' e'
   rw [eo,if_neg (fun y=>c.ne y.symm),ee] at e'
   cases e'
   exact ⟨_,by rw [eo,if_pos rfl],by rw [v1];exact Rat.le_refl⟩
  ·by_cases ce:t'.en=t.bg
   ·right
    rw [ce]
    split <;> trivial
   ·rcases h.up k t' ek ho with z | z
    ·left
     intro we' e'
     rw [eo,if_neg ce] at e'
     obtain ⟨wb,e1,l1⟩:=z we' e'
     obtain ⟨wb2,e2,l2⟩:=mo _ _ e1
     exact ⟨wb2,e2,Rat.le_trans l1 l2⟩
    ·right
     by_cases ck2:k<i
     ·rw [if_pos (by trivial)];rw [if_pos ck2] at z;exact z
     ·rw [if_neg (by trivial)];rw [if_neg ck2] at z;exact z
theorem Gd.all {ls:List (List Nat)}{ts:List ah}{rk:List Nat→Nat}{ω0:pd}{p:Nat}{s:LP} (tc:∀t∈ts,dR ls t) (gr:∀t∈ts,rk t.en<rk t.bg) (v:PV ts ω0 s) (h:Gd ts rk p ts.length s):∀i,i≤ts.length→Gd ts rk (p+1) i (upP ts s i)
 | 0,_=>⟨fun k t ek ho=>by
  rcases h.up k t ek ho with z | z
  ·exact .inl z
  ·right
   rw [if_pos (List.getElem?_eq_some_iff.mp ek).1] at z
   rw [if_neg (by trivial)]
   exact z⟩
 | i+1,hi=>by
  have e:ts[i]?=some ts[i]:=List.getElem?_eq_getElem (by trivial)
  rw [rK e]
  exact (Gd.all tc gr v h i (by trivial)).step tc gr e (v.upP tc i)
theorem Gd.st {ls:List (List Nat)}{ts:List ah}{rk:List Nat→Nat}{s:LP} (tc:∀t∈ts,dR ls t) (gr:∀t∈ts,rk t.en<rk t.bg) (v:PV ts s.ω s):∀p,Gd ts rk p ts.length (gk ts s p)
 | 0=>⟨fun k t _ _=>.inr (by split <;> exact Nat.zero_le _)⟩
 | p+1=>Gd.all tc gr (PV.st tc v p) (Gd.st tc gr v p) _ (Nat.le_refl _)
theorem wP {ls:List (List Nat)}{ts:List ah}{rk:List Nat→Nat}{s:LP}{N:Nat} (tc:∀t∈ts,dR ls t) (gr:∀t∈ts,rk t.en<rk t.bg) (hN:∀t∈ts,rk t.en<N) (v:PV ts s.ω s):(gk ts s (N+1)).lf=none:=by
 have g:=Gd.st tc gr v N
 have q:∀t∈ts,fT (gk ts s N).ω t=none:=fun t ht=>by
  by_cases m:t.most=(0,1)
  ·unfold fT;rw [if_pos m]
  ·obtain ⟨k,hk⟩:=List.getElem?_of_mem ht
   rcases g.up k t hk m with z | z
   ·exact (sU (tc t ht) (PV.st tc v N).pos m).mpr z
   ·rw [if_pos (List.getElem?_eq_some_iff.mp hk).1] at z
    have:=hN t ht
    trivial
 show (gM ts (gk ts s N)).lf=none
 unfold gM
 rw [xL q]
theorem uR {ts us:List ah}{R:List Nat}{rk:List Nat→Nat} (gr:∀t∈ts,rk t.en<rk t.bg) (ok:iQ ts R us):False:=by
 have lR:R.length=us.length:=by have:=congrArg List.length ok.at';simpa using this
 have two:=ok.two
 have memT:∀{i:Nat}{t:ah},us[i]?=some t→t∈ts:=fun {i t} e=>by
  have:some t∈R.map (fun k=>ts[k]?):=by rw [ok.at'];exact List.mem_map_of_mem (List.mem_of_getElem? e)
  obtain ⟨k,_,hk⟩:=List.mem_map.mp this
  exact List.mem_of_getElem? hk
 have lb:(us.map (·.bg)).length=us.length:=List.length_map ..
 have nx:∀{i j:Nat}{t t':ah},us[i]?=some t→us[j]?=some t'→((us.map (·.bg)).drop 1++(us.map (·.bg)).take 1)[i]?=(us.map (·.bg))[j]?→rk t'.bg<rk t.bg:=fun {i j t t'} e e' q=>by
  have q1:(us.map (·.en))[i]?=some t.en:=by rw [List.getElem?_map,e];rfl
  rw [ok.rot,q,List.getElem?_map,e'] at q1
  have q2:t'.bg=t.en:=Option.some.inj q1
  rw [q2]
  exact gr t (memT e)
 obtain ⟨t0,e0⟩:∃t,us[0]?=some t:=⟨_,List.getElem?_eq_getElem (by trivial)⟩
 have all:∀i t,us[i]?=some t→rk t.bg+i≤rk t0.bg:=by
  intro i
  induction i with
  | zero=>intro t e;rw [e0] at e;cases e;exact Nat.le_refl _
  | succ i ih=>
   intro t e
   have hi:=(List.getElem?_eq_some_iff.mp e).1
   obtain ⟨u,eu⟩:∃u,us[i]?=some u:=⟨_,List.getElem?_eq_getElem (by trivial)⟩
   have:=nx eu e (tM (by trivial))
   have:=ih u eu
   trivial
 obtain ⟨u,eu⟩:∃u,us[us.length - 1]?=some u:=⟨_,List.getElem?_eq_getElem (by trivial)⟩
 have a1:=all _ u eu
 have a2:=nx eu e0 (rO (by trivial))
 trivial
end L2
namespace L2
open PySem PySem.Spec PyProof.Rows
structure Bd (b:Int) (p:KM.Fra):Prop where
 n1:1≤p.1
 n2:p.1≤b
 d1:1≤p.2
 d2:p.2≤b
 g:Int.gcd p.1 p.2=1
theorem Bd.mono {a b:Int}{p:KM.Fra} (h:Bd a p) (k:a≤b):Bd b p:=⟨h.n1,Int.le_trans h.n2 k,h.d1,Int.le_trans h.d2 k,h.g⟩
theorem Bd.rd {a:Int}{p:KM.Fra} (h:Bd a p):KM.Rd p:=⟨h.d1,h.g⟩
theorem wC {a n d:Int} (hn:1≤n) (hn2:n≤a) (hd:1≤d) (hd2:d≤a):Bd a (KM.low n d):=by
 obtain ⟨h1,_,h3,h4,h5⟩:=KM.low_spec n d (by trivial)
 have h0:1≤(KM.low n d).1:=(KM.low_sgn (by trivial)).1.mpr (by trivial)
 exact ⟨h0,by trivial,h1,by trivial,h3⟩
theorem Bd.tim {a b c:Int}{p q:KM.Fra} (h:Bd a p) (k:Bd b q) (e:a*b≤c):Bd c (KM.lTim p q):=by
 have a0:=Int.le_trans h.n1 h.n2
 have b0:=Int.le_trans k.n1 k.n2
 refine wC ?_ (Int.le_trans (Int.mul_le_mul h.n2 k.n2 (by have:=k.n1;trivial) (by trivial)) e) ?_ (Int.le_trans (Int.mul_le_mul h.d2 k.d2 (by have:=k.d1;trivial) (by trivial)) e)
 ·have:=Int.mul_pos (show 0<p.1 by have:=h.n1;trivial) (show 0<q.1 by have:=k.n1;trivial);trivial
 ·have:=Int.mul_pos (show 0<p.2 by have:=h.d1;trivial) (show 0<q.2 by have:=k.d1;trivial);trivial
theorem Bd.inv {a:Int}{p:KM.Fra} (h:Bd a p):Bd a (p.2,p.1):=⟨h.d1,h.d2,h.n1,h.n2,by show Int.gcd p.2 p.1=1;rw [Int.gcd_comm];exact h.g⟩
theorem Bd.ovr {a b c:Int}{p q:KM.Fra} (h:Bd a p) (k:Bd b q) (e:a*b≤c):Bd c (mj p q):=h.tim k.inv e
theorem Bd.gb {a:Int}{m:Nat}{p:KM.Fra} (h:Bd a p) (k:a<2 ^ m):Gb m m p:=by
 have c:((2 ^ m:Nat):Int)=(2:Int) ^ m:=by simp
 have e1:p.1.natAbs<2 ^ m:=by have:=h.n1;have:=h.n2;trivial
 have e2:p.2.natAbs<2 ^ m:=by have:=h.d1;have:=h.d2;trivial
 exact ⟨e1,e2,h.d1⟩
theorem Bd.pos {a:Int}{p:KM.Fra} (h:Bd a p):0<KM.vl p:=fQ h.n1 h.d1
theorem vV:Bd 1 (1,1):=⟨by decide,by decide,by decide,by decide,by decide⟩
theorem jz:KM.vl (1,1)=1:=by decide +kernel
theorem CN {a:Int}{p:KM.Fra} (h:Bd a p):KM.vl (p.2,p.1)*KM.vl p=1:=by
 have e:=KM.vl_tim (p:=(p.2,p.1)) (q:=p) (by have:=h.n1;show p.1≠0;trivial) (by have:=h.d1;trivial)
 rw [←e]
 have:KM.lTim (p.2,p.1) p=(1,1):=by
  show KM.low (p.2*p.1) (p.1*p.2)=_
  rw [Int.mul_comm p.1 p.2]
  have q:0<p.2*p.1:=Int.mul_pos (by have:=h.d1;trivial) (by have:=h.n1;trivial)
  exact KM.low_uniq (by trivial) (by decide) (by decide) (by show _=_;trivial)
 rw [this]
 exact jz
theorem DP {a b:Int}{p q:KM.Fra} (h:Bd a p) (k:Bd b q):KM.vl (mj p q)*KM.vl q=KM.vl p:=by
 have e:KM.vl (mj p q)=KM.vl p*KM.vl (q.2,q.1):=KM.vl_tim (p:=p) (q:=(q.2,q.1)) (by have:=h.d1;trivial) (by have:=k.n1;show q.1≠0;trivial)
 rw [e,Rat.mul_assoc,CN k,Rat.mul_one]
def bP (gs:List KM.Fra):Rat:=(gs.map KM.vl).foldr (· * ·) 1
theorem uD (a b:List KM.Fra):bP (a++b)=bP a*bP b:=by
 induction a with
 | nil=>show bP b=1*bP b;rw [Rat.one_mul]
 | cons t r ih=>show KM.vl t*bP (r++b)=KM.vl t*bP r*bP b;rw [ih,Rat.mul_assoc]
theorem zd (xs:List KM.Fra) (x:KM.Fra) (k:Nat):bP (xs.take k++x :: xs.drop k)=KM.vl x*bP xs:=by
 rw [uD]
 show bP (xs.take k)*(KM.vl x*bP (xs.drop k))=_
 rw [←Rat.mul_assoc,Rat.mul_comm (bP (xs.take k)),Rat.mul_assoc,←uD,List.take_append_drop]
theorem BK (ts:List ah):bY ts=bP (ts.map (·.gain)):=by
 unfold bY bP
 rw [List.map_map]
 rfl
theorem xC:∀(gs:List KM.Fra) (p:KM.Fra) {a:Int},KM.Rd p→(∀g∈gs,Bd a g)→KM.vl (gs.foldl KM.lTim p)=KM.vl p*bP gs
 | [],p,_,_,_=>by show KM.vl p=KM.vl p*1;rw [Rat.mul_one]
 | g :: r,p,a,hp,h=>by
  have hg:=h g (List.mem_cons_self ..)
  have p1:=hp.1
  have g1:=hg.d1
  have e:KM.Rd (KM.lTim p g):=KM.Rd.low (Int.ne_of_gt (Int.mul_pos (by trivial) (by trivial)))
  show KM.vl (r.foldl KM.lTim (KM.lTim p g))=_
  rw [xC r _ e fun x hx=>h x (List.mem_cons_of_mem _ hx),KM.vl_tim (by trivial) (by trivial)]
  show _=KM.vl p*(KM.vl g*bP r)
  rw [Rat.mul_assoc]
theorem BR {a:Int}{p:KM.Fra} (h:Bd a p):KM.lTim p (1,1)=p:=by
 show KM.low (p.1*1) (p.2*1)=p
 rw [Int.mul_one,Int.mul_one]
 exact KM.low_self h.d1 h.g
theorem uT {a:Int}:∀(n:Nat) {p:KM.Fra},Bd a p→(List.replicate n ((1,1):KM.Fra)).foldl KM.lTim p=p
 | 0,_,_=>rfl
 | n+1,p,h=>by
  rw [List.replicate_succ]
  show (List.replicate n ((1,1):KM.Fra)).foldl KM.lTim (KM.lTim p (1,1))=p
  rw [BR h]
  exact uT n h
theorem Ax {gs:List KM.Fra}{n:Nat} (hl:gs.length≤2) (h:∀g∈gs,Bd 3 g):Bd 9 ((gs++List.replicate n (1,1)).foldl KM.lTim (1,1)):=by
 rw [List.foldl_append]
 have q:Bd 9 (gs.foldl KM.lTim (1,1)):=by
  cases gs with
  | nil=>exact vV.mono (by decide)
  | cons g r=>
   have hg:=vV.tim (h g (List.mem_cons_self ..)) (c:=3) (by decide)
   cases r with
   | nil=>exact hg.mono (by decide)
   | cons g' r'=>
    cases r' with
    | nil=>exact hg.tim (h g' (List.mem_cons_of_mem _ (List.mem_cons_self ..))) (by decide)
    | cons _ r''=>exact absurd hl (by rw [List.length_cons,List.length_cons,List.length_cons];trivial)
 rw [uT n q]
 exact q
theorem EZ:KM.vl (3,4)≤1:=by decide +kernel
theorem Fa:1<KM.vl (4,3):=by decide +kernel
end L2
namespace L2
open PySem PySem.Spec PyProof.Rows
theorem tN {a b N M:Int} (h:b≤a+1) (k:a≤N) (e:N+1≤M):b≤M:=by trivial
theorem xo {α:Type} (xs:List α) (x:α) (k:Nat):(xs.take k++x :: xs.drop k).length=xs.length+1:=by
 rw [List.length_append,List.length_cons,←Nat.add_assoc,←List.length_append,List.take_append_drop]
theorem tR {α:Type} (p:α→Bool) (xs:List α) (x:α) (k:Nat):(xs.take k++x :: xs.drop k).filter p=if p x=true then (xs.take k).filter p++x :: (xs.drop k).filter p else xs.filter p:=by
 rw [List.filter_append,List.filter_cons]
 by_cases c:p x=true
 ·rw [if_pos c,if_pos c]
 ·rw [if_neg c,if_neg c,←List.filter_append,List.take_append_drop]
theorem wU {α:Type} (p:α→Bool) (xs:List α) (k:Nat):(xs.take k).filter p++(xs.drop k).filter p=xs.filter p:=by
 rw [←List.filter_append,List.take_append_drop]
theorem Bp {α:Type}{p:α→Bool}{xs:List α}{x:α}{k:Nat} (h:xs.filter p=[]) (hx:p x=true):(xs.take k++x :: xs.drop k).filter p=[x]:=by
 have e:=wU p xs k
 rw [h] at e
 obtain ⟨e1,e2⟩:=List.append_eq_nil_iff.mp e
 rw [tR,if_pos hx,e1,e2];rfl
theorem Cn {α:Type}{p:α→Bool}{xs:List α}{x y:α}{k:Nat} (h:xs.filter p=[y]) (hx:p x=true):(xs.take k++x :: xs.drop k).filter p=[x,y]∨(xs.take k++x :: xs.drop k).filter p=[y,x]:=by
 have e:=wU p xs k
 rw [h] at e
 rw [tR,if_pos hx]
 rcases List.append_eq_singleton_iff.mp e with ⟨e1,e2⟩ | ⟨e1,e2⟩
 ·rw [e1,e2];exact .inl rfl
 ·rw [e1,e2];exact .inr rfl
def qW {α:Type} (p:α→Bool) (xs:List α) (n:Nat):List Nat:=(List.range n).filter fun i=>((xs[i]?).map p).getD false
theorem wf {α:Type}{p:α→Bool}{xs:List α}{n:Nat}{x:α} (h:xs[n]?=some x):qW p xs (n+1)=if p x=true then qW p xs n++[n] else qW p xs n:=by
 unfold qW
 rw [List.range_succ,List.filter_append]
 have e:((xs[n]?).map p).getD false=p x:=by rw [h];rfl
 by_cases q:p x=true
 ·rw [if_pos q];simp [e,q]
 ·rw [if_neg q];simp [e,q]
theorem tF {α:Type}{p:α→Bool}{xs:List α}:∀n,n≤xs.length→(qW p xs n).map (fun i=>xs[i]?)=((xs.take n).filter p).map some
 | 0,_=>rfl
 | n+1,h=>by
  have e:xs[n]?=some xs[n]:=List.getElem?_eq_getElem (by trivial)
  rw [wf e,List.take_succ,e,Option.toList_some,List.filter_append]
  by_cases q:p xs[n]=true
  ·rw [if_pos q,List.map_append,tF n (by trivial)];simp [q,e]
  ·rw [if_neg q,tF n (by trivial)];simp [q]
theorem Cd {α:Type}{p:α→Bool}{xs:List α}{n i:Nat}{x:α} (hi:i<n) (e:xs[i]?=some x) (h:p x=true):i∈qW p xs n:=by
 unfold qW
 rw [List.mem_filter]
 exact ⟨List.mem_range.mpr hi,by rw [e];exact h⟩
def PP (g:Nat→Rat) (a:Nat):Nat→Rat
 | 0=>1
 | m+1=>PP g a m*g (a+m)
theorem oP (g:Nat→Rat) (a:Nat):∀m,PP g a (m+1)=g a*PP g (a+1) m
 | 0=>by show 1*g (a+0)=g a*1;rw [Rat.one_mul,Rat.mul_one];rfl
 | m+1=>by
  show PP g a (m+1)*g (a+(m+1))=g a*(PP g (a+1) m*g (a+1+m))
  rw [oP g a m,Rat.mul_assoc,show a+(m+1)=a+1+m by trivial]
theorem wZ {g u:Nat→Rat}{n:Nat} (g0:∀k,k+1<n→0≤g k) (one:∀k,k<n→1≤u k) (cl:∀k,k+1<n→g k*u (k+1)≤u k) (at':∀k,k<n→u k=1∨(k+1<n∧u k≤g k*u (k+1))) :
 ∀d k,k+d+1=n→(∀m,k+m<n→PP g k m≤u k)∧∃m,k+m<n∧PP g k m=u k
 | 0,k,h=>by
  refine ⟨fun m hm=>?_,0,by trivial,?_⟩
  ·have:m=0:=by trivial
   subst this
   exact one k (by trivial)
  ·rcases at' k (by trivial) with z | ⟨z,_⟩
   ·exact z.symm
   ·trivial
 | d+1,k,h=>by
  obtain ⟨h1,m,hm,em⟩:=wZ g0 one cl at' d (k+1) (by trivial)
  have c:=cl k (by trivial)
  refine ⟨fun m hm=>?_,?_⟩
  ·cases m with
   | zero=>exact one k (by trivial)
   | succ m=>
    rw [oP]
    exact Rat.le_trans (KM.mul_le_l (h1 m (by trivial)) (g0 k (by trivial))) c
  ·rcases at' k (by trivial) with z | ⟨_,z⟩
   ·exact ⟨0,by trivial,z.symm⟩
   ·refine ⟨m+1,by trivial,?_⟩
    rw [oP,em]
    exact Rat.le_antisymm c z
end L2
set_option maxHeartbeats 4000000
namespace K14
open PySem L2
def dI (i:Nat):Stmt:=PySem.Challenge.pw_gainroads_k14_known_rings_and_chains.main.body.getD i (.Pass ⟨0,0,0,0⟩)
abbrev cn:Stmt:=dI 4
abbrev cw:Stmt:=dI 5
abbrev br:Stmt:=dI 6
abbrev bK:Stmt:=dI 7
abbrev cN:Stmt:=dI 8
abbrev gv:Stmt:=dI 9
abbrev cH:Stmt:=dI 10
abbrev fV:Stmt:=dI 12
abbrev aV:Stmt:=dI 13
abbrev bL:Stmt:=dI 14
abbrev aW:Stmt:=dI 15
abbrev bV:Stmt:=dI 16
abbrev bJ:Stmt:=dI 17
abbrev eX:Stmt:=dI 18
abbrev aX:Stmt:=dI 19
abbrev bC:Stmt:=dI 20
abbrev bQ:Stmt:=dI 21
abbrev j3:Stmt:=dI 23
abbrev iW:Stmt:=dI 24
abbrev bW:Stmt:=dI 25
abbrev dF:Stmt:=dI 26
abbrev cE:Stmt:=dI 27
abbrev fu:Stmt:=dI 28
abbrev eZ:Stmt:=dI 29
abbrev ba:Stmt:=dI 30
abbrev aE:Stmt:=dI 31
abbrev cu:Stmt:=dI 32
abbrev aU:Stmt:=dI 33
abbrev aO:Stmt:=dI 34
abbrev ar:Stmt:=dI 35
abbrev ak:Stmt:=dI 36
abbrev cC:Stmt:=dI 37
abbrev bA:Stmt:=FV (dI 2) 0
theorem v0:aS ["thing"] ["thing"] (ag cn):=⟨rfl,rfl,rfl,by decide +kernel,rfl,by decide +kernel,by decide +kernel⟩
theorem kZ:aS ["n", "d"] ["n", "d"] (ag cw):=⟨rfl,rfl,rfl,by decide +kernel,rfl,by decide +kernel,by decide +kernel⟩
theorem jR:aS ["thing", "n", "d"] ["thing"] (ag br):=⟨rfl,rfl,rfl,by decide +kernel,rfl,by decide +kernel,by decide +kernel⟩
theorem pK:aS ["thing"] ["thing"] (ag bK):=⟨rfl,rfl,rfl,by decide +kernel,rfl,by decide +kernel,by decide +kernel⟩
theorem nl:aS ["n", "d", "divisor"] ["n", "d"] (ag cN):=⟨rfl,rfl,rfl,by decide +kernel,rfl,by decide +kernel,by decide +kernel⟩
theorem An:aS ["one", "other"] ["one", "other"] (ag gv):=⟨rfl,rfl,rfl,by decide +kernel,rfl,by decide +kernel,by decide +kernel⟩
theorem nq:aS ["one", "other", "left", "right"] ["one", "other"] (ag cH):=⟨rfl,rfl,rfl,by decide +kernel,rfl,by decide +kernel,by decide +kernel⟩
theorem xJ:aS ["tie"] ["tie"] (ag fV):=⟨rfl,rfl,rfl,by decide +kernel,rfl,by decide +kernel,by decide +kernel⟩
theorem bZ:aS ["net", "worths", "onward", "lifted", "number", "tie", "begin", "end", "most", "gain", "price", "worth"] ["net", "worths", "onward"] (ag aV):=⟨rfl,rfl,rfl,by decide +kernel,rfl,by decide +kernel,by decide +kernel⟩
theorem ib:aS ["net", "onward", "place", "places", "ties"] ["net", "onward", "place"] (ag bL):=⟨rfl,rfl,rfl,by decide +kernel,rfl,by decide +kernel,by decide +kernel⟩
theorem cX:aS ["net", "worths", "onward", "lifted", "turn"] ["net"] (ag aW):=⟨rfl,rfl,rfl,by decide +kernel,rfl,by decide +kernel,by decide +kernel⟩
theorem mY:aS ["net", "worths", "gaining", "onward"] ["net", "worths"] (ag bV):=⟨rfl,rfl,rfl,by decide +kernel,rfl,by decide +kernel,by decide +kernel⟩
theorem lg:aS ["net", "worths"] ["net"] (ag bJ):=⟨rfl,rfl,rfl,by decide +kernel,rfl,by decide +kernel,by decide +kernel⟩
theorem Ay:aS ["tie", "worths"] ["tie", "worths"] (ag eX):=⟨rfl,rfl,rfl,by decide +kernel,rfl,by decide +kernel,by decide +kernel⟩
theorem mm:aS ["net", "thing", "worths"] ["net", "thing"] (ag aX):=⟨rfl,rfl,rfl,by decide +kernel,rfl,by decide +kernel,by decide +kernel⟩
theorem mB:aS ["net", "begin", "end", "worths"] ["net", "begin", "end"] (ag bC):=⟨rfl,rfl,rfl,by decide +kernel,rfl,by decide +kernel,by decide +kernel⟩
theorem gA:aS ["net", "begin", "end", "worths", "onward", "way", "place"] ["net", "begin", "end"] (ag bQ):=⟨rfl,rfl,rfl,by decide +kernel,rfl,by decide +kernel,by decide +kernel⟩
theorem rY:aS ["_law_script", "_law_k", "_law_cell"] ["_law_script", "_law_k"] (ag j3):=⟨rfl,rfl,rfl,by decide +kernel,rfl,by decide +kernel,by decide +kernel⟩
theorem pT:aS ["_law_box_here", "_law_many", "_law_found", "_law_once"] ["_law_box_here", "_law_many"] (ag iW):=⟨rfl,rfl,rfl,by decide +kernel,rfl,by decide +kernel,by decide +kernel⟩
theorem kg:aS ["_law_script", "_law_many", "_law_cells", "_law_k", "_law_cell"] ["_law_script", "_law_many"] (ag bW):=⟨rfl,rfl,rfl,by decide +kernel,rfl,by decide +kernel,by decide +kernel⟩
theorem mL:aS ["_law_n", "_law_d", "_law_one", "_law_other"] ["_law_n", "_law_d"] (ag dF):=⟨rfl,rfl,rfl,by decide +kernel,rfl,by decide +kernel,by decide +kernel⟩
theorem wx:aS ["_law_one", "_law_other"] ["_law_one", "_law_other"] (ag cE):=⟨rfl,rfl,rfl,by decide +kernel,rfl,by decide +kernel,by decide +kernel⟩
theorem y8:aS ["_law_one", "_law_other"] ["_law_one", "_law_other"] (ag fu):=⟨rfl,rfl,rfl,by decide +kernel,rfl,by decide +kernel,by decide +kernel⟩
theorem yg:aS ["_law_one", "_law_other"] ["_law_one", "_law_other"] (ag eZ):=⟨rfl,rfl,rfl,by decide +kernel,rfl,by decide +kernel,by decide +kernel⟩
theorem dD:aS ["_law_box_here", "_law_many", "_law_letters", "_law_first", "_law_rest", "_law_behind", "_law_sign", "_law_other"] ["_law_box_here", "_law_many"] (ag ba):=⟨rfl,rfl,rfl,by decide +kernel,rfl,by decide +kernel,by decide +kernel⟩
theorem bS:aS ["_law_box_here", "_law_many", "_law_places", "_law_gains", "_law_whole", "_law_kind", "_law_gain", "_law_due", "_law_at", "_law_shut", "_law_ties", "_law_spot"] ["_law_box_here", "_law_many"] (ag aE):=⟨rfl,rfl,rfl,by decide +kernel,rfl,by decide +kernel,by decide +kernel⟩
theorem j9:aS ["_law_net", "_law_caught_here", "error"] ["_law_net"] (ag cu):=⟨rfl,rfl,rfl,by decide +kernel,rfl,by decide +kernel,by decide +kernel⟩
theorem gQ:aS ["_law_net", "_law_gains", "_law_many", "_law_worths", "_law_turned"] ["_law_net", "_law_gains"] (ag aU):=⟨rfl,rfl,rfl,by decide +kernel,rfl,by decide +kernel,by decide +kernel⟩
theorem dS:aS ["_law_box_here", "_law_many", "_law_places", "_law_ties", "_law_k", "_law_gain", "_law_worse", "_law_one"] ["_law_box_here", "_law_many"] (ag aO):=⟨rfl,rfl,rfl,by decide +kernel,rfl,by decide +kernel,by decide +kernel⟩
theorem bf:aS ["_law_net", "_law_places", "_law_best", "_law_begin", "_law_end", "_law_some", "_law_worths", "_law_at", "_law_gain", "_law_due", "_law_to", "_law_one", "_law_other"] ["_law_net"] (ag ar):=⟨rfl,rfl,rfl,by decide +kernel,rfl,by decide +kernel,by decide +kernel⟩
theorem aF:aS ["_law_box_here", "_law_gains", "_law_places", "_law_order", "_law_rest", "_law_turned_over", "_law_row", "_law_ties", "_law_a", "_law_b", "_law_c", "_law_d", "_law_e", "_law_f", "_law_ends", "_law_found", "_law_net", "_law_due", "_law_gain"] ["_law_box_here"] (ag ak):=⟨rfl,rfl,rfl,by decide +kernel,rfl,by decide +kernel,by decide +kernel⟩
theorem nV:aS ["_law_script", "_law_cells", "_law_k", "_law_box_here", "_law_net", "_law_gains"] ["_law_script"] (ag cC):=⟨rfl,rfl,rfl,by decide +kernel,rfl,by decide +kernel,by decide +kernel⟩
theorem rX:aS ["self", "ties"] ["self", "ties"] (ag bA):=⟨rfl,rfl,rfl,by decide +kernel,rfl,by decide +kernel,by decide +kernel⟩
end K14
namespace K14
open PySem L2
set_option genInjectivity false in
set_option genSizeOf false in
structure Df (K:PySem.W.Frag) (mg:Str→Option Value) (x:Str) (st:Stmt) (ps:List Str) where
 f:Addr
 d:FuncData
 m:mg x=some (.ref f)
 F:sQ K x x st f d
 B:kc K d ps []
set_option genInjectivity false in
set_option genSizeOf false in
structure Txt (K:PySem.W.Frag) (mg:Str→Option Value) where
 b_abs:mg "abs" = none
 b_all:mg "all" = none
 b_bool:mg "bool" = none
 b_dict:mg "dict" = none
 b_divmod:mg "divmod" = none
 b_enumerate:mg "enumerate" = none
 b_int:mg "int" = none
 b_isinstance:mg "isinstance" = none
 b_len:mg "len" = none
 b_list:mg "list" = none
 b_max:mg "max" = none
 b_min:mg "min" = none
 b_range:mg "range" = none
 b_tuple:mg "tuple" = none
 b_zip:mg "zip" = none
 is_number_:Df K mg "is_number" cn ["thing"]
 common_divisor_:Df K mg "common_divisor" cw ["n", "d"]
 is_fraction_:Df K mg "is_fraction" br ["thing"]
 is_above_nought_:Df K mg "is_above_nought" bK ["thing"]
 fraction_:Df K mg "fraction" cN ["n", "d"]
 times_:Df K mg "times" gv ["one", "other"]
 compared_:Df K mg "compared" cH ["one", "other"]
 is_shut_:Df K mg "is_shut" fV ["tie"]
 lift_once_:Df K mg "lift_once" aV ["net", "worths", "onward"]
 round_ahead_:Df K mg "round_ahead" bL ["net", "onward", "place"]
 gaining_round_:Df K mg "gaining_round" aW ["net"]
 lift_all_:Df K mg "lift_all" bV ["net", "worths"]
 holding_worths_:Df K mg "holding_worths" bJ ["net"]
 holds_:Df K mg "holds" eX ["tie", "worths"]
 shows_holding_:Df K mg "shows_holding" aX ["net", "thing"]
 greatest_gain_:Df K mg "greatest_gain" bC ["net", "begin", "end"]
 best_way_:Df K mg "best_way" bQ ["net", "begin", "end"]
 l_box_:Df K mg "_law_box" j3 ["_law_script", "_law_k"]
 l_take_:Df K mg "_law_take" iW ["_law_box_here", "_law_many"]
 l_folded_:Df K mg "_law_folded" bW ["_law_script", "_law_many"]
 l_frac_:Df K mg "_law_frac" dF ["_law_n", "_law_d"]
 l_product_:Df K mg "_law_product" cE ["_law_one", "_law_other"]
 l_over_:Df K mg "_law_over" fu ["_law_one", "_law_other"]
 l_above_:Df K mg "_law_above" eZ ["_law_one", "_law_other"]
 l_names_by_:Df K mg "_law_names_by" ba ["_law_box_here", "_law_many"]
 l_ring_net_:Df K mg "_law_ring_net" aE ["_law_box_here", "_law_many"]
 l_caught_:Df K mg "_law_caught" cu ["_law_net"]
 l_ring_right_:Df K mg "_law_ring_right" aU ["_law_net", "_law_gains"]
 l_chain_net_:Df K mg "_law_chain_net" aO ["_law_box_here", "_law_many"]
 l_chain_right_:Df K mg "_law_chain_right" ar ["_law_net"]
 l_hairs_right_:Df K mg "_law_hairs_right" ak ["_law_box_here"]
 law_:Df K mg "law" cC ["_law_script"]
 f_Gaining__init:Addr
 d_Gaining__init:FuncData
 F_Gaining__init:sQ K "__init__" "Gaining.__init__" bA f_Gaining__init d_Gaining__init
 B_Gaining__init:kc K d_Gaining__init ["self", "ties"] []
 x_GainError:Addr
 m_GainError:mg "GainError" = some (.ref x_GainError)
 k_GainError:PySem.W.keepIn K (.ref x_GainError)=true
 xb_GainError:xW K x_GainError=true
 x_Gaining:Addr
 m_Gaining:mg "Gaining" = some (.ref x_Gaining)
 k_Gaining:PySem.W.keepIn K (.ref x_Gaining)=true
 fn_Gaining:PySem.W.isFn K (.ref f_Gaining__init)=true
 st_Gaining:qa K x_Gaining "ties" = true
 fd_Gaining:xH K x_Gaining "ties" = true
 q_Gaining:nt K x_Gaining (some (.ref f_Gaining__init))=true
 em_Gaining_Gaining:PySem.W.exmOne K (.ref x_Gaining) (.ref x_Gaining)=some true
 kin:A1 K [x_Gaining] x_GainError=true
theorem txt_mk {K:PySem.W.Frag}{h:Heap}{mg:Str→Option Value} (X:K.In h) (G:h.Ns mainGlobals mg)
 {f0 f1 f2 f3 f4 f5 f6 f7 f8 f9 f10 f11 f12 f13 f14 f15 f16 f17 f18 f19 f20 f21 f22 f23 f24 f25 f26 f27 f28 f29 f30 f31 f32:Addr}{od0 an0 od1 an1 od2 an2 od3 an3 od4 an4 od5 an5 od6 an6 od7 an7 od8 an8 od9 an9 od10 an10 od11 an11 od12 an12 od13 an13 od14 an14 od15 an15 od16 an16 od17 an17 od18 an18 od19 an19 od20 an20 od21 an21 od22 an22 od23 an23 od24 an24 od25 an25 od26 an26 od27 an27 od28 an28 od29 an29 od30 an30 od31 an31 od32 an32:Option Addr}{sl0 sl1 sl2 sl3 sl4 sl5 Ej sl7 sl8 sl9 sl10 sl11 sl12 sl13 sl14 sl15 sl16 sl17 sl18 sl19 sl20 sl21 sl22 sl23 sl24 sl25 sl26 sl27 sl28 sl29 sl30 sl31 sl32:Array (Option Value)}{oc0 kV0 dc0 pm0 cd0 ct0 oc1 kV1 dc1 pm1 cd1 ct1 oc2 kV2 dc2 pm2 cd2 ct2 oc3 kV3 dc3 pm3 cd3 ct3 oc4 kV4 dc4 pm4 cd4 ct4 oc5 kV5 dc5 pm5 cd5 ct5 oc6 kV6 dc6 pm6 cd6 ct6 oc7 kV7 dc7 pm7 cd7 ct7 oc8 kV8 dc8 pm8 cd8 ct8 oc9 kV9 dc9 pm9 cd9 ct9 oc10 kV10 dc10 pm10 cd10 ct10 oc11 kV11 dc11 pm11 cd11 ct11 oc12 kV12 dc12 pm12 cd12 ct12 oc13 kV13 dc13 pm13 cd13 ct13 oc14 kV14 dc14 pm14 cd14 ct14 oc15 kV15 dc15 pm15 cd15 ct15 oc16 kV16 dc16 pm16 cd16 ct16 oc17 kV17 dc17 pm17 cd17 ct17 oc18 kV18 dc18 pm18 cd18 ct18 oc19 kV19 dc19 pm19 cd19 ct19 oc20 kV20 dc20 pm20 cd20 ct20 oc21 kV21 dc21 pm21 cd21 ct21 oc22 kV22 dc22 pm22 cd22 ct22 oc23 kV23 dc23 pm23 cd23 ct23 oc24 kV24 dc24 pm24 cd24 ct24 oc25 kV25 dc25 pm25 cd25 ct25 oc26 kV26 dc26 pm26 cd26 ct26 oc27 kV27 dc27 pm27 cd27 ct27 oc28 kV28 dc28 pm28 cd28 ct28 oc29 kV29 dc29 pm29 cd29 ct29 oc30 kV30 dc30 pm30 cd30 ct30 oc31 kV31 dc31 pm31 cd31 ct31 oc32 kV32 dc32 pm32 cd32 ct32:Value}
 {x0 x1:Addr}
 (xa0:PySem.W.nsIn K mainGlobals "GainError" = some (some (.ref x0)))
 (xa1:PySem.W.nsIn K mainGlobals "Gaining" = some (some (.ref x1)))
 (a0:PySem.W.nsIn K mainGlobals "is_number" = some (some (.ref f0))) (l0:K.lookup f0=some ⟨oc0,od0,.func (PySem.W.fnOf "is_number" "is_number" (aT cn) (aQ cn) (ag cn) .none kV0 dc0 pm0 an0 cd0 ct0),sl0⟩) (c0:PySem.W.codeIn K cd0 "is_number" = true) (k0:PySem.W.keepIn K (.ref f0)=true)
 (a1:PySem.W.nsIn K mainGlobals "common_divisor" = some (some (.ref f1))) (l1:K.lookup f1=some ⟨oc1,od1,.func (PySem.W.fnOf "common_divisor" "common_divisor" (aT cw) (aQ cw) (ag cw) .none kV1 dc1 pm1 an1 cd1 ct1),sl1⟩) (c1:PySem.W.codeIn K cd1 "common_divisor" = true) (k1:PySem.W.keepIn K (.ref f1)=true)
 (a2:PySem.W.nsIn K mainGlobals "is_fraction" = some (some (.ref f2))) (l2:K.lookup f2=some ⟨oc2,od2,.func (PySem.W.fnOf "is_fraction" "is_fraction" (aT br) (aQ br) (ag br) .none kV2 dc2 pm2 an2 cd2 ct2),sl2⟩) (c2:PySem.W.codeIn K cd2 "is_fraction" = true) (k2:PySem.W.keepIn K (.ref f2)=true)
 (a3:PySem.W.nsIn K mainGlobals "is_above_nought" = some (some (.ref f3))) (l3:K.lookup f3=some ⟨oc3,od3,.func (PySem.W.fnOf "is_above_nought" "is_above_nought" (aT bK) (aQ bK) (ag bK) .none kV3 dc3 pm3 an3 cd3 ct3),sl3⟩) (c3:PySem.W.codeIn K cd3 "is_above_nought" = true) (k3:PySem.W.keepIn K (.ref f3)=true)
 (a4:PySem.W.nsIn K mainGlobals "fraction" = some (some (.ref f4))) (l4:K.lookup f4=some ⟨oc4,od4,.func (PySem.W.fnOf "fraction" "fraction" (aT cN) (aQ cN) (ag cN) .none kV4 dc4 pm4 an4 cd4 ct4),sl4⟩) (c4:PySem.W.codeIn K cd4 "fraction" = true) (k4:PySem.W.keepIn K (.ref f4)=true)
 (a5:PySem.W.nsIn K mainGlobals "times" = some (some (.ref f5))) (l5:K.lookup f5=some ⟨oc5,od5,.func (PySem.W.fnOf "times" "times" (aT gv) (aQ gv) (ag gv) .none kV5 dc5 pm5 an5 cd5 ct5),sl5⟩) (c5:PySem.W.codeIn K cd5 "times" = true) (k5:PySem.W.keepIn K (.ref f5)=true)
 (a6:PySem.W.nsIn K mainGlobals "compared" = some (some (.ref f6))) (l6:K.lookup f6=some ⟨oc6,od6,.func (PySem.W.fnOf "compared" "compared" (aT cH) (aQ cH) (ag cH) .none kV6 dc6 pm6 an6 cd6 ct6),Ej⟩) (c6:PySem.W.codeIn K cd6 "compared" = true) (k6:PySem.W.keepIn K (.ref f6)=true)
 (a7:PySem.W.nsIn K mainGlobals "is_shut" = some (some (.ref f7))) (l7:K.lookup f7=some ⟨oc7,od7,.func (PySem.W.fnOf "is_shut" "is_shut" (aT fV) (aQ fV) (ag fV) .none kV7 dc7 pm7 an7 cd7 ct7),sl7⟩) (c7:PySem.W.codeIn K cd7 "is_shut" = true) (k7:PySem.W.keepIn K (.ref f7)=true)
 (a8:PySem.W.nsIn K mainGlobals "lift_once" = some (some (.ref f8))) (l8:K.lookup f8=some ⟨oc8,od8,.func (PySem.W.fnOf "lift_once" "lift_once" (aT aV) (aQ aV) (ag aV) .none kV8 dc8 pm8 an8 cd8 ct8),sl8⟩) (c8:PySem.W.codeIn K cd8 "lift_once" = true) (k8:PySem.W.keepIn K (.ref f8)=true)
 (a9:PySem.W.nsIn K mainGlobals "round_ahead" = some (some (.ref f9))) (l9:K.lookup f9=some ⟨oc9,od9,.func (PySem.W.fnOf "round_ahead" "round_ahead" (aT bL) (aQ bL) (ag bL) .none kV9 dc9 pm9 an9 cd9 ct9),sl9⟩) (c9:PySem.W.codeIn K cd9 "round_ahead" = true) (k9:PySem.W.keepIn K (.ref f9)=true)
 (a10:PySem.W.nsIn K mainGlobals "gaining_round" = some (some (.ref f10))) (l10:K.lookup f10=some ⟨oc10,od10,.func (PySem.W.fnOf "gaining_round" "gaining_round" (aT aW) (aQ aW) (ag aW) .none kV10 dc10 pm10 an10 cd10 ct10),sl10⟩) (c10:PySem.W.codeIn K cd10 "gaining_round" = true) (k10:PySem.W.keepIn K (.ref f10)=true)
 (a11:PySem.W.nsIn K mainGlobals "lift_all" = some (some (.ref f11))) (l11:K.lookup f11=some ⟨oc11,od11,.func (PySem.W.fnOf "lift_all" "lift_all" (aT bV) (aQ bV) (ag bV) .none kV11 dc11 pm11 an11 cd11 ct11),sl11⟩) (c11:PySem.W.codeIn K cd11 "lift_all" = true) (k11:PySem.W.keepIn K (.ref f11)=true)
 (a12:PySem.W.nsIn K mainGlobals "holding_worths" = some (some (.ref f12))) (l12:K.lookup f12=some ⟨oc12,od12,.func (PySem.W.fnOf "holding_worths" "holding_worths" (aT bJ) (aQ bJ) (ag bJ) .none kV12 dc12 pm12 an12 cd12 ct12),sl12⟩) (c12:PySem.W.codeIn K cd12 "holding_worths" = true) (k12:PySem.W.keepIn K (.ref f12)=true)
 (a13:PySem.W.nsIn K mainGlobals "holds" = some (some (.ref f13))) (l13:K.lookup f13=some ⟨oc13,od13,.func (PySem.W.fnOf "holds" "holds" (aT eX) (aQ eX) (ag eX) .none kV13 dc13 pm13 an13 cd13 ct13),sl13⟩) (c13:PySem.W.codeIn K cd13 "holds" = true) (k13:PySem.W.keepIn K (.ref f13)=true)
 (a14:PySem.W.nsIn K mainGlobals "shows_holding" = some (some (.ref f14))) (l14:K.lookup f14=some ⟨oc14,od14,.func (PySem.W.fnOf "shows_holding" "shows_holding" (aT aX) (aQ aX) (ag aX) .none kV14 dc14 pm14 an14 cd14 ct14),sl14⟩) (c14:PySem.W.codeIn K cd14 "shows_holding" = true) (k14:PySem.W.keepIn K (.ref f14)=true)
 (a15:PySem.W.nsIn K mainGlobals "greatest_gain" = some (some (.ref f15))) (l15:K.lookup f15=some ⟨oc15,od15,.func (PySem.W.fnOf "greatest_gain" "greatest_gain" (aT bC) (aQ bC) (ag bC) .none kV15 dc15 pm15 an15 cd15 ct15),sl15⟩) (c15:PySem.W.codeIn K cd15 "greatest_gain" = true) (k15:PySem.W.keepIn K (.ref f15)=true)
 (a16:PySem.W.nsIn K mainGlobals "best_way" = some (some (.ref f16))) (l16:K.lookup f16=some ⟨oc16,od16,.func (PySem.W.fnOf "best_way" "best_way" (aT bQ) (aQ bQ) (ag bQ) .none kV16 dc16 pm16 an16 cd16 ct16),sl16⟩) (c16:PySem.W.codeIn K cd16 "best_way" = true) (k16:PySem.W.keepIn K (.ref f16)=true)
 (a17:PySem.W.nsIn K mainGlobals "_law_box" = some (some (.ref f17))) (l17:K.lookup f17=some ⟨oc17,od17,.func (PySem.W.fnOf "_law_box" "_law_box" (aT j3) (aQ j3) (ag j3) .none kV17 dc17 pm17 an17 cd17 ct17),sl17⟩) (c17:PySem.W.codeIn K cd17 "_law_box" = true) (k17:PySem.W.keepIn K (.ref f17)=true)
 (a18:PySem.W.nsIn K mainGlobals "_law_take" = some (some (.ref f18))) (l18:K.lookup f18=some ⟨oc18,od18,.func (PySem.W.fnOf "_law_take" "_law_take" (aT iW) (aQ iW) (ag iW) .none kV18 dc18 pm18 an18 cd18 ct18),sl18⟩) (c18:PySem.W.codeIn K cd18 "_law_take" = true) (k18:PySem.W.keepIn K (.ref f18)=true)
 (a19:PySem.W.nsIn K mainGlobals "_law_folded" = some (some (.ref f19))) (l19:K.lookup f19=some ⟨oc19,od19,.func (PySem.W.fnOf "_law_folded" "_law_folded" (aT bW) (aQ bW) (ag bW) .none kV19 dc19 pm19 an19 cd19 ct19),sl19⟩) (c19:PySem.W.codeIn K cd19 "_law_folded" = true) (k19:PySem.W.keepIn K (.ref f19)=true)
 (a20:PySem.W.nsIn K mainGlobals "_law_frac" = some (some (.ref f20))) (l20:K.lookup f20=some ⟨oc20,od20,.func (PySem.W.fnOf "_law_frac" "_law_frac" (aT dF) (aQ dF) (ag dF) .none kV20 dc20 pm20 an20 cd20 ct20),sl20⟩) (c20:PySem.W.codeIn K cd20 "_law_frac" = true) (k20:PySem.W.keepIn K (.ref f20)=true)
 (a21:PySem.W.nsIn K mainGlobals "_law_product" = some (some (.ref f21))) (l21:K.lookup f21=some ⟨oc21,od21,.func (PySem.W.fnOf "_law_product" "_law_product" (aT cE) (aQ cE) (ag cE) .none kV21 dc21 pm21 an21 cd21 ct21),sl21⟩) (c21:PySem.W.codeIn K cd21 "_law_product" = true) (k21:PySem.W.keepIn K (.ref f21)=true)
 (a22:PySem.W.nsIn K mainGlobals "_law_over" = some (some (.ref f22))) (l22:K.lookup f22=some ⟨oc22,od22,.func (PySem.W.fnOf "_law_over" "_law_over" (aT fu) (aQ fu) (ag fu) .none kV22 dc22 pm22 an22 cd22 ct22),sl22⟩) (c22:PySem.W.codeIn K cd22 "_law_over" = true) (k22:PySem.W.keepIn K (.ref f22)=true)
 (a23:PySem.W.nsIn K mainGlobals "_law_above" = some (some (.ref f23))) (l23:K.lookup f23=some ⟨oc23,od23,.func (PySem.W.fnOf "_law_above" "_law_above" (aT eZ) (aQ eZ) (ag eZ) .none kV23 dc23 pm23 an23 cd23 ct23),sl23⟩) (c23:PySem.W.codeIn K cd23 "_law_above" = true) (k23:PySem.W.keepIn K (.ref f23)=true)
 (a24:PySem.W.nsIn K mainGlobals "_law_names_by" = some (some (.ref f24))) (l24:K.lookup f24=some ⟨oc24,od24,.func (PySem.W.fnOf "_law_names_by" "_law_names_by" (aT ba) (aQ ba) (ag ba) .none kV24 dc24 pm24 an24 cd24 ct24),sl24⟩) (c24:PySem.W.codeIn K cd24 "_law_names_by" = true) (k24:PySem.W.keepIn K (.ref f24)=true)
 (a25:PySem.W.nsIn K mainGlobals "_law_ring_net" = some (some (.ref f25))) (l25:K.lookup f25=some ⟨oc25,od25,.func (PySem.W.fnOf "_law_ring_net" "_law_ring_net" (aT aE) (aQ aE) (ag aE) .none kV25 dc25 pm25 an25 cd25 ct25),sl25⟩) (c25:PySem.W.codeIn K cd25 "_law_ring_net" = true) (k25:PySem.W.keepIn K (.ref f25)=true)
 (a26:PySem.W.nsIn K mainGlobals "_law_caught" = some (some (.ref f26))) (l26:K.lookup f26=some ⟨oc26,od26,.func (PySem.W.fnOf "_law_caught" "_law_caught" (aT cu) (aQ cu) (ag cu) .none kV26 dc26 pm26 an26 cd26 ct26),sl26⟩) (c26:PySem.W.codeIn K cd26 "_law_caught" = true) (k26:PySem.W.keepIn K (.ref f26)=true)
 (a27:PySem.W.nsIn K mainGlobals "_law_ring_right" = some (some (.ref f27))) (l27:K.lookup f27=some ⟨oc27,od27,.func (PySem.W.fnOf "_law_ring_right" "_law_ring_right" (aT aU) (aQ aU) (ag aU) .none kV27 dc27 pm27 an27 cd27 ct27),sl27⟩) (c27:PySem.W.codeIn K cd27 "_law_ring_right" = true) (k27:PySem.W.keepIn K (.ref f27)=true)
 (a28:PySem.W.nsIn K mainGlobals "_law_chain_net" = some (some (.ref f28))) (l28:K.lookup f28=some ⟨oc28,od28,.func (PySem.W.fnOf "_law_chain_net" "_law_chain_net" (aT aO) (aQ aO) (ag aO) .none kV28 dc28 pm28 an28 cd28 ct28),sl28⟩) (c28:PySem.W.codeIn K cd28 "_law_chain_net" = true) (k28:PySem.W.keepIn K (.ref f28)=true)
 (a29:PySem.W.nsIn K mainGlobals "_law_chain_right" = some (some (.ref f29))) (l29:K.lookup f29=some ⟨oc29,od29,.func (PySem.W.fnOf "_law_chain_right" "_law_chain_right" (aT ar) (aQ ar) (ag ar) .none kV29 dc29 pm29 an29 cd29 ct29),sl29⟩) (c29:PySem.W.codeIn K cd29 "_law_chain_right" = true) (k29:PySem.W.keepIn K (.ref f29)=true)
 (a30:PySem.W.nsIn K mainGlobals "_law_hairs_right" = some (some (.ref f30))) (l30:K.lookup f30=some ⟨oc30,od30,.func (PySem.W.fnOf "_law_hairs_right" "_law_hairs_right" (aT ak) (aQ ak) (ag ak) .none kV30 dc30 pm30 an30 cd30 ct30),sl30⟩) (c30:PySem.W.codeIn K cd30 "_law_hairs_right" = true) (k30:PySem.W.keepIn K (.ref f30)=true)
 (a31:PySem.W.nsIn K mainGlobals "law" = some (some (.ref f31))) (l31:K.lookup f31=some ⟨oc31,od31,.func (PySem.W.fnOf "law" "law" (aT cC) (aQ cC) (ag cC) .none kV31 dc31 pm31 an31 cd31 ct31),sl31⟩) (c31:PySem.W.codeIn K cd31 "law" = true) (k31:PySem.W.keepIn K (.ref f31)=true)
 (a32:PySem.W.findIn K (.ref x1) "__init__" = some (some (.ref f32))) (l32:K.lookup f32=some ⟨oc32,od32,.func (PySem.W.fnOf "__init__" "Gaining.__init__" (aT bA) (aQ bA) (ag bA) .none kV32 dc32 pm32 an32 cd32 ct32),sl32⟩) (c32:PySem.W.codeIn K cd32 "Gaining.__init__" = true) (k32:PySem.W.keepIn K (.ref f32)=true)
 (xk0:PySem.W.keepIn K (.ref x0)=true)
 (xb0:xW K x0=true)
 (xk1:PySem.W.keepIn K (.ref x1)=true)
 (xf1:PySem.W.isFn K (.ref f32)=true)
 (xs1:qa K x1 "ties" = true)
 (xr1:xH K x1 "ties" = true)
 (xq1:nt K x1 (some (.ref f32))=true)
 (xe0:PySem.W.exmOne K (.ref x1) (.ref x1)=some true)
 (xi:A1 K [x1] x0=true)
 (z0:PySem.W.nsIn K mainGlobals "abs" = some none)
 (z1:PySem.W.nsIn K mainGlobals "all" = some none)
 (z2:PySem.W.nsIn K mainGlobals "bool" = some none)
 (z3:PySem.W.nsIn K mainGlobals "dict" = some none)
 (z4:PySem.W.nsIn K mainGlobals "divmod" = some none)
 (z5:PySem.W.nsIn K mainGlobals "enumerate" = some none)
 (z6:PySem.W.nsIn K mainGlobals "int" = some none)
 (z7:PySem.W.nsIn K mainGlobals "isinstance" = some none)
 (z8:PySem.W.nsIn K mainGlobals "len" = some none)
 (z9:PySem.W.nsIn K mainGlobals "list" = some none)
 (z10:PySem.W.nsIn K mainGlobals "max" = some none)
 (z11:PySem.W.nsIn K mainGlobals "min" = some none)
 (z12:PySem.W.nsIn K mainGlobals "range" = some none)
 (z13:PySem.W.nsIn K mainGlobals "tuple" = some none)
 (z14:PySem.W.nsIn K mainGlobals "zip" = some none)
 : ∃T:Txt K mg,T.law_.f=f31∧(∀(s:Shared) (u:Value),BindsTo s T.law_.d ⟨[u],[]⟩ [("_law_script",u)]):=by
 refine ⟨{
  b_abs:=PySem.W.mg_none_of X G z0,
  b_all:=PySem.W.mg_none_of X G z1,
  b_bool:=PySem.W.mg_none_of X G z2,
  b_dict:=PySem.W.mg_none_of X G z3,
  b_divmod:=PySem.W.mg_none_of X G z4,
  b_enumerate:=PySem.W.mg_none_of X G z5,
  b_int:=PySem.W.mg_none_of X G z6,
  b_isinstance:=PySem.W.mg_none_of X G z7,
  b_len:=PySem.W.mg_none_of X G z8,
  b_list:=PySem.W.mg_none_of X G z9,
  b_max:=PySem.W.mg_none_of X G z10,
  b_min:=PySem.W.mg_none_of X G z11,
  b_range:=PySem.W.mg_none_of X G z12,
  b_tuple:=PySem.W.mg_none_of X G z13,
  b_zip:=PySem.W.mg_none_of X G z14,
  is_number_:=⟨f0,_,PySem.W.mg_of X G a0,aA (st:=cn) l0 c0 k0,(aA (st:=cn) l0 c0 k0).binds (ps:=["thing"]) fun _ _ _ _ _ _=>mn (fun _=>rfl)⟩,
  common_divisor_:=⟨f1,_,PySem.W.mg_of X G a1,aA (st:=cw) l1 c1 k1,(aA (st:=cw) l1 c1 k1).binds (ps:=["n", "d"]) fun _ _ _ _ _ _=>fw (fun _ _=>rfl)⟩,
  is_fraction_:=⟨f2,_,PySem.W.mg_of X G a2,aA (st:=br) l2 c2 k2,(aA (st:=br) l2 c2 k2).binds (ps:=["thing"]) fun _ _ _ _ _ _=>mn (fun _=>rfl)⟩,
  is_above_nought_:=⟨f3,_,PySem.W.mg_of X G a3,aA (st:=bK) l3 c3 k3,(aA (st:=bK) l3 c3 k3).binds (ps:=["thing"]) fun _ _ _ _ _ _=>mn (fun _=>rfl)⟩,
  fraction_:=⟨f4,_,PySem.W.mg_of X G a4,aA (st:=cN) l4 c4 k4,(aA (st:=cN) l4 c4 k4).binds (ps:=["n", "d"]) fun _ _ _ _ _ _=>fw (fun _ _=>rfl)⟩,
  times_:=⟨f5,_,PySem.W.mg_of X G a5,aA (st:=gv) l5 c5 k5,(aA (st:=gv) l5 c5 k5).binds (ps:=["one", "other"]) fun _ _ _ _ _ _=>fw (fun _ _=>rfl)⟩,
  compared_:=⟨f6,_,PySem.W.mg_of X G a6,aA (st:=cH) l6 c6 k6,(aA (st:=cH) l6 c6 k6).binds (ps:=["one", "other"]) fun _ _ _ _ _ _=>fw (fun _ _=>rfl)⟩,
  is_shut_:=⟨f7,_,PySem.W.mg_of X G a7,aA (st:=fV) l7 c7 k7,(aA (st:=fV) l7 c7 k7).binds (ps:=["tie"]) fun _ _ _ _ _ _=>mn (fun _=>rfl)⟩,
  lift_once_:=⟨f8,_,PySem.W.mg_of X G a8,aA (st:=aV) l8 c8 k8,(aA (st:=aV) l8 c8 k8).binds (ps:=["net", "worths", "onward"]) fun _ _ _ _ _ _=>yq (fun _ _ _=>rfl)⟩,
  round_ahead_:=⟨f9,_,PySem.W.mg_of X G a9,aA (st:=bL) l9 c9 k9,(aA (st:=bL) l9 c9 k9).binds (ps:=["net", "onward", "place"]) fun _ _ _ _ _ _=>yq (fun _ _ _=>rfl)⟩,
  gaining_round_:=⟨f10,_,PySem.W.mg_of X G a10,aA (st:=aW) l10 c10 k10,(aA (st:=aW) l10 c10 k10).binds (ps:=["net"]) fun _ _ _ _ _ _=>mn (fun _=>rfl)⟩,
  lift_all_:=⟨f11,_,PySem.W.mg_of X G a11,aA (st:=bV) l11 c11 k11,(aA (st:=bV) l11 c11 k11).binds (ps:=["net", "worths"]) fun _ _ _ _ _ _=>fw (fun _ _=>rfl)⟩,
  holding_worths_:=⟨f12,_,PySem.W.mg_of X G a12,aA (st:=bJ) l12 c12 k12,(aA (st:=bJ) l12 c12 k12).binds (ps:=["net"]) fun _ _ _ _ _ _=>mn (fun _=>rfl)⟩,
  holds_:=⟨f13,_,PySem.W.mg_of X G a13,aA (st:=eX) l13 c13 k13,(aA (st:=eX) l13 c13 k13).binds (ps:=["tie", "worths"]) fun _ _ _ _ _ _=>fw (fun _ _=>rfl)⟩,
  shows_holding_:=⟨f14,_,PySem.W.mg_of X G a14,aA (st:=aX) l14 c14 k14,(aA (st:=aX) l14 c14 k14).binds (ps:=["net", "thing"]) fun _ _ _ _ _ _=>fw (fun _ _=>rfl)⟩,
  greatest_gain_:=⟨f15,_,PySem.W.mg_of X G a15,aA (st:=bC) l15 c15 k15,(aA (st:=bC) l15 c15 k15).binds (ps:=["net", "begin", "end"]) fun _ _ _ _ _ _=>yq (fun _ _ _=>rfl)⟩,
  best_way_:=⟨f16,_,PySem.W.mg_of X G a16,aA (st:=bQ) l16 c16 k16,(aA (st:=bQ) l16 c16 k16).binds (ps:=["net", "begin", "end"]) fun _ _ _ _ _ _=>yq (fun _ _ _=>rfl)⟩,
  l_box_:=⟨f17,_,PySem.W.mg_of X G a17,aA (st:=j3) l17 c17 k17,(aA (st:=j3) l17 c17 k17).binds (ps:=["_law_script", "_law_k"]) fun _ _ _ _ _ _=>fw (fun _ _=>rfl)⟩,
  l_take_:=⟨f18,_,PySem.W.mg_of X G a18,aA (st:=iW) l18 c18 k18,(aA (st:=iW) l18 c18 k18).binds (ps:=["_law_box_here", "_law_many"]) fun _ _ _ _ _ _=>fw (fun _ _=>rfl)⟩,
  l_folded_:=⟨f19,_,PySem.W.mg_of X G a19,aA (st:=bW) l19 c19 k19,(aA (st:=bW) l19 c19 k19).binds (ps:=["_law_script", "_law_many"]) fun _ _ _ _ _ _=>fw (fun _ _=>rfl)⟩,
  l_frac_:=⟨f20,_,PySem.W.mg_of X G a20,aA (st:=dF) l20 c20 k20,(aA (st:=dF) l20 c20 k20).binds (ps:=["_law_n", "_law_d"]) fun _ _ _ _ _ _=>fw (fun _ _=>rfl)⟩,
  l_product_:=⟨f21,_,PySem.W.mg_of X G a21,aA (st:=cE) l21 c21 k21,(aA (st:=cE) l21 c21 k21).binds (ps:=["_law_one", "_law_other"]) fun _ _ _ _ _ _=>fw (fun _ _=>rfl)⟩,
  l_over_:=⟨f22,_,PySem.W.mg_of X G a22,aA (st:=fu) l22 c22 k22,(aA (st:=fu) l22 c22 k22).binds (ps:=["_law_one", "_law_other"]) fun _ _ _ _ _ _=>fw (fun _ _=>rfl)⟩,
  l_above_:=⟨f23,_,PySem.W.mg_of X G a23,aA (st:=eZ) l23 c23 k23,(aA (st:=eZ) l23 c23 k23).binds (ps:=["_law_one", "_law_other"]) fun _ _ _ _ _ _=>fw (fun _ _=>rfl)⟩,
  l_names_by_:=⟨f24,_,PySem.W.mg_of X G a24,aA (st:=ba) l24 c24 k24,(aA (st:=ba) l24 c24 k24).binds (ps:=["_law_box_here", "_law_many"]) fun _ _ _ _ _ _=>fw (fun _ _=>rfl)⟩,
  l_ring_net_:=⟨f25,_,PySem.W.mg_of X G a25,aA (st:=aE) l25 c25 k25,(aA (st:=aE) l25 c25 k25).binds (ps:=["_law_box_here", "_law_many"]) fun _ _ _ _ _ _=>fw (fun _ _=>rfl)⟩,
  l_caught_:=⟨f26,_,PySem.W.mg_of X G a26,aA (st:=cu) l26 c26 k26,(aA (st:=cu) l26 c26 k26).binds (ps:=["_law_net"]) fun _ _ _ _ _ _=>mn (fun _=>rfl)⟩,
  l_ring_right_:=⟨f27,_,PySem.W.mg_of X G a27,aA (st:=aU) l27 c27 k27,(aA (st:=aU) l27 c27 k27).binds (ps:=["_law_net", "_law_gains"]) fun _ _ _ _ _ _=>fw (fun _ _=>rfl)⟩,
  l_chain_net_:=⟨f28,_,PySem.W.mg_of X G a28,aA (st:=aO) l28 c28 k28,(aA (st:=aO) l28 c28 k28).binds (ps:=["_law_box_here", "_law_many"]) fun _ _ _ _ _ _=>fw (fun _ _=>rfl)⟩,
  l_chain_right_:=⟨f29,_,PySem.W.mg_of X G a29,aA (st:=ar) l29 c29 k29,(aA (st:=ar) l29 c29 k29).binds (ps:=["_law_net"]) fun _ _ _ _ _ _=>mn (fun _=>rfl)⟩,
  l_hairs_right_:=⟨f30,_,PySem.W.mg_of X G a30,aA (st:=ak) l30 c30 k30,(aA (st:=ak) l30 c30 k30).binds (ps:=["_law_box_here"]) fun _ _ _ _ _ _=>mn (fun _=>rfl)⟩,
  law_:=⟨f31,_,PySem.W.mg_of X G a31,aA (st:=cC) l31 c31 k31,(aA (st:=cC) l31 c31 k31).binds (ps:=["_law_script"]) fun _ _ _ _ _ _=>mn (fun _=>rfl)⟩,
  f_Gaining__init:=f32,d_Gaining__init:=_,F_Gaining__init:=aA (st:=bA) l32 c32 k32,B_Gaining__init:=(aA (st:=bA) l32 c32 k32).binds (ps:=["self", "ties"]) fun _ _ _ _ _ _=>fw (fun _ _=>rfl),
  x_GainError:=x0,m_GainError:=PySem.W.mg_of X G xa0,k_GainError:=xk0,xb_GainError:=xb0,
  x_Gaining:=x1,m_Gaining:=PySem.W.mg_of X G xa1,k_Gaining:=xk1,fn_Gaining:=xf1,st_Gaining:=xs1,fd_Gaining:=xr1,q_Gaining:=xq1,
  em_Gaining_Gaining:=xe0,
  kin:=xi },rfl,fun s v=>.of_eq rfl⟩
end K14
namespace K14
open PySem L2
abbrev ao (s:Stmt) (x:Str):Prop:=(ag s).names.lookup x=some NameKind.local
abbrev ay (s:Stmt) (x:Str):Prop:=(ag s).names.lookup x=some NameKind.globalImplicit
abbrev fv (s:Stmt) (x:Str):Prop:=(ag s).names.lookup x=some NameKind.cell
theorem kS:ao cn "thing" := by decide +kernel
theorem iJ:ay cn "isinstance" := by decide +kernel
theorem sN:ay cn "int" := by decide +kernel
theorem sq:ay cn "bool" := by decide +kernel
theorem gI:ao br "thing" := by decide +kernel
theorem jg:ao br "n" := by decide +kernel
theorem gN:ao br "d" := by decide +kernel
theorem mt:ay br "isinstance" := by decide +kernel
theorem pz:ay br "tuple" := by decide +kernel
theorem qL:ay br "len" := by decide +kernel
theorem io:ay br "is_number" := by decide +kernel
theorem jZ:ay br "common_divisor" := by decide +kernel
theorem im:ao bK "thing" := by decide +kernel
theorem jD:ay bK "is_fraction" := by decide +kernel
theorem qj:ao cN "n" := by decide +kernel
theorem lN:ao cN "d" := by decide +kernel
theorem dj:ao cN "divisor" := by decide +kernel
theorem lJ:ay cN "common_divisor" := by decide +kernel
theorem qU:ao gv "one" := by decide +kernel
theorem pc:ao gv "other" := by decide +kernel
theorem sd:ay gv "fraction" := by decide +kernel
theorem nK:ao cH "one" := by decide +kernel
theorem mC:ao cH "other" := by decide +kernel
theorem jf:ao cH "left" := by decide +kernel
theorem iR:ao cH "right" := by decide +kernel
theorem uX:ao fV "tie" := by decide +kernel
theorem sS:ao aV "net" := by decide +kernel
theorem dm:ao aV "worths" := by decide +kernel
theorem p5:ao aV "onward" := by decide +kernel
theorem hU:ao aV "lifted" := by decide +kernel
theorem kj:ao aV "number" := by decide +kernel
theorem jw:ao aV "tie" := by decide +kernel
theorem cP:ao aV "begin" := by decide +kernel
theorem jk:ao aV "end" := by decide +kernel
theorem sg:ao aV "most" := by decide +kernel
theorem lQ:ao aV "gain" := by decide +kernel
theorem qJ:ao aV "price" := by decide +kernel
theorem iC:ao aV "worth" := by decide +kernel
theorem nU:ay aV "enumerate" := by decide +kernel
theorem pi:ay aV "is_shut" := by decide +kernel
theorem qM:ay aV "times" := by decide +kernel
theorem o4:ay aV "compared" := by decide +kernel
theorem qP:ao bL "net" := by decide +kernel
theorem jj:ao bL "onward" := by decide +kernel
theorem cb:ao bL "place" := by decide +kernel
theorem dN:ao bL "places" := by decide +kernel
theorem gT:ao bL "ties" := by decide +kernel
theorem eF:ao aW "net" := by decide +kernel
theorem iO:ao aW "worths" := by decide +kernel
theorem fi:ao aW "onward" := by decide +kernel
theorem de:ao aW "lifted" := by decide +kernel
theorem oV:ao aW "turn" := by decide +kernel
theorem oa:ay aW "range" := by decide +kernel
theorem pJ:ay aW "len" := by decide +kernel
theorem lA:ay aW "lift_once" := by decide +kernel
theorem kr:ay aW "round_ahead" := by decide +kernel
theorem nQ:ao bV "net" := by decide +kernel
theorem qK:ao bV "worths" := by decide +kernel
theorem hJ:ao bV "gaining" := by decide +kernel
theorem iE:ao bV "onward" := by decide +kernel
theorem mi:ay bV "gaining_round" := by decide +kernel
theorem pO:ay bV "Gaining" := by decide +kernel
theorem oZ:ay bV "lift_once" := by decide +kernel
theorem gh:ao bJ "net" := by decide +kernel
theorem ir:fv bJ "worths" := by decide +kernel
theorem lB:ay bJ "lift_all" := by decide +kernel
theorem kf:ao eX "tie" := by decide +kernel
theorem nX:ao eX "worths" := by decide +kernel
theorem sG:ay eX "is_shut" := by decide +kernel
theorem rJ:ay eX "compared" := by decide +kernel
theorem uU:ay eX "times" := by decide +kernel
theorem gH:ao aX "net" := by decide +kernel
theorem dz:ao aX "thing" := by decide +kernel
theorem nh:fv aX "worths" := by decide +kernel
theorem kO:ay aX "isinstance" := by decide +kernel
theorem oD:ay aX "list" := by decide +kernel
theorem jK:ay aX "len" := by decide +kernel
theorem jJ:ay aX "all" := by decide +kernel
theorem oF:ay aX "dict" := by decide +kernel
theorem pp:ay aX "zip" := by decide +kernel
theorem pI:ao bC "net" := by decide +kernel
theorem nY:ao bC "begin" := by decide +kernel
theorem pD:ao bC "end" := by decide +kernel
theorem fj:ao bC "worths" := by decide +kernel
theorem lV:ay bC "lift_all" := by decide +kernel
theorem nN:ao bQ "net" := by decide +kernel
theorem mh:ao bQ "begin" := by decide +kernel
theorem nW:ao bQ "end" := by decide +kernel
theorem iu:ao bQ "worths" := by decide +kernel
theorem iA:ao bQ "onward" := by decide +kernel
theorem j7:ao bQ "way" := by decide +kernel
theorem d0:ao bQ "place" := by decide +kernel
theorem pq:ay bQ "lift_all" := by decide +kernel
theorem jI:ao bW "_law_script" := by decide +kernel
theorem fC:ao bW "_law_many" := by decide +kernel
theorem eY:ao bW "_law_cells" := by decide +kernel
theorem ic:ao bW "_law_k" := by decide +kernel
theorem kR:ao bW "_law_cell" := by decide +kernel
theorem sH:ay bW "list" := by decide +kernel
theorem oY:ay bW "enumerate" := by decide +kernel
theorem qh:ao dF "_law_n" := by decide +kernel
theorem mv:ao dF "_law_d" := by decide +kernel
theorem cZ:ao dF "_law_one" := by decide +kernel
theorem d9:ao dF "_law_other" := by decide +kernel
theorem pN:ay dF "abs" := by decide +kernel
theorem kT:ao cE "_law_one" := by decide +kernel
theorem jL:ao cE "_law_other" := by decide +kernel
theorem pP:ay cE "_law_frac" := by decide +kernel
theorem oA:ao fu "_law_one" := by decide +kernel
theorem lS:ao fu "_law_other" := by decide +kernel
theorem sF:ay fu "_law_frac" := by decide +kernel
theorem mJ:ao eZ "_law_one" := by decide +kernel
theorem kU:ao eZ "_law_other" := by decide +kernel
theorem eM:fv ba "_law_box_here" := by decide +kernel
theorem jN:ao ba "_law_many" := by decide +kernel
theorem mZ:fv ba "_law_letters" := by decide +kernel
theorem jh:fv ba "_law_first" := by decide +kernel
theorem jF:ao ba "_law_rest" := by decide +kernel
theorem ou:fv ba "_law_behind" := by decide +kernel
theorem pH:fv ba "_law_sign" := by decide +kernel
theorem oB:fv ba "_law_other" := by decide +kernel
theorem gK:ay ba "_law_take" := by decide +kernel
theorem gU:ay ba "range" := by decide +kernel
theorem rZ:ay ba "int" := by decide +kernel
theorem kK:ay ba "tuple" := by decide +kernel
theorem b8:fv aE "_law_box_here" := by decide +kernel
theorem cg:fv aE "_law_many" := by decide +kernel
theorem i6:fv aE "_law_places" := by decide +kernel
theorem b6:fv aE "_law_gains" := by decide +kernel
theorem dP:ao aE "_law_whole" := by decide +kernel
theorem gG:ao aE "_law_kind" := by decide +kernel
theorem jG:ao aE "_law_gain" := by decide +kernel
theorem kL:ao aE "_law_due" := by decide +kernel
theorem lh:ao aE "_law_at" := by decide +kernel
theorem gF:ao aE "_law_shut" := by decide +kernel
theorem cT:ao aE "_law_ties" := by decide +kernel
theorem eG:ao aE "_law_spot" := by decide +kernel
theorem mF:ay aE "_law_names_by" := by decide +kernel
theorem ki:ay aE "range" := by decide +kernel
theorem ss:ay aE "min" := by decide +kernel
theorem rV:ay aE "len" := by decide +kernel
theorem eL:ay aE "_law_take" := by decide +kernel
theorem nz:ay aE "_law_product" := by decide +kernel
theorem pj:ay aE "_law_over" := by decide +kernel
theorem pV:ay aE "tuple" := by decide +kernel
theorem rj:ao cu "_law_net" := by decide +kernel
theorem d8:ao cu "_law_caught_here" := by decide +kernel
theorem lX:ao cu "error" := by decide +kernel
theorem li:ay cu "holding_worths" := by decide +kernel
theorem ql:ay cu "Gaining" := by decide +kernel
theorem bR:ao aU "_law_net" := by decide +kernel
theorem nv:ao aU "_law_gains" := by decide +kernel
theorem i3:fv aU "_law_many" := by decide +kernel
theorem ik:ao aU "_law_worths" := by decide +kernel
theorem eQ:ao aU "_law_turned" := by decide +kernel
theorem qd:ay aU "len" := by decide +kernel
theorem jE:ay aU "holding_worths" := by decide +kernel
theorem fJ:ay aU "gaining_round" := by decide +kernel
theorem iq:ay aU "_law_caught" := by decide +kernel
theorem jW:ay aU "shows_holding" := by decide +kernel
theorem oR:ay aU "range" := by decide +kernel
theorem cM:ao aO "_law_box_here" := by decide +kernel
theorem jn:ao aO "_law_many" := by decide +kernel
theorem dh:ao aO "_law_places" := by decide +kernel
theorem dO:ao aO "_law_ties" := by decide +kernel
theorem iy:ao aO "_law_k" := by decide +kernel
theorem gj:ao aO "_law_gain" := by decide +kernel
theorem ja:ao aO "_law_worse" := by decide +kernel
theorem jH:ao aO "_law_one" := by decide +kernel
theorem lY:ay aO "_law_names_by" := by decide +kernel
theorem pA:ay aO "range" := by decide +kernel
theorem oH:ay aO "_law_frac" := by decide +kernel
theorem fY:ay aO "_law_take" := by decide +kernel
theorem mE:ay aO "_law_product" := by decide +kernel
theorem qN:ay aO "len" := by decide +kernel
theorem pC:ay aO "tuple" := by decide +kernel
theorem aY:ao ar "_law_net" := by decide +kernel
theorem bD:ao ar "_law_places" := by decide +kernel
theorem di:ao ar "_law_best" := by decide +kernel
theorem mD:fv ar "_law_begin" := by decide +kernel
theorem nS:fv ar "_law_end" := by decide +kernel
theorem cp:ao ar "_law_some" := by decide +kernel
theorem gX:ao ar "_law_worths" := by decide +kernel
theorem cI:ao ar "_law_at" := by decide +kernel
theorem bU:ao ar "_law_gain" := by decide +kernel
theorem cy:ao ar "_law_due" := by decide +kernel
theorem dM:ao ar "_law_to" := by decide +kernel
theorem cB:ao ar "_law_one" := by decide +kernel
theorem b9:ao ar "_law_other" := by decide +kernel
theorem pr:ay ar "zip" := by decide +kernel
theorem lE:ay ar "enumerate" := by decide +kernel
theorem ip:ay ar "_law_above" := by decide +kernel
theorem jl:ay ar "holding_worths" := by decide +kernel
theorem iX:ay ar "range" := by decide +kernel
theorem jM:ay ar "len" := by decide +kernel
theorem lI:ay ar "_law_product" := by decide +kernel
theorem fz:ay ar "greatest_gain" := by decide +kernel
theorem hZ:ay ar "best_way" := by decide +kernel
theorem jB:ay ar "gaining_round" := by decide +kernel
theorem gn:ao ak "_law_box_here" := by decide +kernel
theorem eO:fv ak "_law_gains" := by decide +kernel
theorem cL:fv ak "_law_places" := by decide +kernel
theorem cR:fv ak "_law_order" := by decide +kernel
theorem df:ao ak "_law_rest" := by decide +kernel
theorem fB:fv ak "_law_turned_over" := by decide +kernel
theorem iY:fv ak "_law_row" := by decide +kernel
theorem iF:ao ak "_law_ties" := by decide +kernel
theorem cS:ao ak "_law_a" := by decide +kernel
theorem gC:ao ak "_law_b" := by decide +kernel
theorem gJ:ao ak "_law_c" := by decide +kernel
theorem gB:ao ak "_law_d" := by decide +kernel
theorem gE:ao ak "_law_e" := by decide +kernel
theorem cU:ao ak "_law_f" := by decide +kernel
theorem mW:fv ak "_law_ends" := by decide +kernel
theorem il:ao ak "_law_found" := by decide +kernel
theorem fH:ao ak "_law_net" := by decide +kernel
theorem dB:ao ak "_law_due" := by decide +kernel
theorem iH:ao ak "_law_gain" := by decide +kernel
theorem kQ:ay ak "_law_names_by" := by decide +kernel
theorem oU:ay ak "list" := by decide +kernel
theorem fM:ay ak "range" := by decide +kernel
theorem mT:ay ak "_law_take" := by decide +kernel
theorem pB:ay ak "len" := by decide +kernel
theorem jT:ay ak "_law_ring_right" := by decide +kernel
theorem i8:ay ak "tuple" := by decide +kernel
theorem lq:ay ak "_law_product" := by decide +kernel
theorem jC:ay ak "greatest_gain" := by decide +kernel
theorem mz:ay ak "best_way" := by decide +kernel
theorem tX:ao cC "_law_script" := by decide +kernel
theorem kN:ao cC "_law_cells" := by decide +kernel
theorem uF:ao cC "_law_k" := by decide +kernel
theorem da:ao cC "_law_box_here" := by decide +kernel
theorem qY:ao cC "_law_net" := by decide +kernel
theorem o9:ao cC "_law_gains" := by decide +kernel
theorem tE:ay cC "_law_folded" := by decide +kernel
theorem wS:ay cC "range" := by decide +kernel
theorem yP:ay cC "max" := by decide +kernel
theorem zh:ay cC "len" := by decide +kernel
theorem wQ:ay cC "_law_box" := by decide +kernel
theorem rW:ay cC "_law_ring_net" := by decide +kernel
theorem pX:ay cC "_law_take" := by decide +kernel
theorem pG:ay cC "_law_hairs_right" := by decide +kernel
theorem pW:ay cC "_law_ring_right" := by decide +kernel
theorem pE:ay cC "_law_chain_right" := by decide +kernel
theorem qO:ay cC "_law_chain_net" := by decide +kernel
theorem jp:ao bA "self" := by decide +kernel
theorem fX:ao bA "ties" := by decide +kernel
theorem lH:ay bA "GainError" := by decide +kernel
theorem kP:ay bA "isinstance" := by decide +kernel
theorem jy:ay bA "list" := by decide +kernel
end K14
namespace K14
open PySem L2
section
variable {P:Program}{w:World}{K:PySem.W.Frag}{mg:Str→Option Value}{base:Heap}
inductive Ey (vs:List V) (H:Hp) (Q:VK):Prop
 | mk (i:Int) (h0:vs=[.int i]) (h1:Q (.bl true) H)
def FM:Sp:=fun vs H Q _=>Ey  vs H Q
theorem vC (T:Txt K mg):bv P w K mg base CX0 1 T.is_number_.f T.is_number_.d ["thing"] FM:=by
 refine T.is_number_.F.ok v0 (fun vs H Q E h=>?_) (fun cdv A outer s H vs Q E hr h=>?_)
 ·obtain ⟨i,rfl,_⟩:=h
  rfl
 ·obtain ⟨i,rfl,k⟩:=h
  refine ⟨_,(@am _ _ _ (@aM _ _ _ _ (@kq _ _ _ _ _ _ _ (@be _ _ _ _ _ _ _ _ _ (@lM _ (K) (by rfl)) iJ T.b_isinstance (@dH) (@aa _ _ _ _ _ (@pw _ 0 _ _ (Or.inl kS) (by rfl) (by decide) (by decide)) (@aa _ _ _ _ _ (@sx _ _ _ _ sN T.b_int (@mU) (by decide) (by decide)) (@ac _) rfl) rfl) (by decide) (by decide) (by rfl) (by rfl)) (@kI _ _ _ _ _ (@vA _ _ _ _ (@be _ _ _ _ _ _ _ _ _ (@lM _ (K) (by rfl)) iJ T.b_isinstance (@dH) (@aa _ _ _ _ _ (@pw _ 0 _ _ (Or.inl kS) (by rfl) (by decide) (by decide)) (@aa _ _ _ _ _ (@sx _ _ _ _ sq T.b_bool (@vB) (by decide) (by decide)) (@ac _) rfl) rfl) (by decide) (by decide) (by rfl) (by rfl))))))),?_⟩
  have hx:bE ED H (.int i) (.int i):=.int i
  exact ⟨_,rfl,_,_,_,_,rfl,hx.ty,Br (.int i),_,rfl,cW ⟨_,rfl,_,_,_,_,rfl,hx.ty,Aj (.int i),_,rfl,k⟩⟩
inductive Ex (vs:List V) (H:Hp) (Q:VK):Prop
 | mk (n d:Int) (h0:vs=[.int n,.int d]) (h1:Q (.int (Int.gcd n d:Nat)) H)
def EO:Sp:=fun vs H Q _=>Ex  vs H Q
theorem kY (T:Txt K mg):bv P w K mg base CX0 1 T.common_divisor_.f T.common_divisor_.d ["n", "d"] EO:=by
 refine T.common_divisor_.F.ok kZ (fun vs H Q E h=>?_) (fun cdv A outer s H vs Q E hr h=>?_)
 ·obtain ⟨n,d,rfl,_⟩:=h
  rfl
 ·obtain ⟨n,d,rfl,k⟩:=h
  refine ⟨_,(ae (j6 PassesOwn.never (bj vj (pv 1) ad (aZ _)) (am (jr (i:=0) (j:=1) rfl kZ.nd rfl rfl (by decide) rfl rfl (dX (pv 1) (dX (aB Bz (pv 0) (pv 1)) ac)) rfl)))
   (am (aM (be lL (by rfl) T.b_abs jo (dX (pv 0) ac))))),?_⟩
  refine ⟨fun m σ H'=>∃a b:Int,σ=[some (.int a),some (.int b)]∧H'=H∧Int.gcd a b=Int.gcd n d∧m=b.natAbs,⟨_,n,d,rfl,rfl,rfl,rfl⟩,?_⟩
  rintro m σ H' ⟨a,b,rfl,rfl,hg,rfl⟩
  refine ⟨_,rfl,rfl,_,rfl,?_⟩
  by_cases hb:b=0
  ·subst hb
   refine cm ?_
   refine ⟨_,rfl,_,rfl,?_⟩
   rw [←KM.gcd_zero_abs,hg]
   exact k
  ·have e:(!decide (V.int b=V.int 0))=true:=by
    rw [decide_eq_false (fun z=>hb (by injection z))];rfl
   rw [e]
   refine cW ⟨fun σ' H''=>∃a' b':Int,σ'=[some (.int a'),some (.int b')]∧H''=H'∧Int.gcd a' b'=Int.gcd n d∧b'.natAbs<b.natAbs,?_,?_⟩
   ·rintro σ' H'' ⟨a',b',rfl,rfl,h1,h2⟩
    exact ⟨_,h2,a',b',rfl,rfl,h1,rfl⟩
   ·refine ⟨_,rfl,_,rfl,_,rfl,_,_,rfl,rfl,hb,_,_,rfl,?_⟩
    exact ⟨b,a.fmod b,rfl,rfl,(KM.gcd_fmod a b).trans hg,KM.fmod_natAbs_lt a b hb⟩
inductive E2 (vs:List V) (H:Hp) (Q:VK):Prop
 | mk (o:Addr) (p:KM.Fra) (h0:vs=[.ref o]) (h1:H o=some (fr p)) (h2:KM.Rd p) (h3:Q (.bl true) H)
def GA:Sp:=fun vs H Q _=>E2  vs H Q
theorem tL (T:Txt K mg):bv P w K mg base CX0 2 T.is_fraction_.f T.is_fraction_.d ["thing"] GA:=by
 have G_is_number:=vC (P:=P) (w:=w) (base:=base) T
 have G_common_divisor:=kY (P:=P) (w:=w) (base:=base) T
 refine T.is_fraction_.F.ok jR (fun vs H Q E h=>?_) (fun cdv A outer s H vs Q E hr h=>?_)
 ·obtain ⟨o,p,rfl,_⟩:=h
  rfl
 ·obtain ⟨o,p,rfl,ho,rp,k⟩:=h
  refine ⟨_,(@ae _ _ _ _ _ (@cK _ _ _ _ _ _ _ _ (@PW.pt _ _ _ (@mP _ _ _ _ _ _ _ (@iI _ _ _ _ (@fh _ _ _ (@be _ _ _ _ _ _ _ _ _ (@lM _ (K) (by rfl)) mt T.b_isinstance (@dH) (@aa _ _ _ _ _ (@pw _ 0 _ _ (Or.inl gI) (by rfl) (by decide) (by decide)) (@aa _ _ _ _ _ (@sx _ _ _ _ pz T.b_tuple (@dE) (by decide) (by decide)) (@ac _) rfl) rfl) (by decide) (by decide) (by rfl) (by rfl)) (by intro _;rfl))) (@km _ _ _ _ (@bj _ _ _ _ _ _ _ _ (@vj _) (@be _ _ _ _ _ _ _ _ _ (@ju _ (K) (by rfl)) qL T.b_len (@cq) (@aa _ _ _ _ _ (@pw _ 0 _ _ (Or.inl gI) (by rfl) (by decide) (by decide)) (@ac _) rfl) (by decide) (by decide) (by rfl) (by rfl)) (@ad _ _ _ _) (@aZ _ _ (by decide) (by decide)))))) (@am _ _ _ (@aM _ _ _ _ (@ig _ _ _ _))) (@bM _)) (@ae _ _ _ _ _ (@eh _ _ _ _ _ _ (@pw _ 0 _ _ (Or.inl gI) (by rfl) (by decide) (by decide)) (@cY _ (K) _ _ _ _ (2) rfl (@aP _ _ _ _ _ (@aw _ _ (1) _ jR.nd rfl (Or.inl jg) (by first | exact .inl rfl | exact .inr rfl | assumption)) (@aP _ _ _ _ _ (@aw _ _ (2) _ jR.nd rfl (Or.inl gN) (by first | exact .inl rfl | exact .inr rfl | assumption)) (@dv _) (by rfl)) (by rfl)) (by rfl) (by rfl) (by rfl)) (by rfl) (by rfl) (by rfl)) (@ae _ _ _ _ _ (@cK _ _ _ _ _ _ _ _ (@PW.pt _ _ _ (@mP _ _ _ _ _ _ _ (@iI _ _ _ _ (@fh _ _ _ (@ap _ _ _ _ _ _ _ _ _ _ _ _ _ _ _ _ G_is_number (hr.mono (by decide)) io T.is_number_.m T.is_number_.F.kp T.is_number_.B .nil (@aK _) (@aa _ _ _ _ _ (@pw _ 1 _ _ (Or.inl jg) (by rfl) (by decide) (by decide)) (@ac _) rfl) (by decide) (by rfl) (by rfl)) (by intro _;rfl))) (@km _ _ _ _ (@iI _ _ _ _ (@fh _ _ _ (@ap _ _ _ _ _ _ _ _ _ _ _ _ _ _ _ _ G_is_number (hr.mono (by decide)) io T.is_number_.m T.is_number_.F.kp T.is_number_.B .nil (@aK _) (@aa _ _ _ _ _ (@pw _ 2 _ _ (Or.inl gN) (by rfl) (by decide) (by decide)) (@ac _) rfl) (by decide) (by rfl) (by rfl)) (by intro _;rfl)))))) (@am _ _ _ (@aM _ _ _ _ (@ig _ _ _ _))) (@bM _)) (@am _ _ _ (@aM _ _ _ _ (@kq _ _ _ _ _ _ _ (@cO _ _ _ _ _ _ _ _ (@AW _) (@pw _ 2 _ _ (Or.inl gN) (by rfl) (by decide) (by decide)) (@ad _ _ _ _) (@aZ _ _ (by decide) (by decide))) (@kI _ _ _ _ _ (@cO _ _ _ _ _ _ _ _ (@sZ _) (@ap _ _ _ _ _ _ _ _ _ _ _ _ _ _ _ _ G_common_divisor (hr.mono (by decide)) jZ T.common_divisor_.m T.common_divisor_.F.kp T.common_divisor_.B .nil (@aK _) (@aa _ _ _ _ _ (@pw _ 1 _ _ (Or.inl jg) (by rfl) (by decide) (by decide)) (@aa _ _ _ _ _ (@pw _ 2 _ _ (Or.inl gN) (by rfl) (by decide) (by decide)) (@ac _) rfl) rfl) (by decide) (by rfl) (by rfl)) (@ad _ _ _ _) (@aZ _ _ (by decide) (by decide)))))))))),?_⟩
  have hx:bE ED H (.ref o) (cJ p):=cQ ho
  refine bT fun DA nA=>⟨_,rfl,_,_,_,_,rfl,hx.ty,yR (cJ p),_,rfl,cm ⟨_,rfl,o,_,rfl,.inr (au.of ho),rfl,_,rfl,cm (nA _ _ ?_)⟩⟩
  refine bT fun DB nB=>⟨_,rfl,o,_,rfl,au.of ho,rfl,_,_,rfl,_,_,rfl,rfl,nB _ _ ?_⟩
  refine bT fun DC nC=>⟨_,rfl,_,rfl,_,rfl,cm ⟨_,rfl,_,rfl,_,rfl,cm (nC _ _ ?_)⟩⟩
  refine ⟨_,rfl,_,_,rfl,rfl,_,rfl,?_⟩
  rw [decide_eq_true (show p.2≥1 from rp.1)]
  refine cW ⟨_,rfl,_,rfl,p.1,p.2,rfl,rfl,?_⟩
  rw [show Int.gcd p.1 p.2=1 from rp.2]
  exact k
inductive Dp (vs:List V) (H:Hp) (Q:VK):Prop
 | mk (o:Addr) (p:KM.Fra) (h0:vs=[.ref o]) (h1:H o=some (fr p)) (h2:KM.Rd p) (h3:1≤p.1) (h4:Q (.bl true) H)
def F4:Sp:=fun vs H Q _=>Dp  vs H Q
theorem qg (T:Txt K mg):bv P w K mg base CX0 3 T.is_above_nought_.f T.is_above_nought_.d ["thing"] F4:=by
 have G_is_fraction:=tL (P:=P) (w:=w) (base:=base) T
 refine T.is_above_nought_.F.ok pK (fun vs H Q E h=>?_) (fun cdv A outer s H vs Q E hr h=>?_)
 ·obtain ⟨o,p,rfl,_⟩:=h
  rfl
 ·obtain ⟨o,p,rfl,ho,rp,h1,k⟩:=h
  refine ⟨_,(@am _ _ _ (@aM _ _ _ _ (@kq _ _ _ _ _ _ _ (@ap _ _ _ _ _ _ _ _ _ _ _ _ _ _ _ _ G_is_fraction (hr.mono (by decide)) jD T.is_fraction_.m T.is_fraction_.F.kp T.is_fraction_.B .nil (@aK _) (@aa _ _ _ _ _ (@pw _ 0 _ _ (Or.inl im) (by rfl) (by decide) (by decide)) (@ac _) rfl) (by decide) (by rfl) (by rfl)) (@kI _ _ _ _ _ (@cO _ _ _ _ _ _ _ _ (@mH _) (@aq _ _ _ _ _ _ _ (@aN _ (K) (by rfl)) (@pw _ 0 _ _ (Or.inl im) (by rfl) (by decide) (by decide)) (@ad _ _ _ _) (fun _ _=>rfl)) (@ad _ _ _ _) (@aZ _ _ (by decide) (by decide))))))),?_⟩
  refine ⟨_,rfl,o,p,rfl,ho,rp,_,rfl,cW ⟨_,rfl,o,_,_,_,rfl,rfl,au.of ho,rfl,_,_,rfl,rfl,?_⟩⟩
  have e:decide (p.1 > 0)=true:=decide_eq_true (by trivial)
  exact Eq.mp (congrArg (fun b=>Q (.bl b) H) e.symm) k
end
end K14
namespace K14
open PySem L2
section
variable {P:Program}{w:World}{K:PySem.W.Frag}{mg:Str→Option Value}{base:Heap}
theorem EI (T:Txt K mg):bv P w K mg base CX0 1 T.l_box_.f T.l_box_.d ["_law_script", "_law_k"] (F1 K):=by
 refine T.l_box_.F.ok rY (fun vs H Q E h=>?_) (fun cdv A outer s H vs Q E hr h=>?_)
 ·obtain ⟨a,ms,k,rfl,_⟩:=h
  rfl
 ·obtain ⟨a,ms,k,rfl,hS,hk0,hk1,kk⟩:=h
  refine ⟨_,(ae (aL (i:=2) rY.nd rfl (Or.inl rfl) ad)
   (ae (cK (bj vm (pv 1) (be pR (by rfl) T.b_len cq (dX (pv 0) ac)) (aZ _)) (am (aL (i:=2) rY.nd rfl (Or.inl rfl) (aq kz (pv 0) (pv 1) (fun _ _=>rfl)))) bM)
   (am (aM (Dj (dX (aB iK (be lL (by rfl) T.b_abs jo (dX (pv 2) ac)) (dQ ui (by rfl) T.b_int mU (dX (cO AW (be lL (by rfl) T.b_abs jo (dX (pv 2) ac)) (aB yZ ad ad) (aZ _)) ac))) (dX (aB g9 (aB cx (pv 2) (aB iK (aB iK ad (pv 1)) (pv 1))) ad) (dX ad ac)))))))),?_⟩
  refine ⟨_,rfl,_,rfl,a,_,rfl,.inl hS,_,_,rfl,rfl,_,rfl,?_⟩
  refine vL (fun h=>?_) (fun h=>?_)
  case' refine_1=>
   have hlt:k.toNat<ms.length:=by
    have h':=of_decide_eq_true h
    rw [List.length_map] at h'
    trivial
   refine ⟨_,rfl,_,rfl,.inl ⟨a,_,_,V.int ms[k.toNat],rfl,rfl,hS,?_,?_⟩⟩
   ·exact BP hk0 hlt
  all_goals
   refine ⟨_,rfl,_,rfl,_,rfl,_,rfl,_,_,rfl,rfl,⟨by decide,by decide,by decide⟩,_,_,rfl,rfl,.inr ⟨_,rfl,_,_,rfl,rfl,.inr ?_,_,rfl,_,rfl,_,_,rfl,rfl,.inr ⟨by trivial,by trivial⟩,_,rfl,_,_,rfl,rfl,.inr ⟨by trivial,by trivial⟩,_,_,rfl,rfl,_,_,rfl,rfl,?_,?_,fun p hp=>kk p _ hp (aj.new hp) ⟨_,_,aC,?_,?_,?_⟩⟩⟩
   ·exact G7 _
   ·show (0:Int)<2147483647;decide
   ·show 3≤sizeLine;decide
   ·exact E4 _ (vq _)
   ·exact Int.emod_nonneg _ (by decide)
   ·exact Int.emod_lt_of_pos _ (by decide)
end
end K14
namespace K14
open PySem L2
section
variable {P:Program}{w:World}{K:PySem.W.Frag}{mg:Str→Option Value}{base:Heap}
theorem nM (T:Txt K mg):bv P w K mg base CX0 1 T.l_take_.f T.l_take_.d ["_law_box_here", "_law_many"] En:=by
 refine T.l_take_.F.ok pT (fun vs H Q E h=>?_) (fun cdv A outer s H vs Q E hr h=>?_)
 ·obtain ⟨b,many,t,rfl,_⟩:=h
  rfl
 ·obtain ⟨b,many,t,rfl,⟨c,x,hb,hc,hx0,hx1⟩,hm0,hm1,ht0,ht1,kk⟩:=h
  refine ⟨_,(ae (cK (bj mH (aq kz (pv 0) ad (fun _ _=>rfl)) ad (aZ _)) (ae (eh (be wn (by rfl) T.b_divmod va (dX (aq kz (pv 0) ad (fun _ _=>rfl)) (dX (pv 1) ac))) (zN rfl (aP (oo (pv 0) ad so) (aP (aw (i:=2) pT.nd rfl (Or.inl rfl)) dv))))
   (am (aM (pv 2)))) bM)
   (ae (eh (aB cx (aq kz (pv 0) ad (fun _ _=>rfl)) ad) (oo (pv 0) ad so))
   (ae (aL (i:=3) pT.nd rfl (Or.inl rfl) (aB g9 (aB yZ (aB cx (aq kz (pv 0) ad (fun _ _=>rfl)) (aB iK ad (aq kz (pv 0) ad (fun _ _=>rfl)))) ad) ad))
   (am (aM (aB g9 (aB Ct (aB g9 (aB cx (aB iK (pv 3) ad) (aB iK (aB iK (aq kz (pv 0) ad (fun _ _=>rfl)) (aq kz (pv 0) ad (fun _ _=>rfl))) ad)) ad) ad) (pv 1))))))),?_⟩
  refine ⟨_,rfl,.inl ⟨b,_,_,_,rfl,rfl,aG.of hb,rfl,_,_,rfl,rfl,_,rfl,?_⟩⟩
  refine vL (fun h=>?_) (fun h=>?_)
  ·refine ⟨_,rfl,.inl ⟨b,_,_,_,rfl,rfl,aG.of hb,rfl,_,rfl,_,_,rfl,⟨hm0,hm1⟩,fun p hp=>⟨p,_,rfl,au.of aC,rfl,_,_,rfl,_,rfl,b,[.int c,.int x,.int t],_,0,rfl,rfl,?_,rfl,_,_,rfl,rfl,_,rfl,?_⟩⟩⟩
   ·rw [av (bq hb hp)];exact hb
   ·have hb':aI H p (.tup [.int (c / many),.int (c % many)]) b=some (.lst [.int c,.int x,.int t]):=by rw [av (bq hb hp)];exact hb
    exact kk _ t _ (Int.emod_nonneg _ (Int.ne_of_gt hm0)) (Int.emod_lt_of_pos _ hm0) (Int.le_refl _) (by trivial) (ul (aj.new hp) hb') ⟨_,_,aC,Int.ediv_nonneg hc (Int.le_of_lt hm0),hx0,hx1⟩
  ·refine ⟨_,rfl,.inl ⟨b,_,_,_,rfl,rfl,aG.of hb,rfl,_,_,rfl,rfl,_,rfl,b,_,_,2,rfl,rfl,hb,rfl,?_⟩⟩
   refine ⟨_,rfl,.inl ⟨b,_,_,_,rfl,rfl,aG.of aC,rfl,_,rfl,.inl ⟨b,_,_,_,rfl,rfl,aG.of aC,rfl,_,_,rfl,rfl,.inl ⟨by decide,by decide⟩,_,_,rfl,rfl,_,_,rfl,rfl,⟨by decide,by decide,?_⟩,_,_,rfl,rfl,?_,?_⟩⟩⟩
   ·have:(x+39373*(t+1)).natAbs<2 ^ 64:=by trivial
    exact this
   ·show (0:Int)<2147483647;decide
   have ho0:0≤(x+39373*(t+1)) ^ (5:Int).toNat % 2147483647:=Int.emod_nonneg _ (by decide)
   have ho1:(x+39373*(t+1)) ^ (5:Int).toNat % 2147483647<2147483647:=Int.emod_lt_of_pos _ (by decide)
   generalize (x+39373*(t+1)) ^ (5:Int).toNat % 2147483647=on at ho0 ho1 ⊢
   refine ⟨_,rfl,_,_,rfl,rfl,.inr ⟨by decide,by decide⟩,_,rfl,.inl ⟨b,_,_,_,rfl,rfl,aG.of aC,rfl,_,rfl,.inl ⟨b,_,_,_,rfl,rfl,aG.of aC,rfl,_,_,rfl,rfl,.inl ⟨?_,?_⟩,_,_,rfl,rfl,.inr ⟨by decide,by decide⟩,_,_,rfl,rfl,_,_,rfl,rfl,?_,_,_,rfl,rfl,⟨by decide,by decide⟩,_,rfl,_,_,rfl,rfl,hm0,?_⟩⟩⟩
   ·show -(2 ^ 64)<t+1;trivial
   ·show t+1<2 ^ 64;trivial
   ·show (0:Int)<2147483629;decide
   ·exact kk _ (t+1) _ (Int.emod_nonneg _ (Int.ne_of_gt hm0)) (Int.emod_lt_of_pos _ hm0) (by trivial) (Int.le_refl _) (ul (aj.refl H) hb) ⟨c,x,aC,hc,hx0,hx1⟩
end
end K14
namespace K14
open PySem L2
section
variable {P:Program}{w:World}{K:PySem.W.Frag}{mg:Str→Option Value}{base:Heap}
theorem Hh {H H1 H2:Hp}{y C dx:Addr}{fs:List (Str×V)} (fr:H y=none) (s:aj H H1) (hd:H1 dx=none) (ne:dx≠y) (e:H2=aI (aI H1 dx (.xd fs)) y (fZ y C (some dx))):aj H H2∧Hg H2 y C fs∧∀a o,H1 a=some o→a≠y→H2 a=some o:=by
 subst e
 have k:∀a o,H1 a=some o→a≠y→aI (aI H1 dx (.xd fs)) y (fZ y C (some dx)) a=some o:=fun a o h1 ny=>by
  have nd:a≠dx:=fun z=>by rw [z,hd] at h1;cases h1
  rw [av ny,av nd]
  exact h1
 exact ⟨fun a o h=>k a o (s _ _ h) (fun z=>by rw [z,fr] at h;cases h),.inr ⟨dx,aC,by rw [av ne];exact aC⟩,k⟩
theorem Hf {f:Str}{v:V}:([(f,v)]:List (Str×V)).lookup f=some v:=by simp [List.lookup]
inductive Cs (K:PySem.W.Frag) (f:Str) (vs:List V) (H:Hp) (Q:VK):Prop
 | mk (y C l:Addr) (ns:List Int) (ini:Option Value) (h0:vs=[.ref y,.ref l]) (h1:H y=some (fZ y C none)) (h2:nt K C ini=true) (h3:qa K C f=true) (h4:H l=some (.lst (ns.map V.int))) (h5:∀p dx H1 H',Nw H p (.lst (ns.map V.int)) H1→H1 dx=none→dx≠y→H'=aI (aI H1 dx (.xd [(f,.ref p)])) y (fZ y C (some dx))→Q .non H')
def EH (K:PySem.W.Frag) (f:Str):Sp:=fun vs H Q _=>Cs K f vs H Q
theorem rS {E:Addr→Prop}{H:Hp}:∀ns:List Int,aJ E H (ns.map V.int) (ns.map PyData.int)
 | []=>.nil
 | i :: r=>.cons (.int i) (rS r)
theorem x3 (T:Txt K mg):bv P w K mg base CX0 1 T.f_Gaining__init T.d_Gaining__init ["self", "ties"] (EH K "ties"):=by
 refine T.F_Gaining__init.ok rX (fun vs H Q E h=>?_) (fun cdv A outer s H vs Q E hr h=>?_)
 ·obtain ⟨y,C,l,ns,ini,rfl,_⟩:=h
  rfl
 ·obtain ⟨y,C,l,ns,ini,rfl,hy,hx,hs,hl,k⟩:=h
  refine ⟨_,(@ae _ _ _ _ _ (@fN _ _ _ _ (@zY _ _ _ _ _ _ _ _ _ _ T.xb_GainError lH T.m_GainError (@aa _ _ _ _ _ (@pw _ 0 _ _ (Or.inl jp) (by rfl) (by decide) (by decide)) (@aa _ _ _ _ _ (@mf _ _ _ _) (@ac _) rfl) rfl) (by decide) (by rfl) (by rfl) (by rfl)) (by rfl)) (@am _ _ _ (@Cw _ _ _ _ _ _ _ _ (@pw _ 0 _ _ (Or.inl jp) (by rfl) (by decide) (by decide)) (@j8 _ _ _ _ _ _ _ _ (@fh _ _ _ (@be _ _ _ _ _ _ _ _ _ (@lM _ (K) (by rfl)) kP T.b_isinstance (@dH) (@aa _ _ _ _ _ (@pw _ 1 _ _ (Or.inl fX) (by rfl) (by decide) (by decide)) (@aa _ _ _ _ _ (@sx _ _ _ _ jy T.b_list (@hV) (by decide) (by decide)) (@ac _) rfl) rfl) (by decide) (by decide) (by rfl) (by rfl)) (by intro _;rfl)) (@dQ _ _ _ _ _ _ _ _ _ (@pb _ (K) (by rfl)) jy T.b_list (@hV) (@aa _ _ _ _ _ (@pw _ 1 _ _ (Or.inl fX) (by rfl) (by decide) (by decide)) (@ac _) rfl) (by decide) (by decide) (by rfl) (by rfl)) (@pw _ 1 _ _ (Or.inl fX) (by rfl) (by decide) (by decide))) rfl))),?_⟩
  have hd:bE (fun _=>False) H (.ref l) (.list (ns.map PyData.int)):=.lst hl id (rS ns)
  refine ⟨_,rfl,y,_,C,ini,rfl,hy,hx,_,rfl,_,_,_,_,rfl,hd.ty,vT _,_,rfl,cW ⟨_,rfl,l,_,rfl,.inl (aG.of hl),fun p H1 n1=>?_⟩⟩
  exact ⟨_,rfl,y,C,rfl,n1.sm _ _ hy,hs,fun dx H' h1 h2 h3=>k p dx H1 H' n1 h1 h2 h3⟩
end
end K14
namespace K14
open PySem L2
section
variable {P:Program}{w:World}{K:PySem.W.Frag}{mg:Str→Option Value}{base:Heap}
theorem wM (T:Txt K mg):bv P w K mg base CX0 2 T.fraction_.f T.fraction_.d ["n", "d"] Ei:=by
 have G_common_divisor:=kY (P:=P) (w:=w) (base:=base) T
 refine T.fraction_.F.ok nl (fun vs H Q E h=>?_) (fun cdv A outer s H vs Q E hr h=>?_)
 ·obtain ⟨n,d,rfl,_⟩:=h
  rfl
 ·obtain ⟨n,d,rfl,hd,hs,k⟩:=h
  refine ⟨_,(@ae _ _ _ _ _ (@aL _ _ (2) _ _ _ _ nl.nd rfl (Or.inl dj) (@ap _ _ _ _ _ _ _ _ _ _ _ _ _ _ _ _ G_common_divisor (hr.mono (by decide)) lJ T.common_divisor_.m T.common_divisor_.F.kp T.common_divisor_.B .nil (@aK _) (@aa _ _ _ _ _ (@pw _ 0 _ _ (Or.inl qj) (by rfl) (by decide) (by decide)) (@aa _ _ _ _ _ (@pw _ 1 _ _ (Or.inl lN) (by rfl) (by decide) (by decide)) (@ac _) rfl) rfl) (by decide) (by rfl) (by rfl)) (by rfl) (by first | exact .inl rfl | exact .inr rfl | assumption)) (@ae _ _ _ _ _ (@cK _ _ _ _ _ _ _ _ (@bj _ _ _ _ _ _ _ _ (@vm _) (@pw _ 1 _ _ (Or.inl lN) (by rfl) (by decide) (by decide)) (@ad _ _ _ _) (@aZ _ _ (by decide) (by decide))) (@am _ _ _ (@aL _ _ (2) _ _ _ _ nl.nd rfl (Or.inl dj) (@vf _ _ _ _ _ _ (@sP _) (@pw _ 2 _ _ (Or.inl dj) (by rfl) (by decide) (by decide))) (by rfl) (by first | exact .inl rfl | exact .inr rfl | assumption))) (@bM _)) (@am _ _ _ (@aM _ _ _ _ (@ax _ _ _ _ _ (@aa _ _ _ _ _ (@aB _ _ _ _ _ _ _ _ (@vY _) (@pw _ 0 _ _ (Or.inl qj) (by rfl) (by decide) (by decide)) (@pw _ 2 _ _ (Or.inl dj) (by rfl) (by decide) (by decide))) (@aa _ _ _ _ _ (@aB _ _ _ _ _ _ _ _ (@vY _) (@pw _ 1 _ _ (Or.inl lN) (by rfl) (by decide) (by decide)) (@pw _ 2 _ _ (Or.inl dj) (by rfl) (by decide) (by decide))) (@ac _) rfl) rfl)))))),?_⟩
  refine ⟨_,rfl,_,rfl,n,d,rfl,_,rfl,_,_,rfl,rfl,_,rfl,?_⟩
  have g0:=KM.gcd_pos (n:=n) hd
  have gs:=Go (n:=n) hd hs
  have kl:=KM.fdiv_low (n:=n) hd
  by_cases h0:d<0
  ·rw [decide_eq_true h0]
   rw [if_pos h0] at kl
   have c1:∀x,xK x (-((Int.gcd n d:Nat):Int)):=fun x=>⟨by trivial,gs.neg⟩
   refine cW ⟨_,rfl,_,rfl,_,rfl,_,rfl,_,_,rfl,rfl,c1 n,_,rfl,_,rfl,_,_,rfl,rfl,c1 d,(by show 2≤10000;decide),fun p H1 nw=>?_⟩
   have q:=k p H1
   rw [←kl] at q
   exact q nw
  ·rw [decide_eq_false h0]
   rw [if_neg h0] at kl
   have c1:∀x,xK x ((Int.gcd n d:Nat):Int):=fun x=>⟨by trivial,gs⟩
   refine cm ⟨_,rfl,_,rfl,_,_,rfl,rfl,c1 n,_,rfl,_,rfl,_,_,rfl,rfl,c1 d,(by show 2≤10000;decide),fun p H1 nw=>?_⟩
   have q:=k p H1
   rw [←kl] at q
   exact q nw
theorem ww (T:Txt K mg):bv P w K mg base CX0 3 T.times_.f T.times_.d ["one", "other"] (Ev GL Gy):=by
 have G_fraction:=wM (P:=P) (w:=w) (base:=base) T
 refine T.times_.F.ok An (fun vs H Q E h=>?_) (fun cdv A outer s H vs Q E hr h=>?_)
 ·obtain ⟨a,b,n1,d1,n2,d2,rfl,_⟩:=h
  rfl
 ·obtain ⟨a,b,n1,d1,n2,d2,rfl,ha,hb,⟨z1,z2,z3,z4,hd⟩,k⟩:=h
  refine ⟨_,(@am _ _ _ (@aM _ _ _ _ (@ap _ _ _ _ _ _ _ _ _ _ _ _ _ _ _ _ G_fraction (hr.mono (by decide)) sd T.fraction_.m T.fraction_.F.kp T.fraction_.B .nil (@aK _) (@aa _ _ _ _ _ (@aB _ _ _ _ _ _ _ _ (@gu _) (@aq _ _ _ _ _ _ _ (@aN _ (K) (by rfl)) (@pw _ 0 _ _ (Or.inl qU) (by rfl) (by decide) (by decide)) (@ad _ _ _ _) (fun _ _=>rfl)) (@aq _ _ _ _ _ _ _ (@aN _ (K) (by rfl)) (@pw _ 1 _ _ (Or.inl pc) (by rfl) (by decide) (by decide)) (@ad _ _ _ _) (fun _ _=>rfl))) (@aa _ _ _ _ _ (@aB _ _ _ _ _ _ _ _ (@gu _) (@aq _ _ _ _ _ _ _ (@aN _ (K) (by rfl)) (@pw _ 0 _ _ (Or.inl qU) (by rfl) (by decide) (by decide)) (@ad _ _ _ _) (fun _ _=>rfl)) (@aq _ _ _ _ _ _ _ (@aN _ (K) (by rfl)) (@pw _ 1 _ _ (Or.inl pc) (by rfl) (by decide) (by decide)) (@ad _ _ _ _) (fun _ _=>rfl))) (@ac _) rfl) rfl) (by decide) (by rfl) (by rfl)))),?_⟩
  exact ⟨_,rfl,a,_,_,_,rfl,rfl,au.of ha,rfl,_,rfl,b,_,_,_,rfl,rfl,au.of hb,rfl,_,_,rfl,rfl,mS z1 z3,
   _,rfl,a,_,_,_,rfl,rfl,au.of ha,rfl,_,rfl,b,_,_,_,rfl,rfl,au.of hb,rfl,_,_,rfl,rfl,mS z2 z4,_,_,rfl,hd,yh z2 z4,k⟩
theorem qZ (T:Txt K mg):bv P w K mg base CX0 1 T.compared_.f T.compared_.d ["one", "other"] FT:=by
 refine T.compared_.F.ok nq (fun vs H Q E h=>?_) (fun cdv A outer s H vs Q E hr h=>?_)
 ·obtain ⟨a,b,n1,d1,n2,d2,rfl,_⟩:=h
  rfl
 ·obtain ⟨a,b,n1,d1,n2,d2,rfl,ha,hb,z1,z2,z3,z4,k⟩:=h
  refine ⟨_,(@ae _ _ _ _ _ (@aL _ _ (2) _ _ _ _ nq.nd rfl (Or.inl jf) (@aB _ _ _ _ _ _ _ _ (@gu _) (@aq _ _ _ _ _ _ _ (@aN _ (K) (by rfl)) (@pw _ 0 _ _ (Or.inl nK) (by rfl) (by decide) (by decide)) (@ad _ _ _ _) (fun _ _=>rfl)) (@aq _ _ _ _ _ _ _ (@aN _ (K) (by rfl)) (@pw _ 1 _ _ (Or.inl mC) (by rfl) (by decide) (by decide)) (@ad _ _ _ _) (fun _ _=>rfl))) (by rfl) (by first | exact .inl rfl | exact .inr rfl | assumption)) (@ae _ _ _ _ _ (@aL _ _ (3) _ _ _ _ nq.nd rfl (Or.inl iR) (@aB _ _ _ _ _ _ _ _ (@gu _) (@aq _ _ _ _ _ _ _ (@aN _ (K) (by rfl)) (@pw _ 1 _ _ (Or.inl mC) (by rfl) (by decide) (by decide)) (@ad _ _ _ _) (fun _ _=>rfl)) (@aq _ _ _ _ _ _ _ (@aN _ (K) (by rfl)) (@pw _ 0 _ _ (Or.inl nK) (by rfl) (by decide) (by decide)) (@ad _ _ _ _) (fun _ _=>rfl))) (by rfl) (by first | exact .inl rfl | exact .inr rfl | assumption)) (@ae _ _ _ _ _ (@cK _ _ _ _ _ _ _ _ (@bj _ _ _ _ _ _ _ _ (@vm _) (@pw _ 2 _ _ (Or.inl jf) (by rfl) (by decide) (by decide)) (@pw _ 3 _ _ (Or.inl iR) (by rfl) (by decide) (by decide)) (@aZ _ _ (by decide) (by decide))) (@am _ _ _ (@aM _ _ _ _ (@vf _ _ _ _ _ _ (@sP _) (@ad _ _ _ _)))) (@bM _)) (@ae _ _ _ _ _ (@cK _ _ _ _ _ _ _ _ (@bj _ _ _ _ _ _ _ _ (@mH _) (@pw _ 2 _ _ (Or.inl jf) (by rfl) (by decide) (by decide)) (@pw _ 3 _ _ (Or.inl iR) (by rfl) (by decide) (by decide)) (@aZ _ _ (by decide) (by decide))) (@am _ _ _ (@aM _ _ _ _ (@ad _ _ _ _))) (@bM _)) (@am _ _ _ (@aM _ _ _ _ (@ad _ _ _ _))))))),?_⟩
  refine ⟨_,rfl,a,_,_,_,rfl,rfl,au.of ha,rfl,_,rfl,b,_,_,_,rfl,rfl,au.of hb,rfl,_,_,rfl,rfl,mS z1 z4,_,rfl,b,_,_,_,rfl,rfl,au.of hb,rfl,_,rfl,a,_,_,_,rfl,rfl,au.of ha,rfl,_,_,rfl,rfl,mS z3 z2,
   _,rfl,_,rfl,_,_,rfl,rfl,_,rfl,?_⟩
  unfold oC at k
  by_cases h1:n1*d2<n2*d1
  ·rw [decide_eq_true h1]
   rw [if_pos h1] at k
   exact cW ⟨_,rfl,k⟩
  ·rw [decide_eq_false h1]
   rw [if_neg h1] at k
   refine cm ⟨_,rfl,_,rfl,_,_,rfl,rfl,_,rfl,?_⟩
   by_cases h2:n2*d1<n1*d2
   ·rw [decide_eq_true h2]
    rw [if_pos h2] at k
    exact cW k
   ·rw [decide_eq_false h2]
    rw [if_neg h2] at k
    exact cm k
end
end K14
namespace K14
open PySem L2
section
variable {P:Program}{w:World}{K:PySem.W.Frag}{mg:Str→Option Value}{base:Heap}
theorem xA {n d:Int} (hd:d≠0) (h:d.natAbs.log2<9000):yb n ((Int.gcd n d:Nat):Int):=by
 have g0:=KM.gcd_pos (n:=n) hd
 refine ⟨by trivial,?_⟩
 have h1:Int.gcd n d≤d.natAbs:=Nat.le_of_dvd (by trivial) (by
  have:((Int.gcd n d:Nat):Int) ∣ d:=Int.gcd_dvd_right ..
  exact Int.ofNat_dvd_left.mp this)
 have h2:d.natAbs<2 ^ 9000:=(Nat.log2_lt (by trivial)).mp h
 rw [Int.natAbs_natCast]
 exact (Nat.log2_lt (by trivial)).mpr (Nat.lt_of_le_of_lt h1 h2)
inductive CF (vs:List V) (H:Hp) (Q:VK):Prop
 | mk (n d:Int) (h0:vs=[.int n,.int d]) (h1:0<d) (h2:Sz 9000 d) (h3:∀p H',Nw H p (fr (KM.low n d)) H'→Q (.ref p) H')
def Db:Sp:=fun vs H Q _=>CF  vs H Q
theorem qA (T:Txt K mg):bv P w K mg base CX0 1 T.l_frac_.f T.l_frac_.d ["_law_n", "_law_d"] Db:=by
 refine T.l_frac_.F.ok mL (fun vs H Q E h=>?_) (fun cdv A outer s H vs Q E hr h=>?_)
 ·obtain ⟨n,d,rfl,_⟩:=h
  rfl
 ·obtain ⟨n,d,rfl,hd,hs,k⟩:=h
  have hl:=hs.log (Int.ne_of_gt hd)
  refine ⟨_,(@ae _ _ _ _ _ (@jr _ _ (2) (3) _ _ _ _ _ _ _ _ _ _ _ rfl mL.nd rfl rfl (by decide) cZ d9 (@aa _ _ _ _ _ (@be _ _ _ _ _ _ _ _ _ (@lL _) pN T.b_abs (@jo) (@aa _ _ _ _ _ (@pw _ 0 _ _ (Or.inl qh) (by rfl) (by decide) (by decide)) (@ac _) rfl) (by decide) (by decide) (by rfl) (by rfl)) (@aa _ _ _ _ _ (@be _ _ _ _ _ _ _ _ _ (@lL _) pN T.b_abs (@jo) (@aa _ _ _ _ _ (@pw _ 1 _ _ (Or.inl mv) (by rfl) (by decide) (by decide)) (@ac _) rfl) (by decide) (by decide) (by rfl) (by rfl)) (@ac _) rfl) rfl) (by kernel_rfl) (by rfl)) (@ae _ _ _ _ _ (@j6 _ _ _ _ _ _ PassesOwn.never (@bj _ _ _ _ _ _ _ _ (@mH _) (@pw _ 3 _ _ (Or.inl d9) (by rfl) (by decide) (by decide)) (@ad _ _ _ _) (@aZ _ _ (by decide) (by decide))) (@am _ _ _ (@jr _ _ (2) (3) _ _ _ _ _ _ _ _ _ _ _ rfl mL.nd rfl rfl (by decide) cZ d9 (@aa _ _ _ _ _ (@pw _ 3 _ _ (Or.inl d9) (by rfl) (by decide) (by decide)) (@aa _ _ _ _ _ (@aB _ _ _ _ _ _ _ _ (@g9 _) (@pw _ 2 _ _ (Or.inl cZ) (by rfl) (by decide) (by decide)) (@pw _ 3 _ _ (Or.inl d9) (by rfl) (by decide) (by decide))) (@ac _) rfl) rfl) (by kernel_rfl) (by rfl)))) (@ae _ _ _ _ _ (@aL _ _ (2) _ _ _ _ mL.nd rfl (Or.inl cZ) (@aB _ _ _ _ _ _ _ _ (@iK _) (@pw _ 2 _ _ (Or.inl cZ) (by rfl) (by decide) (by decide)) (@j8 _ _ _ _ _ _ _ _ (@bj _ _ _ _ _ _ _ _ (@mH _) (@pw _ 1 _ _ (Or.inl mv) (by rfl) (by decide) (by decide)) (@ad _ _ _ _) (@aZ _ _ (by decide) (by decide))) (@ad _ _ _ _) (@vf _ _ _ _ _ _ (@sP _) (@ad _ _ _ _)))) (by rfl) (by first | exact .inl rfl | exact .inr rfl | assumption)) (@am _ _ _ (@aM _ _ _ _ (@ax _ _ _ _ _ (@aa _ _ _ _ _ (@aB _ _ _ _ _ _ _ _ (@wF _) (@pw _ 0 _ _ (Or.inl qh) (by rfl) (by decide) (by decide)) (@pw _ 2 _ _ (Or.inl cZ) (by rfl) (by decide) (by decide))) (@aa _ _ _ _ _ (@aB _ _ _ _ _ _ _ _ (@wF _) (@pw _ 1 _ _ (Or.inl mv) (by rfl) (by decide) (by decide)) (@pw _ 2 _ _ (Or.inl cZ) (by rfl) (by decide) (by decide))) (@ac _) rfl) rfl))))))),?_⟩
  refine ⟨_,rfl,_,rfl,_,rfl,_,rfl,_,_,rfl,?_⟩
  refine ⟨fun m σ H'=>∃a b:Int,σ=[some (.int n),some (.int d),some (.int a),some (.int b)]∧H'=H∧0≤a∧0≤b∧Int.gcd a b=Int.gcd n d∧m=b.natAbs,⟨_,_,_,rfl,rfl,vq n,vq d,KM.gcd_abs n d,rfl⟩,?_⟩
  rintro m σ H' ⟨a,b,rfl,rfl,ha,hb,hg,rfl⟩
  refine ⟨_,rfl,_,_,rfl,rfl,_,rfl,?_⟩
  by_cases hb0:0<b
  ·rw [decide_eq_true hb0]
   refine cW ⟨fun σ' H''=>∃a' b':Int,σ'=[some (.int n),some (.int d),some (.int a'),some (.int b')]∧H''=H'∧0≤a'∧0≤b'∧Int.gcd a' b'=Int.gcd n d∧b'.natAbs<b.natAbs,?_,?_⟩
   ·rintro σ' H'' ⟨a',b',rfl,rfl,h0,h1,h2,h3⟩
    exact ⟨_,h3,a',b',rfl,rfl,h0,h1,h2,rfl⟩
   ·refine ⟨_,rfl,_,rfl,_,rfl,_,_,rfl,rfl,hb0,_,_,rfl,?_⟩
    have q0:=Int.emod_nonneg a (Int.ne_of_gt hb0)
    have q1:=Int.emod_lt_of_pos a hb0
    exact ⟨b,a % b,rfl,rfl,hb,q0,(KM.gcd_emod a b).trans hg,by trivial⟩
  ·have hb1:b=0:=by trivial
   subst hb1
   rw [decide_eq_false hb0]
   refine cm ?_
   have eg:a=((Int.gcd n d:Nat):Int):=by
    rw [←hg,KM.gcd_zero_abs,if_neg (by trivial)]
   have c1:=xA (n:=n) (Int.ne_of_gt hd) hl
   have c2:=xA (n:=d) (d:=d) (Int.ne_of_gt hd) hl
   rw [←eg] at c1
   refine ⟨_,rfl,_,rfl,_,_,rfl,rfl,_,rfl,?_⟩
   rw [decide_eq_true hd]
   refine cW ⟨_,_,rfl,rfl,.inr ⟨by decide,by decide⟩,?_⟩
   show qD 2 (V.int (a*1)) _ _ _
   rw [Int.mul_one]
   refine ⟨_,rfl,_,rfl,_,_,rfl,rfl,c1,_,rfl,_,rfl,_,_,rfl,rfl,⟨c1.1,c1.2⟩,(by show 2≤10000;decide),fun p H2 n2=>k p H2 ?_⟩
   unfold KM.low
   rw [if_pos hd,←eg]
   exact n2
end
end K14
namespace K14
open PySem L2
theorem AO (d n:Nat):((List.range n).map (nm d)).Nodup:=by
 rw [List.nodup_iff_pairwise_ne,List.pairwise_map]
 exact List.Pairwise.imp (fun {a b} hab z=>hab (Ec z).2) (List.nodup_iff_pairwise_ne.mp List.nodup_range)
section
variable {P:Program}{w:World}{K:PySem.W.Frag}{mg:Str→Option Value}{base:Heap}
inductive yB (vs:List V) (H:Hp) (Q:VK):Prop
 | mk (b:Addr) (n:Nat) (t:Int) (h0:vs=[.ref b,.int n]) (h1:Bx H b t) (h2:0≤t) (h3:t≤900000) (h4:n≤8) (h5:∀q ls t' H',bh (Eb b) H H'→H' q=some (.tup ((ls:List (List Nat)).map aD))→ls.length=n→ls.Nodup→(∀l∈ls,oM l)→Bx H' b t'→t≤t'→t'≤t+12→Q (.ref q) H')
def zR:Sp:=fun vs H Q _=>yB  vs H Q
theorem nu (T:Txt K mg):bv P w K mg base CX0 2 T.l_names_by_.f T.l_names_by_.d ["_law_box_here", "_law_many"] zR:=by
 have G_l_take:=nM (P:=P) (w:=w) (base:=base) T
 refine T.l_names_by_.F.ok dD (fun vs H Q E h=>?_) (fun cdv A outer s H vs Q E hr h=>?_)
 ·obtain ⟨b,n,t,rfl,_⟩:=h
  rfl
 ·obtain ⟨b,n,t,rfl,B,ht0,ht1,hn8,k⟩:=h
  refine ⟨_,(@ae _ _ _ _ _ (@eh _ _ _ _ _ _ (@ax _ _ _ _ _ (@aa _ _ _ _ _ (@mf _ _ _ _) (@aa _ _ _ _ _ (@ap _ _ _ _ _ _ _ _ _ _ _ _ _ _ _ _ G_l_take (hr.mono (by decide)) gK T.l_take_.m T.l_take_.F.kp T.l_take_.B .nil (@aK _) (@aa _ _ _ _ _ (@pw _ 0 _ _ (Or.inr (Or.inl eM)) (by rfl) (by decide) (by decide)) (@aa _ _ _ _ _ (@ad _ _ _ _) (@ac _) rfl) rfl) (by decide) (by rfl) (by rfl)) (@aa _ _ _ _ _ (@ap _ _ _ _ _ _ _ _ _ _ _ _ _ _ _ _ G_l_take (hr.mono (by decide)) gK T.l_take_.m T.l_take_.F.kp T.l_take_.B .nil (@aK _) (@aa _ _ _ _ _ (@pw _ 0 _ _ (Or.inr (Or.inl eM)) (by rfl) (by decide) (by decide)) (@aa _ _ _ _ _ (@ad _ _ _ _) (@ac _) rfl) rfl) (by decide) (by rfl) (by rfl)) (@ac _) rfl) rfl) rfl)) (@cY _ (K) _ _ _ _ (3) rfl (@aP _ _ _ _ _ (@aw _ _ (2) _ dD.nd rfl (Or.inr mZ) (by first | exact .inl rfl | exact .inr rfl | assumption)) (@aP _ _ _ _ _ (@aw _ _ (3) _ dD.nd rfl (Or.inr jh) (by first | exact .inl rfl | exact .inr rfl | assumption)) (@aP _ _ _ _ _ (@aw _ _ (4) _ dD.nd rfl (Or.inl jF) (by first | exact .inl rfl | exact .inr rfl | assumption)) (@dv _) (by rfl)) (by rfl)) (by rfl)) (by rfl) (by rfl) (by rfl)) (by rfl) (by rfl) (by rfl)) (@ae _ _ _ _ _ (@aL _ _ (5) _ _ _ _ dD.nd rfl (Or.inr ou) (@fS _ (K) _ _ _ _ _ _ _ _ _ _ _ PySem.F.plainAttrs_str PySem.F.slot_str_join PySem.F.type_str_join (@BW _ (K) (by rfl)) (@mf _ _ _ _) (@aa _ _ _ _ _ (@ft _ _ _ _ _ _ _ (["_law_k", "_law_box_here", "_law_letters"]) (1) ([0,2]) _ _ _ _ rfl (by kernel_rfl) (@cz _ _ _ _ _ _ gU T.b_range (@aa _ _ _ _ _ (@pw _ 4 _ _ (Or.inl jF) (by rfl) (by decide) (by decide)) (@ac _) rfl) (by rfl)) (fun _ _ _ _ _ _=>(@aw _ _ (0) _ (@cG _ (by kernel_rfl)) rfl (Or.inl (by kernel_rfl)) (by first | exact .inl rfl | exact .inr rfl | assumption))) (fun _ _ _ _ _ _=>@ca _) (fun _ _ _ _ _ _=>(@aq _ _ _ _ _ _ _ (@vU _) (@pw _ 2 _ _ (Or.inr (Or.inl (by kernel_rfl))) (by rfl) (by decide) (by decide)) (@ap _ _ _ _ _ _ _ _ _ _ _ _ _ _ _ _ G_l_take (hr.mono (by decide)) (by show _=_;kernel_rfl) T.l_take_.m T.l_take_.F.kp T.l_take_.B .nil (@aK _) (@aa _ _ _ _ _ (@pw _ 1 _ _ (Or.inr (Or.inl (by kernel_rfl))) (by rfl) (by decide) (by decide)) (@aa _ _ _ _ _ (@ad _ _ _ _) (@ac _) rfl) rfl) (by decide) (by rfl) (by rfl)) (fun _ _=>rfl))) (by intro _;rfl)) (@ac _) rfl) (by rfl) (by rfl) (by rfl) (by rfl) (by rfl) (by rfl)) (by rfl) (by first | exact .inl rfl | exact .inr rfl | assumption)) (@ae _ _ _ _ _ (@cK _ _ _ _ _ _ _ _ (@bj _ _ _ _ _ _ _ _ (@sZ _) (@ap _ _ _ _ _ _ _ _ _ _ _ _ _ _ _ _ G_l_take (hr.mono (by decide)) gK T.l_take_.m T.l_take_.F.kp T.l_take_.B .nil (@aK _) (@aa _ _ _ _ _ (@pw _ 0 _ _ (Or.inr (Or.inl eM)) (by rfl) (by decide) (by decide)) (@aa _ _ _ _ _ (@ad _ _ _ _) (@ac _) rfl) rfl) (by decide) (by rfl) (by rfl)) (@ad _ _ _ _) (@aZ _ _ (by decide) (by decide))) (@ae _ _ _ _ _ (@eh _ _ _ _ _ _ (@aq _ _ _ _ _ _ _ (@fb _ (K) (by rfl)) (@dY _ _ _ _ (@aa _ _ _ _ _ (@ax _ _ _ _ _ (@aa _ _ _ _ _ (@mf _ _ _ _) (@aa _ _ _ _ _ (@mf _ _ _ _) (@ac _) rfl) rfl)) (@aa _ _ _ _ _ (@ax _ _ _ _ _ (@aa _ _ _ _ _ (@mf _ _ _ _) (@aa _ _ _ _ _ (@mf _ _ _ _) (@ac _) rfl) rfl)) (@ac _) rfl) rfl)) (@dQ _ _ _ _ _ _ _ _ _ (@ui _) rZ T.b_int (@mU) (@aa _ _ _ _ _ (@cO _ _ _ _ _ _ _ _ (@sZ _) (@pw _ 3 _ _ (Or.inr (Or.inl jh)) (by rfl) (by decide) (by decide)) (@ad _ _ _ _) (@aZ _ _ (by decide) (by decide))) (@ac _) rfl) (by decide) (by decide) (by rfl) (by rfl)) (fun _ _=>rfl)) (@cY _ (K) _ _ _ _ (2) rfl (@aP _ _ _ _ _ (@aw _ _ (6) _ dD.nd rfl (Or.inr pH) (by first | exact .inl rfl | exact .inr rfl | assumption)) (@aP _ _ _ _ _ (@aw _ _ (7) _ dD.nd rfl (Or.inr oB) (by first | exact .inl rfl | exact .inr rfl | assumption)) (@dv _) (by rfl)) (by rfl)) (by rfl) (by rfl) (by rfl)) (by rfl) (by rfl) (by rfl)) (@am _ _ _ (@aM _ _ _ _ (@dQ _ _ _ _ _ _ _ _ _ (@dW _ (K) (by rfl)) kK T.b_tuple (@dE) (@aa _ _ _ _ _ (@ft _ _ _ _ _ _ _ (["_law_k", "_law_other", "_law_sign"]) (1) ([7,6]) _ _ _ _ rfl (by kernel_rfl) (@cz _ _ _ _ _ _ gU T.b_range (@aa _ _ _ _ _ (@pw _ 1 _ _ (Or.inl jN) (by rfl) (by decide) (by decide)) (@ac _) rfl) (by rfl)) (fun _ _ _ _ _ _=>(@aw _ _ (0) _ (@cG _ (by kernel_rfl)) rfl (Or.inl (by kernel_rfl)) (by first | exact .inl rfl | exact .inr rfl | assumption))) (fun _ _ _ _ _ _=>@ca _) (fun _ _ _ _ _ _=>(@j8 _ _ _ _ _ _ _ _ (@bj _ _ _ _ _ _ _ _ (@vm _) (@pw _ 0 _ _ (Or.inl (by kernel_rfl)) (by rfl) (by decide) (by decide)) (@ad _ _ _ _) (@aZ _ _ (by decide) (by decide))) (@aB _ _ _ _ _ _ _ _ (@xy _) (@pw _ 2 _ _ (Or.inr (Or.inl (by kernel_rfl))) (by rfl) (by decide) (by decide)) (@aB _ _ _ _ _ _ _ _ (@cx _) (@pw _ 0 _ _ (Or.inl (by kernel_rfl)) (by rfl) (by decide) (by decide)) (@ad _ _ _ _))) (@aB _ _ _ _ _ _ _ _ (@xa _) (@aB _ _ _ _ _ _ _ _ (@xy _) (@pw _ 1 _ _ (Or.inr (Or.inl (by kernel_rfl))) (by rfl) (by decide) (by decide)) (@aB _ _ _ _ _ _ _ _ (@md _) (@pw _ 0 _ _ (Or.inl (by kernel_rfl)) (by rfl) (by decide) (by decide)) (@ad _ _ _ _))) (@pw _ 2 _ _ (Or.inr (Or.inl (by kernel_rfl))) (by rfl) (by decide) (by decide))))) (by intro _;rfl)) (@ac _) rfl) (by decide) (by decide) (by rfl) (by rfl))))) (@bM _)) (@am _ _ _ (@aM _ _ _ _ (@dQ _ _ _ _ _ _ _ _ _ (@dW _ (K) (by rfl)) kK T.b_tuple (@dE) (@aa _ _ _ _ _ (@ft _ _ _ _ _ _ _ (["_law_k", "_law_behind", "_law_first", "_law_letters"]) (1) ([5,3,2]) _ _ _ _ rfl (by kernel_rfl) (@cz _ _ _ _ _ _ gU T.b_range (@aa _ _ _ _ _ (@pw _ 1 _ _ (Or.inl jN) (by rfl) (by decide) (by decide)) (@ac _) rfl) (by rfl)) (fun _ _ _ _ _ _=>(@aw _ _ (0) _ (@cG _ (by kernel_rfl)) rfl (Or.inl (by kernel_rfl)) (by first | exact .inl rfl | exact .inr rfl | assumption))) (fun _ _ _ _ _ _=>@ca _) (fun _ _ _ _ _ _=>(@aB _ _ _ _ _ _ _ _ (@xa _) (@aq _ _ _ _ _ _ _ (@vU _) (@pw _ 3 _ _ (Or.inr (Or.inl (by kernel_rfl))) (by rfl) (by decide) (by decide)) (@aB _ _ _ _ _ _ _ _ (@g9 _) (@aB _ _ _ _ _ _ _ _ (@cx _) (@pw _ 2 _ _ (Or.inr (Or.inl (by kernel_rfl))) (by rfl) (by decide) (by decide)) (@aB _ _ _ _ _ _ _ _ (@iK _) (@ad _ _ _ _) (@pw _ 0 _ _ (Or.inl (by kernel_rfl)) (by rfl) (by decide) (by decide)))) (@ad _ _ _ _)) (fun _ _=>rfl)) (@pw _ 1 _ _ (Or.inr (Or.inl (by kernel_rfl))) (by rfl) (by decide) (by decide)))) (by intro _;rfl)) (@ac _) rfl) (by decide) (by decide) (by rfl) (by rfl))))))),?_⟩
  have hz:(Str.ofString "abcdefghijklmnopqrstuvwxyz").length≤sizeLine:=by decide +kernel
  refine ⟨_,rfl,b,26,t,rfl,B,by decide,by decide,ht0,by trivial,fun f t1 H1 f0 f1 h1a h1b s1 B1=>⟨_,rfl,b,8,t1,rfl,B1,by decide,by decide,by trivial,by trivial,fun r t2 H2 r0 r1 h2a h2b s2 B2=>⟨(by show 3≤10000;decide),fun q H3 n3=>⟨q,_,rfl,au.of n3.at',rfl,_,_,rfl,_,_,rfl,_,_,rfl,rfl,?_⟩⟩⟩⟩
  have B3:=B2.same n3.sm
  have s03:=(s1.trans s2).trans n3.sm.toE
  refine ⟨rfl,_,rfl,_,rfl,by trivial,by trivial,fun D2 hD2=>kJ (n:=r.toNat) (fun i H' ys=>bz fun (cs:List Nat) (t':Int)=>ys=cs.map (fun c=>aD [c])∧H' D2=some (.lst ys)∧cs.length=i∧(∀c∈cs,97≤c∧c≤122)∧Bx H' b t'∧t2≤t'∧t'≤t2+i∧bh (Eb b) H3 H') ?_ ?_ ?_ ?_ ?_ ?_ ?_⟩
  ·rw [sizeLine_eq];trivial
  ·exact ⟨[],t2,rfl,aC,rfl,fun c h=>(by cases h),B3.same (aj.new hD2),by trivial,by trivial,(aj.new hD2).toE⟩
  ·rintro i' H'' ys ⟨cs,t7,rfl,e,rfl,_⟩
   exact ⟨e,by simp⟩
  ·intro i' H'' ys hi' _
   exact hi'
  ·intro H'' ys _
   exact Nat.le_refl _
  ·have nD2:¬D2=b:=fun z=>B3.ne hD2 z.symm
   rintro i' Ha ys x Hb hi' ⟨cs,t7,rfl,g1,g2,g3,g4,g5,g6,g7⟩ ⟨rfl,rfl⟩
   refine ⟨fF,_,rfl,_,rfl,b,26,t7,rfl,g4,by decide,by decide,by trivial,by trivial,fun r8 t8 Hc r80 r81 _ _ jc Cc=>⟨_,_,_,rfl,rfl,hz,uK (by trivial) (by trivial),?_⟩⟩
   have eD:=jc.old D2 _ nD2 g1
   refine ⟨eD,cs++[97+(r8 % 26).toNat],t8,by rw [List.map_append];rfl,aC,by rw [List.length_append,g2];rfl,fun c hc=>?_,?_,by trivial,by trivial,(g7.trans jc).up hD2⟩
   ·rcases List.mem_append.mp hc with h | h
    ·exact g3 c h
    ·rw [List.mem_singleton.mp h];trivial
   ·have c':Ch Hc D2 (cs.map (fun c=>aD [c])++[aD [97+(r8 % 26).toNat]]) _:=Ch.mk'
    exact Cc.ch c' (Ne.symm nD2)
  rintro J4 ys ⟨cs,t7,rfl,g1,g2,g3,C4,g5,g6,j4⟩
  refine ⟨D2,cs.map (fun c=>[c]),?_,rfl,aG.of (by rw [g1,List.map_map];rfl),?_,?_⟩
  ·rw [show (Str.ofString "")=S [] from AG]
  ·rw [List.map_map]
   have:(cs.map ((fun l:List Nat=>l.length) ∘ fun c=>[c])).sum=cs.length:=by
    clear g1 g2 g3 j4
    induction cs with
    | nil=>rfl
    | cons c r ih=>simp at ih ⊢;trivial
   rw [this];trivial
  have fl:(cs.map (fun c=>[c])).flatten=cs:=by
   clear g1 g2 g3 j4
   induction cs with
   | nil=>rfl
   | cons c r ih=>rw [List.map_cons,List.flatten_cons,ih];rfl
  rw [fl]
  have s04:=s03.trans j4
  refine ⟨_,rfl,b,4,t7,rfl,C4,by decide,by decide,by trivial,by trivial,fun r9 t9 H9 r90 r91 _ _ s9 B9=>⟨rfl,_,rfl,?_⟩⟩
  have s09:=s04.trans s9
  refine vL (fun c1=>?_) (fun c1=>?_)
  ·-- rows of one letter
   refine ⟨(by show 2≤10000;decide),fun u1 J1 e1=>⟨(by show 2≤10000;decide),fun u2 J2 e2=>⟨(by show 2≤10000;decide),fun u3 J3 e3=>⟨_,rfl,rfl,.inr ⟨_,rfl,?_⟩⟩⟩⟩⟩
   have ea:Str.ofString "a" = S [97]:=by decide +kernel
   have ez:Str.ofString "z" = S [122]:=by decide +kernel
   generalize decide (V.int f=V.int 25)=cc
   obtain ⟨u,d1,d2,eu,hu,hd⟩:jq fun u d1 d2=>ma [V.ref u1,V.ref u2] (if cc=true then 1 else 0)=some (.ref u)∧J3 u=some (.tup [aD [d1],aD [d2]])∧97≤d1∧d1≤122:=by
    cases cc with
    | true=>exact ⟨u2,122,97,rfl,by rw [e3.sm _ _ e2.at',ea,ez],by decide,by decide⟩
    | false=>exact ⟨u1,97,122,rfl,by rw [e3.sm _ _ (e2.sm _ _ e1.at'),ea,ez],by decide,by decide⟩
   refine ⟨u3,_,_,_,rfl,rfl,aG.of e3.at',eu,u,_,rfl,au.of hu,rfl,_,_,rfl,_,_,rfl,rfl,?_⟩
   have sJ:=((e1.sm.trans e2.sm).trans e3.sm)
   have BJ:=B9.same sJ
   refine ⟨_,rfl,_,rfl,by trivial,by trivial,fun D hD=>jd (n:=n) (fun k=>aD (nm d1 k)) (by trivial) hD (fun i H' hi _=>hi) (fun H' _=>Nat.le_refl _) ?_ ?_⟩
   ·rintro i x H' H'' R hi g3 ⟨rfl,rfl⟩ kk
    refine ⟨fF,_,rfl,_,_,rfl,rfl,_,rfl,?_⟩
    rw [decide_eq_true (show (0:Int)+(i:Int)<8 by trivial)]
    refine cW ⟨_,rfl,_,rfl,_,_,rfl,rfl,[d1],_,rfl,rfl,by trivial,by trivial,(by show 1≤100;decide),?_⟩
    have en:(List.replicate (0+(i:Int)+1).toNat [d1]).flatten=nm d1 i:=by
     rw [GM,Int.zero_add,show ((i:Int)+1).toNat=1+i by trivial];rfl
    rw [en]
    exact kk _ (aj.refl _)
   intro H4 s4 eD1
   refine ⟨D,_,rfl,aG.of eD1,fun q5 H5 n5=>k q5 ((List.range n).map (nm d1)) t9 H5 (((s09.trans sJ.toE).trans s4.toE).trans n5.sm.toE) ?_ (by simp) (AO d1 n) ?_ ((BJ.same s4).same n5.sm) (by trivial) (by trivial)⟩
   ·rw [n5.at',List.map_map];rfl
   ·intro l hl
    obtain ⟨j,hj,rfl⟩:=List.mem_map.mp hl
    exact FP (Nat.lt_of_lt_of_le (List.mem_range.mp hj) hn8) hd.1 hd.2
  ·-- letters of eleven steps
   refine ⟨_,rfl,_,rfl,by trivial,by trivial,fun D hD=>jd (n:=n) (fun k:Nat=>aD ((97+((f+11*(k:Int)) % 26).toNat) :: cs)) (by trivial) hD (fun i H' hi _=>hi) (fun H' _=>Nat.le_refl _) ?_ ?_⟩
   ·rintro i x H' H'' R hi g3' ⟨rfl,rfl⟩ kk
    have m0:=Int.emod_nonneg (f+11*(0+(i:Int))) (show (26:Int)≠0 by decide)
    have m1:=Int.emod_lt_of_pos (f+11*(0+(i:Int))) (show (0:Int)<26 by decide)
    refine ⟨fF,_,rfl,_,rfl,_,rfl,_,_,rfl,rfl,.inl ⟨by decide,by decide⟩,_,_,rfl,rfl,_,_,rfl,rfl,(by show (0:Int)<26;decide),_,_,_,rfl,rfl,hz,uK (Int.le_trans (by decide) m0) m1,_,rfl,[97+(((f+11*(0+(i:Int))) % 26) % 26).toNat],cs,rfl,rfl,?_,?_⟩
    ·show 1+cs.length≤10000
     trivial
    rw [Int.emod_emod_of_dvd _ (Int.dvd_refl _),Int.zero_add]
    exact kk _ (aj.refl _)
   intro H4 s4 eD1
   refine ⟨D,_,rfl,aG.of eD1,fun q5 H5 n5=>k q5 ((List.range n).map (fun (k:Nat)=>(97+((f+11*(k:Int)) % 26).toNat) :: cs)) t9 H5 ((s09.trans s4.toE).trans n5.sm.toE) ?_ (by simp) (wT (f:=f) (by rw [List.length_map,List.length_range];trivial) ?_) ?_ ((B9.same s4).same n5.sm) (by trivial) (by trivial)⟩
   ·rw [n5.at',List.map_map];rfl
   ·intro j l hl
    rw [List.getElem?_map] at hl
    obtain ⟨j',hj',rfl⟩:=Option.map_eq_some_iff.mp hl
    obtain ⟨hlt,ej⟩:=List.getElem?_eq_some_iff.mp hj'
    rw [List.getElem_range] at ej
    subst ej
    rfl
   ·intro l hl
    obtain ⟨j,hj,rfl⟩:=List.mem_map.mp hl
    refine ⟨by simp,by simp;trivial,fun c hc=>?_⟩
    rcases List.mem_cons.mp hc with h | h
    ·rw [h];trivial
    ·exact g3 c h
end
end K14
namespace K14
open PySem L2
section
variable {P:Program}{w:World}{K:PySem.W.Frag}{mg:Str→Option Value}{base:Heap}
inductive Fw (g:KM.Fra→KM.Fra→KM.Fra) (z:Bool) (vs:List V) (H:Hp) (Q:VK):Prop
 | mk (a b:Addr) (p q:KM.Fra) (c1 d1 c2 d2:Nat) (h0:vs=[.ref a,.ref b]) (h1:H a=some (fr p)) (h2:H b=some (fr q)) (h3:Gb c1 d1 p) (h4:Gb c2 d2 q) (h5:c1≤4000) (h6:d1≤4000) (h7:c2≤4000) (h8:d2≤4000) (h9:(z=true→1≤q.1)) (h10:∀o H',Nw H o (fr (g p q)) H'→Q (.ref o) H')
def Dw (g:KM.Fra→KM.Fra→KM.Fra) (z:Bool):Sp:=fun vs H Q _=>Fw g z vs H Q
theorem jt (T:Txt K mg):bv P w K mg base CX0 2 T.l_product_.f T.l_product_.d ["_law_one", "_law_other"] (Dw KM.lTim false):=by
 have G_l_frac:=qA (P:=P) (w:=w) (base:=base) T
 refine T.l_product_.F.ok wx (fun vs H Q E h=>?_) (fun cdv A outer s H vs Q E hr h=>?_)
 ·obtain ⟨a,b,p,q,c1,d1,c2,d2,rfl,_⟩:=h
  rfl
 ·obtain ⟨a,b,p,q,c1,d1,c2,d2,rfl,ha,hb,fp,fq,h1,h2,h3,h4,_,k⟩:=h
  obtain ⟨z1,z2,z3,z4⟩:Sz 4000 p.1∧Sz 4000 p.2∧Sz 4000 q.1∧Sz 4000 q.2:=⟨fp.n.mono h1,fp.d.mono h2,fq.n.mono h3,fq.d.mono h4⟩
  refine ⟨_,(@am _ _ _ (@aM _ _ _ _ (@ap _ _ _ _ _ _ _ _ _ _ _ _ _ _ _ _ G_l_frac (hr.mono (by decide)) pP T.l_frac_.m T.l_frac_.F.kp T.l_frac_.B .nil (@aK _) (@aa _ _ _ _ _ (@aB _ _ _ _ _ _ _ _ (@gu _) (@aq _ _ _ _ _ _ _ (@aN _ (K) (by rfl)) (@pw _ 0 _ _ (Or.inl kT) (by rfl) (by decide) (by decide)) (@ad _ _ _ _) (fun _ _=>rfl)) (@aq _ _ _ _ _ _ _ (@aN _ (K) (by rfl)) (@pw _ 1 _ _ (Or.inl jL) (by rfl) (by decide) (by decide)) (@ad _ _ _ _) (fun _ _=>rfl))) (@aa _ _ _ _ _ (@aB _ _ _ _ _ _ _ _ (@gu _) (@aq _ _ _ _ _ _ _ (@aN _ (K) (by rfl)) (@pw _ 0 _ _ (Or.inl kT) (by rfl) (by decide) (by decide)) (@ad _ _ _ _) (fun _ _=>rfl)) (@aq _ _ _ _ _ _ _ (@aN _ (K) (by rfl)) (@pw _ 1 _ _ (Or.inl jL) (by rfl) (by decide) (by decide)) (@ad _ _ _ _) (fun _ _=>rfl))) (@ac _) rfl) rfl) (by decide) (by rfl) (by rfl)))),?_⟩
  exact ⟨_,rfl,a,_,_,_,rfl,rfl,au.of ha,rfl,_,rfl,b,_,_,_,rfl,rfl,au.of hb,rfl,_,_,rfl,rfl,mS z1 z3,
   _,rfl,a,_,_,_,rfl,rfl,au.of ha,rfl,_,rfl,b,_,_,_,rfl,rfl,au.of hb,rfl,_,_,rfl,rfl,mS z2 z4,_,_,rfl,Int.mul_pos (by have:=fp.pos;trivial) (by have:=fq.pos;trivial),yh z2 z4,fun o H' n=>k o H' n⟩
theorem zj (T:Txt K mg):bv P w K mg base CX0 2 T.l_over_.f T.l_over_.d ["_law_one", "_law_other"] (Dw mj true):=by
 have G_l_frac:=qA (P:=P) (w:=w) (base:=base) T
 refine T.l_over_.F.ok y8 (fun vs H Q E h=>?_) (fun cdv A outer s H vs Q E hr h=>?_)
 ·obtain ⟨a,b,p,q,c1,d1,c2,d2,rfl,_⟩:=h
  rfl
 ·obtain ⟨a,b,p,q,c1,d1,c2,d2,rfl,ha,hb,fp,fq,h1,h2,h3,h4,hz,k⟩:=h
  have hq:=hz rfl
  obtain ⟨z1,z2,z3,z4⟩:Sz 4000 p.1∧Sz 4000 p.2∧Sz 4000 q.1∧Sz 4000 q.2:=⟨fp.n.mono h1,fp.d.mono h2,fq.n.mono h3,fq.d.mono h4⟩
  refine ⟨_,(@am _ _ _ (@aM _ _ _ _ (@ap _ _ _ _ _ _ _ _ _ _ _ _ _ _ _ _ G_l_frac (hr.mono (by decide)) sF T.l_frac_.m T.l_frac_.F.kp T.l_frac_.B .nil (@aK _) (@aa _ _ _ _ _ (@aB _ _ _ _ _ _ _ _ (@gu _) (@aq _ _ _ _ _ _ _ (@aN _ (K) (by rfl)) (@pw _ 0 _ _ (Or.inl oA) (by rfl) (by decide) (by decide)) (@ad _ _ _ _) (fun _ _=>rfl)) (@aq _ _ _ _ _ _ _ (@aN _ (K) (by rfl)) (@pw _ 1 _ _ (Or.inl lS) (by rfl) (by decide) (by decide)) (@ad _ _ _ _) (fun _ _=>rfl))) (@aa _ _ _ _ _ (@aB _ _ _ _ _ _ _ _ (@gu _) (@aq _ _ _ _ _ _ _ (@aN _ (K) (by rfl)) (@pw _ 0 _ _ (Or.inl oA) (by rfl) (by decide) (by decide)) (@ad _ _ _ _) (fun _ _=>rfl)) (@aq _ _ _ _ _ _ _ (@aN _ (K) (by rfl)) (@pw _ 1 _ _ (Or.inl lS) (by rfl) (by decide) (by decide)) (@ad _ _ _ _) (fun _ _=>rfl))) (@ac _) rfl) rfl) (by decide) (by rfl) (by rfl)))),?_⟩
  exact ⟨_,rfl,a,_,_,_,rfl,rfl,au.of ha,rfl,_,rfl,b,_,_,_,rfl,rfl,au.of hb,rfl,_,_,rfl,rfl,mS z1 z4,
   _,rfl,a,_,_,_,rfl,rfl,au.of ha,rfl,_,rfl,b,_,_,_,rfl,rfl,au.of hb,rfl,_,_,rfl,rfl,mS z2 z3,_,_,rfl,Int.mul_pos (by have:=fp.pos;trivial) (by trivial),yh z2 z3,fun o H' n=>k o H' n⟩
inductive zU (vs:List V) (H:Hp) (Q:VK):Prop
 | mk (a b:Addr) (p q:KM.Fra) (h0:vs=[.ref a,.ref b]) (h1:H a=some (fr p)) (h2:H b=some (fr q)) (h3:Sz 4000 p.1) (h4:Sz 4000 p.2) (h5:Sz 4000 q.1) (h6:Sz 4000 q.2) (h7:Q (.int (p.1*q.2 - q.1*p.2)) H)
def BZ:Sp:=fun vs H Q _=>zU  vs H Q
theorem xU (T:Txt K mg):bv P w K mg base CX0 1 T.l_above_.f T.l_above_.d ["_law_one", "_law_other"] BZ:=by
 refine T.l_above_.F.ok yg (fun vs H Q E h=>?_) (fun cdv A outer s H vs Q E hr h=>?_)
 ·obtain ⟨a,b,p,q,rfl,_⟩:=h
  rfl
 ·obtain ⟨a,b,p,q,rfl,ha,hb,z1,z2,z3,z4,k⟩:=h
  refine ⟨_,(@am _ _ _ (@aM _ _ _ _ (@aB _ _ _ _ _ _ _ _ (@md _) (@aB _ _ _ _ _ _ _ _ (@gu _) (@aq _ _ _ _ _ _ _ (@aN _ (K) (by rfl)) (@pw _ 0 _ _ (Or.inl mJ) (by rfl) (by decide) (by decide)) (@ad _ _ _ _) (fun _ _=>rfl)) (@aq _ _ _ _ _ _ _ (@aN _ (K) (by rfl)) (@pw _ 1 _ _ (Or.inl kU) (by rfl) (by decide) (by decide)) (@ad _ _ _ _) (fun _ _=>rfl))) (@aB _ _ _ _ _ _ _ _ (@gu _) (@aq _ _ _ _ _ _ _ (@aN _ (K) (by rfl)) (@pw _ 1 _ _ (Or.inl kU) (by rfl) (by decide) (by decide)) (@ad _ _ _ _) (fun _ _=>rfl)) (@aq _ _ _ _ _ _ _ (@aN _ (K) (by rfl)) (@pw _ 0 _ _ (Or.inl mJ) (by rfl) (by decide) (by decide)) (@ad _ _ _ _) (fun _ _=>rfl)))))),?_⟩
  exact ⟨_,rfl,a,_,_,_,rfl,rfl,au.of ha,rfl,_,rfl,b,_,_,_,rfl,rfl,au.of hb,rfl,_,_,rfl,rfl,mS z1 z4,_,rfl,b,_,_,_,rfl,rfl,au.of hb,rfl,_,rfl,a,_,_,_,rfl,rfl,au.of ha,rfl,_,_,rfl,rfl,mS z3 z2,_,_,rfl,rfl,k⟩
end
end K14
namespace K14
open PySem L2
set_option maxHeartbeats 4000000
theorem uk {K:PySem.W.Frag}{a:Addr}{c:Bool}{xs:List V}{g:TG}{tb:TS}{D:cF}{σ:St}{H:Hp} (Pv:Nat→St→Hp→Prop) (h0:Pv 0 σ H) (hl:∀i σ H,i≤xs.length→Pv i σ H→i9 K H a xs c)
 (hs:∀i x T σ H,xs[i]?=some x→H T=none→Pv i σ H→g (.ref T) σ (aI H T (.tup [.int (i:Int),x])) fun σ2 H2=>tb { D with nx:=Pv (i+1),ct:=Pv (i+1),bk:=D.nx } σ2 H2) (hd:∀σ H,Pv xs.length σ H→D.nx σ H) :
 ∃W:Nat→Nat→St→Hp→Prop,(∃m,W 0 m σ H)∧∀i m σ H,W i m σ H→
  ((wG K a c).stop i H∧D.nx σ H)∨((wG K a c).go i H∧∃N:St→Hp→Prop,(∀σ' H',N σ' H'→∃m',m'<m∧W (i+1) m' σ' H')∧∀x H',(wG K a c).yld i H x H'→g x σ H' fun σ2 H2=>tb { D with nx:=N,ct:=N,bk:=D.nx } σ2 H2):=by
 refine ⟨fun i m σ H=>m=xs.length - i∧i≤xs.length∧Pv i σ H,⟨xs.length,by simp,Nat.zero_le _,h0⟩,?_⟩
 rintro i m σ H ⟨rfl,hi,p⟩
 have q1:=hl i σ H hi p
 by_cases hlt:i<xs.length
 ·refine .inr ⟨⟨xs,xs[i],q1,by simp [hlt]⟩,Pv (i+1),fun σ' H' p'=>⟨xs.length - (i+1),by trivial,rfl,hlt,p'⟩,fun x H' y=>?_⟩
  obtain ⟨T,u,hT,rfl,rfl,e1⟩:=y
  exact hs i u T σ H (e1 xs q1) hT p
 ·have e:i=xs.length:=by trivial
  subst e
  exact .inl ⟨⟨xs,q1,rfl⟩,hd _ _ p⟩
theorem gW {E:Addr→Prop}{H:Hp}{v:V}{ls:List (List Nat)}{ts:List ah} (h:bE E H v (eT ls ts)):ml fun a p q ys=>v=.ref a∧H a=some (.tup [.ref p,.ref q])∧H p=some (.tup (ls.map aD))∧H q=some (.tup ys)∧aJ E H ys (ts.map dG):=by
 have sall:∀{ls:List (List Nat)}{xs:List V},aJ E H xs (ls.map fun l=>PyData.str (S l))→xs=ls.map aD:=by
  intro ls
  induction ls with
  | nil=>intro xs h;cases h;rfl
  | cons l r ih=>
   intro xs h
   cases h with
   | cons h1 h2=>cases h1;rw [ih h2];rfl
 cases h with
 | @tup a xs _ h r=>
  cases r with
  | cons h1 r=>
  cases r with
  | cons h2 r=>
  cases r
  cases h1 with
  | @tup p ps _ hp rp=>
  cases h2 with
  | @tup q ys _ hq rq=>
   have e:=sall rp
   subst e
   exact ⟨a,p,q,ys,rfl,h,hp,hq,rq⟩
theorem gf {E:Addr→Prop}{H:Hp}{v:V}{t:ah} (h:bE E H v (dG t)):ml fun a om og op=>v=.ref a∧H a=some (.tup [.str (S t.bg),.str (S t.en),.ref om,.ref og,.ref op])∧H om=some (fr t.most)∧H og=some (fr t.gain)∧H op=some (fr t.price):=by
 cases h with
 | @tup a xs _ h r=>
  cases r with
  | @cons u1 _ _ _ h1 r=>
  cases r with
  | @cons u2 _ _ _ h2 r=>
  cases r with
  | @cons u3 _ _ _ h3 r=>
  cases r with
  | @cons u4 _ _ _ h4 r=>
  cases r with
  | @cons u5 _ _ _ h5 r=>
  cases r
  cases h1
  cases h2
  obtain ⟨om,rfl,ho⟩:=jP h3
  obtain ⟨og,rfl,hg⟩:=jP h4
  obtain ⟨op,rfl,hp⟩:=jP h5
  exact ⟨a,om,og,op,rfl,h,ho,hg,hp⟩
theorem sf:Gb 1 1 (1,1):=⟨show (1:Int).natAbs<2 ^ 1 by decide,show (1:Int).natAbs<2 ^ 1 by decide,by decide⟩
structure fA (ls:List (List Nat)) (t:ah):Prop where
 b:t.bg∈ls
 e:t.en∈ls
 ne:t.bg≠t.en
 fm:Gb 20 3 t.most
 fg:Gb 6 6 t.gain
 g1:1≤t.gain.1
 fp:Gb 24 24 t.price
 m0:0≤t.most.1
 mc:Int.gcd t.most.1 t.most.2=1
section
variable {P:Program}{w:World}{K:PySem.W.Frag}{mg:Str→Option Value}{base:Heap}
theorem gz {a b:Nat}{p:KM.Fra} (h:Gb a b p) (ha:a≤4000) (hb:b≤4000):Sz 4000 p.1∧Sz 4000 p.2:=⟨h.n.mono ha,h.d.mono hb⟩
theorem gd {a b c d:Nat}{p q:KM.Fra} (h:Gb a b p) (k:Gb c d q):p.2*q.2≠0:=Int.mul_ne_zero (by have:=h.pos;trivial) (by have:=k.pos;trivial)
theorem Es {i j:Int}:decide (0<oC i j)=decide (j<i):=by
 unfold oC
 by_cases h:i<j
 ·rw [if_pos h,decide_eq_false (show ¬j<i by trivial)];rfl
 ·rw [if_neg h]
  by_cases h2:j<i
  ·rw [if_pos h2,decide_eq_true h2];rfl
  ·rw [if_neg h2,decide_eq_false h2];rfl
end
end K14
namespace K14
open PySem L2
set_option maxHeartbeats 4000000
section
variable {P:Program}{w:World}{K:PySem.W.Frag}{mg:Str→Option Value}{base:Heap}
end
end K14
namespace K14
open PySem L2
set_option maxHeartbeats 4000000
theorem G5 {a b:List Nat}:qp (V.str (S a)) (V.str (S b))=(a==b):=by
 show (S a==S b)=(a==b)
 by_cases h:a=b
 ·subst h;simp
 ·rw [beq_eq_false_iff_ne.mpr h,beq_eq_false_iff_ne.mpr]
  exact fun z=>h (qy z)
theorem G8 (l:List Nat) (es:List (List Nat)):ze (aD l) (es.map aD)=es.contains l:=by
 unfold ze
 induction es with
 | nil=>rfl
 | cons e r ih=>
  rw [List.map_cons,List.any_cons,ih,List.contains_cons]
  have:qp (aD e) (aD l)=(l==e):=by rw [show qp (aD e) (aD l)=(e==l) from G5];exact Bool.beq_comm
  rw [this]
theorem Fr (es:List (List Nat)):(es.map aD).all lp=true:=by
 rw [List.all_eq_true]
 intro v hv
 obtain ⟨l,_,rfl⟩:=List.mem_map.mp hv
 rfl
theorem uI {α β:Type} (f:α→β):∀(xs:List α) (n:Nat),(xs.map f).eraseIdx n=(xs.eraseIdx n).map f
 | [],_=>rfl
 | _ :: _,0=>rfl
 | x :: xs,n+1=>by
  show f x :: (xs.map f).eraseIdx n=f x :: (xs.eraseIdx n).map f
  rw [uI f xs n]
theorem se {α:Type} [DecidableEq α]:∀{xs ys:List α},xs.Nodup→(∀x∈xs,x∈ys)→xs.length≤ys.length
 | [],_,_,_=>Nat.zero_le _
 | x :: xs,ys,nd,h=>by
  rw [List.nodup_cons] at nd
  have hx:=h x (List.mem_cons_self ..)
  have:=se (xs:=xs) (ys:=ys.erase x) nd.2 fun y hy=>(List.mem_erase_of_ne (fun (z:y=x)=>nd.1 (z▸hy))).mpr (h y (List.mem_cons_of_mem _ hy))
  rw [List.length_erase_of_mem hx] at this
  have:0<ys.length:=List.length_pos_of_mem hx
  simp
  trivial
section
variable {P:Program}{w:World}{K:PySem.W.Frag}{mg:Str→Option Value}{base:Heap}
end
end K14
namespace K14
open PySem L2
section
variable {P:Program}{w:World}{K:PySem.W.Frag}{mg:Str→Option Value}{base:Heap}
inductive AD (K:PySem.W.Frag) (vs:List V) (H:Hp) (Q:VK):Prop
 | mk (a:Addr) (ns:List Int) (many:Nat) (h0:vs=[.ref a,.int many]) (h1:aG K H a (ns.map V.int)) (h2:ns.length≤63) (h3:2≤many) (h4:many≤63) (h5:∀p ms H',H p=none→aj H H'→H' p=some (.lst ((ms:List Int).map V.int))→ms.length≤many→Q (.ref p) H')
def B0 (K:PySem.W.Frag):Sp:=fun vs H Q _=>AD K vs H Q
theorem AS {ns:List Int}{m:Nat}{hi:Option Int}:∃cs:List Int,dk (ns.map V.int) (some (m:Int)) hi=cs.map V.int∧cs.length≤ns.length - m∧(cs≠[]→m<ns.length):=by
 refine ⟨(ns.drop (min m ns.length)).take (HT.sIx ns.length ns.length hi - min m ns.length),?_,?_,fun z=>?_⟩
 ·unfold dk
  rw [List.length_map,HT.sIx_nat,List.map_take,List.map_drop]
 ·refine Nat.le_trans (List.length_take_le' ..) ?_
  rw [List.length_drop]
  have:=Nat.le_total m ns.length
  trivial
 ·refine Nat.lt_of_not_le fun y=>z ?_
  rw [Nat.min_eq_right y,List.drop_length,List.take_nil]
theorem yV (T:Txt K mg):bv P w K mg base CX0 1 T.l_folded_.f T.l_folded_.d ["_law_script", "_law_many"] (B0 K):=by
 refine T.l_folded_.F.ok kg (fun vs H Q E h=>?_) (fun cdv A outer s H vs Q E hr h=>?_)
 ·obtain ⟨a,ns,many,rfl,_⟩:=h
  rfl
 ·obtain ⟨a,ns,many,rfl,hS,hn,hm0,hm1,kk⟩:=h
  refine ⟨_,(@ae _ _ _ _ _ (@aL _ _ (2) _ _ _ _ kg.nd rfl (Or.inl eY) (@dQ _ _ _ _ _ _ _ _ _ (@pb _ (K) (by rfl)) sH T.b_list (@hV) (@aa _ _ _ _ _ (@fk _ _ _ _ _ _ _ _ _ _ (@jV _ (K) (by rfl)) (@pw _ 0 _ _ (Or.inl jI) (by rfl) (by decide) (by decide)) (@i5 _) (@dU _ _ _ (@pw _ 1 _ _ (Or.inl fC) (by rfl) (by decide) (by decide)))) (@ac _) rfl) (by decide) (by decide) (by rfl) (by rfl)) (by rfl) (by first | exact .inl rfl | exact .inr rfl | assumption)) (@ae _ _ _ _ _ (@gm _ _ _ _ _ _ _ _ PassesOwn.never rfl (@rF _ (K) _ _ _ _ _ _ _ oY T.b_enumerate (@aa _ _ _ _ _ (@fk _ _ _ _ _ _ _ _ _ _ (@jV _ (K) (by rfl)) (@pw _ 0 _ _ (Or.inl jI) (by rfl) (by decide) (by decide)) (@dU _ _ _ (@pw _ 1 _ _ (Or.inl fC) (by rfl) (by decide) (by decide))) (@dU _ _ _ (@ad _ _ _ _))) (@ac _) rfl) (by rfl) (by rfl)) (@cY _ (K) _ _ _ _ (2) rfl (@aP _ _ _ _ _ (@aw _ _ (3) _ kg.nd rfl (Or.inl ic) (by first | exact .inl rfl | exact .inr rfl | assumption)) (@aP _ _ _ _ _ (@aw _ _ (4) _ kg.nd rfl (Or.inl kR) (by first | exact .inl rfl | exact .inr rfl | assumption)) (@dv _) (by rfl)) (by rfl)) (by rfl) (by rfl) (by rfl)) (@am _ _ _ (@eh _ _ _ _ _ _ (@aB _ _ _ _ _ _ _ _ (@cx _) (@aq _ _ _ _ _ _ _ (@fb _ (K) (by rfl)) (@pw _ 2 _ _ (Or.inl eY) (by rfl) (by decide) (by decide)) (@aB _ _ _ _ _ _ _ _ (@g9 _) (@pw _ 3 _ _ (Or.inl ic) (by rfl) (by decide) (by decide)) (@pw _ 1 _ _ (Or.inl fC) (by rfl) (by decide) (by decide))) (fun _ _=>rfl)) (@aB _ _ _ _ _ _ _ _ (@iK _) (@pw _ 4 _ _ (Or.inl kR) (by rfl) (by decide) (by decide)) (@aB _ _ _ _ _ _ _ _ (@cx _) (@pw _ 3 _ _ (Or.inl ic) (by rfl) (by decide) (by decide)) (@ad _ _ _ _)))) (@oo _ _ _ _ _ _ _ (@pw _ 2 _ _ (Or.inl eY) (by rfl) (by decide) (by decide)) (@aB _ _ _ _ _ _ _ _ (@g9 _) (@pw _ 3 _ _ (Or.inl ic) (by rfl) (by decide) (by decide)) (@pw _ 1 _ _ (Or.inl fC) (by rfl) (by decide) (by decide))) (@ur _) (by intro _;rfl)) (by rfl) (by rfl) (by rfl))) (by intro _;rfl)) (@am _ _ _ (@aM _ _ _ _ (@pw _ 2 _ _ (Or.inl eY) (by rfl) (by decide) (by decide)))))),?_⟩
  refine bO fun Q1 nA1=>⟨_,rfl,_,rfl,_,rfl,a,_,rfl,hS,fun p1 H1 n1=>⟨p1,_,rfl,.inl (aG.of n1.at'),fun p2 H2 n2=>nA1 _ _ ?_⟩⟩
  have h2:=n2.at'
  rw [uf (Int.natCast_nonneg _),Int.toNat_natCast,←List.map_take] at h2
  have s2:=n1.sm.trans n2.sm
  have f2:H p2=none:=n1.sm.free n2.fr
  refine bT fun DA nA=>⟨_,rfl,_,rfl,_,rfl,_,rfl,a,_,rfl,s2.seq hS,fun p3 H3 n3=>?_⟩
  obtain ⟨cs,ec,lc,mc⟩:=AS (ns:=ns) (m:=many) (hi:=some 63)
  have h3:=n3.at'
  rw [ec] at h3
  have n32:p3≠p2:=fun z=>by have:=n3.fr;rw [z,h2] at this;cases this
  refine ⟨p3,true,rfl,⟨_,aG.of h3⟩,uk (xs:=cs.map V.int) (fun i σ H'=>jq fun (ms:List Int) (v3 v4:Option V)=>σ=[some (.ref a),some (.int (many:Int)),some (.ref p2),v3,v4]∧ms.length=(ns.take many).length∧H' p2=some (.lst (ms.map V.int))∧∀b o,b≠p2→H3 b=some o→H' b=some o) ⟨_,_,_,rfl,rfl,n3.sm _ _ h2,fun _ _ _ h=>h⟩ ?_ ?_ ?_⟩
  ·rintro i σ H' _ ⟨ms,v3,v4,rfl,_,_,ol⟩
   exact aG.of (ol _ _ n32 h3)
  ·rintro i x T' σ J0 hx hT ⟨ms,v3,v4,rfl,lm,hp,ol⟩
   have nT:Nw J0 T' (.tup [.int (i:Int),x]) (aI J0 T' (.tup [.int (i:Int),x])):=.mk' hT
   generalize aI J0 T' (.tup [.int (i:Int),x])=J1 at nT ⊢
   rw [List.getElem?_map] at hx
   obtain ⟨c,ec',rfl⟩:=Option.map_eq_some_iff.mp hx
   have hml:=mc (fun z=>by rw [z] at ec';cases ec')
   have hi:=(List.getElem?_eq_some_iff.mp ec').1
   rw [List.length_take] at lm
   have hj:i % many<ms.length:=by
    rw [lm,Nat.min_eq_left (Nat.le_of_lt hml)];exact Nat.mod_lt _ (by trivial)
   have eI:(i:Int) % (many:Int)=((i % many:Nat):Int):=rfl
   have e1:(ms.map V.int)[i % many]?=some (.int ms[i % many]):=by rw [List.getElem?_map,List.getElem?_eq_getElem hj];rfl
   have hp1:=nT.sm _ _ hp
   refine ⟨T',_,rfl,au.of nT.at',rfl,_,_,rfl,_,_,rfl,rfl,?_⟩
   dsimp only
   refine ⟨_,rfl,_,rfl,_,rfl,_,_,rfl,rfl,(by show (0:Int)<(many:Int);trivial),p2,_,_,_,rfl,rfl,aG.of hp1,by show ma _ ((i:Int) % (many:Int))=_;rw [eI];exact bH e1,?_⟩
   refine ⟨_,rfl,_,rfl,_,_,rfl,rfl,_,_,rfl,rfl,.inr ⟨by trivial,by trivial⟩,_,_,rfl,rfl,?_⟩
   refine ⟨_,rfl,_,rfl,_,rfl,_,_,rfl,rfl,(by show (0:Int)<(many:Int);trivial),p2,_,_,i % many,rfl,rfl,hp1,?_,fun J2 c2=>?_⟩
   ·show qc _ ((i:Int) % (many:Int))=_
    rw [eI]
    unfold qc
    rw [if_pos (Int.natCast_nonneg _),List.length_map,if_pos (by trivial),Int.toNat_natCast]
   ·refine ⟨ms.set (i % many) (ms[i % many]+c*((i:Int)+2)),_,_,rfl,by rw [List.length_set,lm,List.length_take],by rw [c2.at',List.map_set],fun b o ne h=>c2.ol b o ne (nT.sm _ _ (ol b o ne h))⟩
  ·rintro σ J ⟨ms,v3,v4,rfl,lm,hp,ol⟩
   refine nA _ _ ⟨_,rfl,kk p2 ms J f2 (fun b o h=>ol b o (fun z=>by rw [z,f2] at h;cases h) (n3.sm _ _ (s2 _ _ h))) hp ?_⟩
   rw [lm,List.length_take];exact Nat.min_le_left ..
end
end K14
namespace K14
open PySem L2
set_option maxHeartbeats 4000000
theorem EN (p:KM.Fra):PyData.eqv (cJ p) (cJ (0,1))=decide (p=(0,1)):=by
 have e1:PyData.eqv (cJ p) (cJ (0,1))=(p.1==0 && (p.2==1 && true)):=by simp [PyData.eqv,PyData.eqvAll]
 rw [e1]
 obtain ⟨a,b⟩:=p
 by_cases h1:a=0
 ·by_cases h2:b=1
  ·subst h1 h2;rfl
  ·simp [h1,h2]
 ·simp [h1]
theorem pU {p:KM.Fra}{a b:Nat} (h:Gb a b p) (ha:a≤1900) (hb:b≤1900):Wt (cJ p) 3 1:=.tuple (.cons (.int (h.n.mono ha)) (.cons (.int (h.d.mono hb)) .nil))
theorem wq:Gb 1 1 (0,1):=⟨show (0:Int).natAbs<2 ^ 1 by decide,show (1:Int).natAbs<2 ^ 1 by decide,by decide⟩
section
variable {P:Program}{w:World}{K:PySem.W.Frag}{mg:Str→Option Value}{base:Heap}
inductive Cm (vs:List V) (H:Hp) (Q:VK):Prop
 | mk (v:V) (t:ah) (ls:List (List Nat)) (h0:vs=[v]) (h1:bE ED H v (dG t)) (h2:fA ls t) (h3:∀H',aj H H'→Q (.bl (decide (t.most=(0,1)))) H')
def Ds:Sp:=fun vs H Q _=>Cm  vs H Q
theorem sR (T:Txt K mg):bv P w K mg base CX0 1 T.is_shut_.f T.is_shut_.d ["tie"] Ds:=by
 refine T.is_shut_.F.ok xJ (fun vs H Q E h=>?_) (fun cdv A outer s H vs Q E hr h=>?_)
 ·obtain ⟨v,t,ls,rfl,_⟩:=h
  rfl
 ·obtain ⟨v,t,ls,rfl,hv,tc,k⟩:=h
  obtain ⟨o,om,og,op,rfl,ho,hom,hog,hop⟩:=gf hv
  refine ⟨_,(@am _ _ _ (@aM _ _ _ _ (@cO _ _ _ _ _ _ _ _ (@tf _ hr.units) (@aq _ _ _ _ _ _ _ (@aN _ (K) (by rfl)) (@pw _ 0 _ _ (Or.inl uX) (by rfl) (by decide) (by decide)) (@ad _ _ _ _) (fun _ _=>rfl)) (@ax _ _ _ _ _ (@aa _ _ _ _ _ (@ad _ _ _ _) (@aa _ _ _ _ _ (@ad _ _ _ _) (@ac _) rfl) rfl)) (@aZ _ _ (by decide) (by decide))))),?_⟩
  refine ⟨_,rfl,o,_,_,_,rfl,rfl,au.of ho,rfl,(by show 2≤10000;decide),fun q H1 n1=>⟨cJ t.most,cJ (0,1),ED,ED,_,_,_,_,cQ (n1.sm _ _ hom),cQ (p:=(0,1)) n1.at',pU tc.fm (by decide) (by decide),pU wq (by decide) (by decide),by decide,?_⟩⟩
  have:=k H1 n1.sm
  rw [←EN] at this
  exact this
inductive DW (H:Hp) (W:Addr) (ls:List (List Nat)) (ω:List Nat→KM.Fra) (n:Nat):Prop
 | mk (kvs:_) (h0:H W=some (.dK kvs)) (h1:kvs.length≤n) (h2:∀l∈ls,∃o,valD kvs (Sum.inr (S l))=some (.ref o)∧H o=some (fr (ω l)))
inductive DO (H:Hp) (O:Addr) (ls:List (List Nat)) (on:List Nat→Option Nat) (n:Nat):Prop
 | mk (kvs:_) (h0:H O=some (.dK kvs)) (h1:kvs.length≤n) (h2:∀l∈ls,valD kvs (Sum.inr (S l))=(on l).map fun k:Nat=>V.int (k:Int))
def tq:Option (List Nat)→V
 | none=>.non
 | some l=>aD l
def nP (W O:Addr) (H H':Hp):Prop:=∀a o,a≠W→a≠O→H a=some o→H' a=some o
theorem nP.tup {W O a:Addr}{H H':Hp}{k1 k2:List (bp×V)}{us:List V} (h:nP W O H H') (hW:H W=some (.dK k1)) (hO:H O=some (.dK k2)) (ha:H a=some (.tup us)):H' a=some (.tup us):=
 h a _ (fun z=>by rw [z,hW] at ha;cases ha) (fun z=>by rw [z,hO] at ha;cases ha) ha
theorem oE (kvs:List (bp×V)) (k:bp) (v:V):(dL kvs k v).length≤kvs.length+1:=by
 unfold dL
 split
 ·rw [List.length_map];trivial
 ·rw [List.length_append];exact Nat.le_refl _
theorem pM {a b:List Nat} (h:a≠b):(Sum.inr (S a):bp)≠Sum.inr (S b):=fun z=>by
 injection z with z
 exact h (qy z)
theorem fA.tok {ls:List (List Nat)}{t:ah} (h:fA ls t):dR ls t:=⟨h.b,h.e,h.ne,h.g1,h.fg.pos⟩
inductive qS (H:Hp) (W:Addr) (ls:List (List Nat)) (ω:pd) (n:Nat):Prop
 | mk (kvs:_) (h0:H W=some (.dK kvs)) (h1:kvs.length≤n) (h2:∀l∈ls,(∀w,ω l=some w→∃o,valD kvs (Sum.inr (S l))=some (.ref o)∧H o=some (fr w))∧(ω l=none→valD kvs (Sum.inr (S l))=none))
abbrev GW (ls:List (List Nat)) (ω:pd) (c:Nat):Prop:=∀l∈ls,∀w,ω l=some w→Gb c c w∧1≤w.1
inductive AM (vs:List V) (H:Hp) (Q:VK):Prop
 | mk (v:V) (W O:Addr) (ls:List (List Nat)) (ts:List ah) (s:LP) (n c:Nat) (h0:vs=[v,.ref W,.ref O]) (h1:bE ED H v (eT ls ts)) (h2:(∀t∈ts,fA ls t)) (h3:ts.length≤40) (h4:¬W=O) (h5:qS H W ls s.ω n) (h6:DO H O ls s.on n) (h7:n≤3000) (h8:GW ls s.ω c) (h9:c≤2000) (h10:∀H':Hp,nP W O H H'→qS H' W ls (gM ts s).ω (n+ts.length)→DO H' O ls (gM ts s).on (n+ts.length)→GW ls (gM ts s).ω (c+6*ts.length)→Q (tq (gM ts s).lf) H')
def BM:Sp:=fun vs H Q _=>AM  vs H Q
theorem ph (T:Txt K mg):bv P w K mg base CX0 4 T.lift_once_.f T.lift_once_.d ["net", "worths", "onward"] BM:=by
 have G_is_shut:=sR (P:=P) (w:=w) (base:=base) T
 have G_times:=ww (P:=P) (w:=w) (base:=base) T
 have G_compared:=qZ (P:=P) (w:=w) (base:=base) T
 refine T.lift_once_.F.ok bZ (fun vs H Q E h=>?_) (fun cdv A outer s H vs Q E hr h=>?_)
 ·obtain ⟨v,W,O,ls,ts,st,n,c,rfl,_⟩:=h
  rfl
 ·obtain ⟨v,W,O,ls,ts,st,n,c,rfl,hv,tc,h40,nWO,⟨kv0,hW0,lW0,vW0⟩,⟨ko0,hO0,lO0,vO0⟩,hn,gω,hc,k⟩:=h
  obtain ⟨na,pa,ta,ys,rfl,hna,hpa,hta,ity⟩:=gW hv
  have lys:ys.length=ts.length:=by rw [ity.length,List.length_map]
  refine ⟨_,(@ae _ _ _ _ _ (@aL _ _ (3) _ _ _ _ bZ.nd rfl (Or.inl hU) (@fK _ _ _) (by rfl) (by first | exact .inl rfl | exact .inr rfl | assumption)) (@ae _ _ _ _ _ (@gm _ _ _ _ _ _ _ _ PassesOwn.never rfl (@rF _ (K) _ _ _ _ _ _ _ nU T.b_enumerate (@aa _ _ _ _ _ (@aq _ _ _ _ _ _ _ (@aN _ (K) (by rfl)) (@pw _ 0 _ _ (Or.inl sS) (by rfl) (by decide) (by decide)) (@ad _ _ _ _) (fun _ _=>rfl)) (@ac _) rfl) (by rfl) (by rfl)) (@cY _ (K) _ _ _ _ (2) rfl (@aP _ _ _ _ _ (@aw _ _ (4) _ bZ.nd rfl (Or.inl kj) (by first | exact .inl rfl | exact .inr rfl | assumption)) (@aP _ _ _ _ _ (@aw _ _ (5) _ bZ.nd rfl (Or.inl jw) (by first | exact .inl rfl | exact .inr rfl | assumption)) (@dv _) (by rfl)) (by rfl)) (by rfl) (by rfl) (by rfl)) (@ae _ _ _ _ _ (@eh _ _ _ _ _ _ (@pw _ 5 _ _ (Or.inl jw) (by rfl) (by decide) (by decide)) (@cY _ (K) _ _ _ _ (5) rfl (@aP _ _ _ _ _ (@aw _ _ (6) _ bZ.nd rfl (Or.inl cP) (by first | exact .inl rfl | exact .inr rfl | assumption)) (@aP _ _ _ _ _ (@aw _ _ (7) _ bZ.nd rfl (Or.inl jk) (by first | exact .inl rfl | exact .inr rfl | assumption)) (@aP _ _ _ _ _ (@aw _ _ (8) _ bZ.nd rfl (Or.inl sg) (by first | exact .inl rfl | exact .inr rfl | assumption)) (@aP _ _ _ _ _ (@aw _ _ (9) _ bZ.nd rfl (Or.inl lQ) (by first | exact .inl rfl | exact .inr rfl | assumption)) (@aP _ _ _ _ _ (@aw _ _ (10) _ bZ.nd rfl (Or.inl qJ) (by first | exact .inl rfl | exact .inr rfl | assumption)) (@dv _) (by rfl)) (by rfl)) (by rfl)) (by rfl)) (by rfl)) (by rfl) (by rfl) (by rfl)) (by rfl) (by rfl) (by rfl)) (@ae _ _ _ _ _ (@cK _ _ _ _ _ _ _ _ (@PW.pt _ _ _ (@mP _ _ _ _ _ _ _ (@fh _ _ _ (@ap _ _ _ _ _ _ _ _ _ _ _ _ _ _ _ _ G_is_shut (hr.mono (by decide)) pi T.is_shut_.m T.is_shut_.F.kp T.is_shut_.B .nil (@aK _) (@aa _ _ _ _ _ (@pw _ 5 _ _ (Or.inl jw) (by rfl) (by decide) (by decide)) (@ac _) rfl) (by decide) (by rfl) (by rfl)) (by intro _;rfl)) (@km _ _ _ _ (@bj _ _ _ _ _ _ _ _ (@oQ _) (@pw _ 7 _ _ (Or.inl jk) (by rfl) (by decide) (by decide)) (@pw _ 1 _ _ (Or.inl dm) (by rfl) (by decide) (by decide)) rfl)))) (@am _ _ _ (@wR _ _)) (@bM _)) (@ae _ _ _ _ _ (@aL _ _ (11) _ _ _ _ bZ.nd rfl (Or.inl iC) (@ap _ _ _ _ _ _ _ _ _ _ _ _ _ _ _ _ G_times (hr.mono (by decide)) qM T.times_.m T.times_.F.kp T.times_.B .nil (@aK _) (@aa _ _ _ _ _ (@pw _ 9 _ _ (Or.inl lQ) (by rfl) (by decide) (by decide)) (@aa _ _ _ _ _ (@aq _ _ _ _ _ _ _ (@ia _) (@pw _ 1 _ _ (Or.inl dm) (by rfl) (by decide) (by decide)) (@pw _ 7 _ _ (Or.inl jk) (by rfl) (by decide) (by decide)) (fun _ _=>rfl)) (@ac _) rfl) rfl) (by decide) (by rfl) (by rfl)) (by rfl) (by first | exact .inl rfl | exact .inr rfl | assumption)) (@am _ _ _ (@cK _ _ _ _ _ _ _ _ (@PW.pt _ _ _ (@mP _ _ _ _ _ _ _ (@bj _ _ _ _ _ _ _ _ (@oQ _) (@pw _ 6 _ _ (Or.inl cP) (by rfl) (by decide) (by decide)) (@pw _ 1 _ _ (Or.inl dm) (by rfl) (by decide) (by decide)) rfl) (@km _ _ _ _ (@bj _ _ _ _ _ _ _ _ (@mH _) (@ap _ _ _ _ _ _ _ _ _ _ _ _ _ _ _ _ G_compared (hr.mono (by decide)) o4 T.compared_.m T.compared_.F.kp T.compared_.B .nil (@aK _) (@aa _ _ _ _ _ (@pw _ 11 _ _ (Or.inl iC) (by rfl) (by decide) (by decide)) (@aa _ _ _ _ _ (@aq _ _ _ _ _ _ _ (@ia _) (@pw _ 1 _ _ (Or.inl dm) (by rfl) (by decide) (by decide)) (@pw _ 6 _ _ (Or.inl cP) (by rfl) (by decide) (by decide)) (fun _ _=>rfl)) (@ac _) rfl) rfl) (by decide) (by rfl) (by rfl)) (@ad _ _ _ _) (@aZ _ _ (by decide) (by decide)))))) (@ae _ _ _ _ _ (@eh _ _ _ _ _ _ (@pw _ 11 _ _ (Or.inl iC) (by rfl) (by decide) (by decide)) (@oo _ _ _ _ _ _ _ (@pw _ 1 _ _ (Or.inl dm) (by rfl) (by decide) (by decide)) (@pw _ 6 _ _ (Or.inl cP) (by rfl) (by decide) (by decide)) (@vX _) (by intro _;rfl)) (by rfl) (by rfl) (by rfl)) (@ae _ _ _ _ _ (@eh _ _ _ _ _ _ (@pw _ 4 _ _ (Or.inl kj) (by rfl) (by decide) (by decide)) (@oo _ _ _ _ _ _ _ (@pw _ 2 _ _ (Or.inl p5) (by rfl) (by decide) (by decide)) (@pw _ 6 _ _ (Or.inl cP) (by rfl) (by decide) (by decide)) (@vX _) (by intro _;rfl)) (by rfl) (by rfl) (by rfl)) (@am _ _ _ (@aL _ _ (3) _ _ _ _ bZ.nd rfl (Or.inl hU) (@pw _ 6 _ _ (Or.inl cP) (by rfl) (by decide) (by decide)) (by rfl) (by first | exact .inl rfl | exact .inr rfl | assumption))))) (@bM _)))))) (by intro _;rfl)) (@am _ _ _ (@aM _ _ _ _ (@pw _ 3 _ _ (Or.inl hU) (by rfl) (by decide) (by decide)))))),?_⟩
  refine bO fun Q1 nA=>nA _ _ ?_
  refine bT fun DB nB=>?_
  refine ⟨_,rfl,na,_,_,_,rfl,rfl,au.of hna,rfl,ta,false,rfl,⟨ys,au.of hta⟩,uk (xs:=ys) (fun i σ H'=>D7 fun (v4 v5 v6 v7 v8 v9 v10 v11:Option V)=>σ=[some (.ref na),some (.ref W),some (.ref O),some (tq (upP ts st i).lf),v4,v5,v6,v7,v8,v9,v10,v11]∧qS H' W ls (upP ts st i).ω (n+i)∧DO H' O ls (upP ts st i).on (n+i)∧GW ls (upP ts st i).ω (c+6*i)∧nP W O H H') ⟨_,_,_,_,_,_,_,_,rfl,⟨kv0,hW0,by trivial,vW0⟩,⟨ko0,hO0,by trivial,vO0⟩,gω,fun _ _ _ _ h=>h⟩ ?_ ?_ ?_⟩
  ·rintro i σ H' _ ⟨v4,v5,v6,v7,v8,v9,v10,v11,rfl,_,_,_,f2⟩
   exact au.of (f2.tup hW0 hO0 hta)
  ·rintro i x T' σ J0 hx hT ⟨v4,v5,v6,v7,v8,v9,v10,v11,rfl,⟨kv,hW,lW,vW⟩,⟨ko,hO,lO,vO⟩,gω,f2⟩
   have hi:i<ys.length:=(List.getElem?_eq_some_iff.mp hx).1
   have nT:Nw J0 T' (.tup [.int (i:Int),x]) (aI J0 T' (.tup [.int (i:Int),x])):=.mk' hT
   generalize aI J0 T' (.tup [.int (i:Int),x])=J1 at nT ⊢
   obtain ⟨dy,edy,gy⟩:=ity.get hx
   rw [List.getElem?_map] at edy
   obtain ⟨t,et,rfl⟩:=Option.map_eq_some_iff.mp edy
   have tt:=tc t (List.mem_of_getElem? et)
   have eU:=rK (s:=st) et
   obtain ⟨o,om,og,op,rfl,ho,hom,hog,hop⟩:=gf gy
   generalize upP ts st i=U at eU vW vO gω ⊢
   have up1:∀{a:Addr}{us:List V},H a=some (.tup us)→J1 a=some (.tup us):=fun h=>nT.sm _ _ (f2.tup hW0 hO0 h)
   have gyJ:bE ED J1 (.ref o) (dG t):=.tup (up1 ho) (.cons (.str _) (.cons (.str _) (.cons (cQ (p:=t.most) (up1 hom)) (.cons (cQ (p:=t.gain) (up1 hog)) (.cons (cQ (p:=t.price) (up1 hop)) .nil)))))
   have grow:GW ls U.ω (c+6*(i+1)):=fun l hl w e=>⟨(gω l hl w e).1.mono (by trivial) (by trivial),(gω l hl w e).2⟩
   have keep:∀{J:Hp}{w4 w5 w6 w7 w8 w9 w10 w11:Option V},fT U.ω t=none→aj J0 J→D7 fun (v4 v5 v6 v7 v8 v9 v10 v11:Option V)=>[some (V.ref na),some (.ref W),some (.ref O),some (tq U.lf),w4,w5,w6,w7,w8,w9,w10,w11]=[some (.ref na),some (.ref W),some (.ref O),some (tq (upP ts st (i+1)).lf),v4,v5,v6,v7,v8,v9,v10,v11]∧qS J W ls (upP ts st (i+1)).ω (n+(i+1))∧DO J O ls (upP ts st (i+1)).on (n+(i+1))∧GW ls (upP ts st (i+1)).ω (c+6*(i+1))∧nP W O H J:=by
    intro J w4 w5 w6 w7 w8 w9 w10 w11 no sJ
    rw [eU,j5 no]
    exact ⟨_,_,_,_,_,_,_,_,rfl,⟨kv,sJ _ _ hW,by trivial,fun l hl'=>⟨fun w e=>let ⟨o',v',h'⟩:=(vW l hl').1 w e;⟨o',v',sJ _ _ h'⟩,(vW l hl').2⟩⟩,⟨ko,sJ _ _ hO,by trivial,vO⟩,grow,fun a u h1 h2 h=>sJ _ _ (f2 a u h1 h2 h)⟩
   refine ⟨T',_,rfl,au.of nT.at',rfl,_,_,rfl,_,_,rfl,rfl,?_⟩
   dsimp only
   refine ⟨_,rfl,o,_,rfl,au.of (up1 ho),rfl,_,_,rfl,_,_,rfl,_,_,rfl,_,_,rfl,_,_,rfl,rfl,?_⟩
   dsimp only
   refine Bi (fun σ' H'=>t.most≠(0,1)∧(∃we,U.ω t.en=some we)∧σ'=[some (.ref na),some (.ref W),some (.ref O),some (tq U.lf),some (.int (i:Int)),some (.ref o),some (.str (S t.bg)),some (.str (S t.en)),some (.ref om),some (.ref og),some (.ref op),v11]∧aj J1 H') ?_ fun nx=>?_
   ·rintro σ' J2 ⟨hopen,⟨we,ewe⟩,rfl,s2⟩
    have s02:=nT.sm.trans s2
    obtain ⟨oe,ve,hoe⟩:=(vW t.en tt.e).1 we ewe
    obtain ⟨ge,pe1⟩:=gω t.en tt.e we ewe
    obtain ⟨g1,g2⟩:=gz tt.fg (by decide) (by decide)
    obtain ⟨e1,e2⟩:=gz ge (by trivial) (by trivial)
    refine bO fun Q2 nA2=>⟨_,rfl,_,rfl,_,rfl,W,kv,Sum.inr (S t.en),.ref oe,rfl,rfl,s02 _ _ hW,ve,og,oe,_,_,_,_,rfl,s2 _ _ (up1 hog),s02 _ _ hoe,⟨g1,g2,e1,e2,gd tt.fg ge⟩,fun q J3 n3=>nA2 _ _ ?_⟩
    have gq:Gb (c+6*(i+1)) (c+6*(i+1)) (KM.lTim t.gain we):=tt.fg.tim ge (by trivial) (by trivial)
    obtain ⟨q1,q2⟩:=gz gq (by trivial) (by trivial)
    have s03:=s02.trans n3.sm
    refine Dx (fun H'=>fT U.ω t=some (KM.lTim t.gain we)∧J3=H') (fun H'=>fT U.ω t=none∧J3=H') (fun R r1 r0=>?_) ?_ ?_
    ·refine ⟨_,rfl,_,rfl,W,kv,Sum.inr (S t.bg),rfl,rfl,s03 _ _ hW,_,rfl,?_⟩
     cases eb:U.ω t.bg with
     | none=>
      rw [(vW t.bg tt.b).2 eb]
      exact cW (r1 _ ⟨FY hopen ewe eb,rfl⟩)
     | some wb=>
      obtain ⟨ob,vb,hob⟩:=(vW t.bg tt.b).1 wb eb
      obtain ⟨gb,pb1⟩:=gω t.bg tt.b wb eb
      obtain ⟨b1,b2⟩:=gz gb (by trivial) (by trivial)
      rw [vb]
      refine cm ⟨_,rfl,_,rfl,_,rfl,W,kv,Sum.inr (S t.bg),.ref ob,rfl,rfl,s03 _ _ hW,vb,q,ob,_,_,_,_,rfl,n3.at',s03 _ _ hob,q1,q2,b1,b2,_,_,rfl,rfl,_,rfl,?_⟩
      have ecmp:decide (0<oC ((KM.lTim t.gain we).1*wb.2) (wb.1*(KM.lTim t.gain we).2))=vn wb (KM.lTim t.gain we):=Es
      have eB:=FX hopen ewe eb
      rw [←ecmp] at eB
      cases cnd:decide (0<oC ((KM.lTim t.gain we).1*wb.2) (wb.1*(KM.lTim t.gain we).2)) with
      | true=>
       rw [cnd,if_pos rfl] at eB
       refine Eq.mp (congrArg (fun b=>R b J3) cnd.symm) (r1 _ ⟨eB,rfl⟩)
      | false=>
       rw [cnd,if_neg Bool.false_ne_true] at eB
       refine Eq.mp (congrArg (fun b=>R b J3) cnd.symm) (r0 _ ⟨eB,rfl⟩)
    ·rintro _ ⟨hl,rfl⟩
     refine bT fun DC nC=>⟨_,rfl,_,rfl,_,rfl,W,kv,Sum.inr (S t.bg),rfl,rfl,s03 _ _ hW,by trivial,fun J4 c4=>nC _ _ ?_⟩
     have hO4:=c4.ol O _ (fun z=>nWO z.symm) (s03 _ _ hO)
     refine bT fun DE nE=>⟨_,rfl,_,rfl,_,rfl,O,ko,Sum.inr (S t.bg),rfl,rfl,hO4,by trivial,fun J5 c5=>nE _ _ ?_⟩
     have tupJ:∀{a:Addr}{us:List V},J3 a=some (.tup us)→J5 a=some (.tup us):=fun {a us} h=>c5.ol a _ (fun z=>by rw [z,s03 _ _ hO] at h;cases h) (c4.ol a _ (fun z=>by rw [z,s03 _ _ hW] at h;cases h) h)
     have fin:D7 fun (v4 v5 v6 v7 v8 v9 v10 v11:Option V)=>[some (V.ref na),some (.ref W),some (.ref O),some (.str (S t.bg)),some (.int (i:Int)),some (.ref o),some (.str (S t.bg)),some (.str (S t.en)),some (.ref om),some (.ref og),some (.ref op),some (.ref q)]=[some (.ref na),some (.ref W),some (.ref O),some (tq (upP ts st (i+1)).lf),v4,v5,v6,v7,v8,v9,v10,v11]∧qS J5 W ls (upP ts st (i+1)).ω (n+(i+1))∧DO J5 O ls (upP ts st (i+1)).on (n+(i+1))∧GW ls (upP ts st (i+1)).ω (c+6*(i+1))∧nP W O H J5:=by
      rw [eU,ku hl]
      have eo:∀l,(jA i t (KM.lTim t.gain we) U).ω l=if l=t.bg then some (KM.lTim t.gain we) else U.ω l:=fun _=>rfl
      have eon:∀l,(jA i t (KM.lTim t.gain we) U).on l=if l=t.bg then some i else U.on l:=fun _=>rfl
      have elf:tq (jA i t (KM.lTim t.gain we) U).lf=.str (S t.bg):=rfl
      rw [elf]
      generalize jA i t (KM.lTim t.gain we) U=U' at eo eon
      refine ⟨_,_,_,_,_,_,_,_,rfl,⟨_,c5.ol W _ nWO c4.at',by have:=oE kv (Sum.inr (S t.bg)) (.ref q);trivial,fun l hl'=>?_⟩,⟨_,c5.at',by have:=oE ko (Sum.inr (S t.bg)) (.int (i:Int));trivial,fun l hl'=>?_⟩,fun l hl' w' e'=>?_,fun a u h1 h2 h=>c5.ol a _ h2 (c4.ol a _ h1 (s03 _ _ (f2 a u h1 h2 h)))⟩
      ·rw [mO,eo]
       by_cases cl:l=t.bg
       ·subst cl
        rw [if_pos rfl,if_pos rfl]
        exact ⟨fun w' e'=>by cases e';exact ⟨q,rfl,tupJ n3.at'⟩,fun z=>by cases z⟩
       ·rw [if_neg (pM cl),if_neg cl]
        exact ⟨fun w' e'=>let ⟨o',v',h'⟩:=(vW l hl').1 w' e';⟨o',v',tupJ (s03 _ _ h')⟩,(vW l hl').2⟩
      ·rw [mO,eon]
       by_cases cl:l=t.bg
       ·subst cl
        rw [if_pos rfl,if_pos rfl]
        rfl
       ·rw [if_neg (pM cl),if_neg cl,vO l hl']
      ·rw [eo] at e'
       by_cases cl:l=t.bg
       ·rw [if_pos cl] at e'
        cases e'
        exact ⟨gq,tU tt.g1 tt.fg.pos pe1 ge.pos⟩
       ·rw [if_neg cl] at e'
        exact grow l hl' w' e'
     exact ⟨_,rfl,fin⟩
    ·rintro _ ⟨hl,rfl⟩
     exact keep hl s03
   ·refine ⟨_,rfl,.ref o,t,ls,rfl,gyJ,tt,fun J2 s2=>⟨_,rfl,?_⟩⟩
    have s02:=nT.sm.trans s2
    by_cases hs:t.most=(0,1)
    ·rw [decide_eq_true hs]
     refine cW (cW ?_)
     exact keep (by unfold fT;rw [if_pos hs]) s02
    ·rw [decide_eq_false hs]
     refine cm ⟨_,rfl,_,rfl,W,kv,Sum.inr (S t.en),rfl,rfl,s02 _ _ hW,_,rfl,?_⟩
     cases e:U.ω t.en with
     | none=>
      rw [(vW t.en tt.e).2 e]
      refine cW ?_
      exact keep (by unfold fT;rw [if_neg hs,e]) s02
     | some we=>
      obtain ⟨oe,ve,hoe⟩:=(vW t.en tt.e).1 we e
      rw [ve]
      exact cm (nx _ _ ⟨hs,⟨we,e⟩,rfl,s2⟩)
  ·rintro σ J ⟨v4,v5,v6,v7,v8,v9,v10,v11,rfl,dw,do',gω,f2⟩
   rw [lys] at dw do' gω ⊢
   exact nB _ _ ⟨_,rfl,k J f2 dw do' gω⟩
theorem oz {H:Hp}{W:Addr}{ls:List (List Nat)}{s:LS}{n:Nat}:qS H W ls (gL s).ω n↔DW H W ls s.ω n:=by
 constructor
 ·rintro ⟨kv,h1,h2,h3⟩
  exact ⟨kv,h1,h2,fun l hl=>(h3 l hl).1 _ rfl⟩
 ·rintro ⟨kv,h1,h2,h3⟩
  exact ⟨kv,h1,h2,fun l hl=>⟨fun w e=>by cases e;exact h3 l hl,fun z=>by cases z⟩⟩
theorem tD {ls:List (List Nat)}{s:LS}{c:Nat}:GW ls (gL s).ω c↔∀l∈ls,Gb c c (s.ω l)∧1≤(s.ω l).1:=
 ⟨fun h l hl=>h l hl _ rfl,fun h l hl w e=>by cases e;exact h l hl⟩
inductive CD (vs:List V) (H:Hp) (Q:VK):Prop
 | mk (v:V) (W O:Addr) (ls:List (List Nat)) (ts:List ah) (s:LS) (p n c:Nat) (h0:vs=[v,.ref W,.ref O]) (h1:bE ED H v (eT ls ts)) (h2:(∀t∈ts,fA ls t)) (h3:ts.length≤40) (h4:¬W=O) (h5:DW H W ls s.ω n) (h6:DO H O ls s.on n) (h7:n≤3000) (h8:(∀l∈ls,Gb c c (s.ω l)∧1≤(s.ω l).1)) (h9:c≤2000) (h10:∀H':Hp,nP W O H H'→DW H' W ls (jx p ts s).ω (n+ts.length)→DO H' O ls (jx p ts s).on (n+ts.length)→(∀l∈ls,Gb (c+6*ts.length) (c+6*ts.length) ((jx p ts s).ω l)∧1≤((jx p ts s).ω l).1)→Q (tq (jx p ts s).lf) H')
def Do:Sp:=fun vs H Q _=>CD  vs H Q
theorem wH (T:Txt K mg):bv P w K mg base CX0 4 T.lift_once_.f T.lift_once_.d ["net", "worths", "onward"] Do:=by
 refine (ph (P:=P) (w:=w) (base:=base) T).imp fun vs H Q E h=>?_
 obtain ⟨v,W,O,ls,ts,st,p,n,c,rfl,hv,tc,h40,nWO,dw,do',hn,gω,hc,k⟩:=h
 refine ⟨v,W,O,ls,ts,gL st,n,c,rfl,hv,tc,h40,nWO,oz.mpr dw,do',hn,tD.mpr gω,hc,?_⟩
 rw [vK p]
 exact fun H' f dw do' gω=>k H' f (oz.mp dw) do' (tD.mp gω)
end
end K14
namespace K14
open PySem L2
set_option maxHeartbeats 4000000
abbrev bX (xs:List Nat):List V:=xs.map fun i:Nat=>V.int ((i:Nat):Int)
section
variable {P:Program}{w:World}{K:PySem.W.Frag}{mg:Str→Option Value}{base:Heap}
end
end K14
namespace K14
open PySem L2
set_option maxHeartbeats 4000000
theorem mG {c:TT}{tb:TS}{D:cF}{σ:St}{H:Hp} (Pv:Nat→St→Hp→Prop) (m:Nat) (h0:Pv m σ H)
 (hs:∀m σ H,Pv m σ H→∀(Q:Bool→Hp→Prop) (D':cF),(∀m' σ' H',m'<m→Pv m' σ' H'→D'.nx σ' H')→(∀v H',D.rt v H'→D'.rt v H')→(∀H1,tb D' σ H1→Q true H1)→(∀H1,D.nx σ H1→Q false H1)→c σ H Q):zl c tb D σ H:=by
 refine ⟨Pv,⟨m,h0⟩,fun m σ H h=>?_⟩
 refine hs m σ H h _ { D with nx:=fun σ' H'=>∃m',m'<m∧Pv m' σ' H',ct:=fun σ' H'=>∃m',m'<m∧Pv m' σ' H',bk:=D.nx } (fun m' σ' H' hm hp=>⟨m',hm,hp⟩) (fun _ _ z=>z) (fun H1 t=>?_) fun H1 t=>?_
 ·rw [if_pos rfl]
  exact ⟨_,fun _ _ z=>z,t⟩
 ·rw [if_neg (by decide)]
  exact t
theorem yD {xs:List V}{j:Nat} (h:j≤xs.length):dk xs (some (j:Int)) none=xs.drop j:=by
 unfold dk
 rw [HT.sIx_none,HT.sIx_nat,Nat.min_eq_left h]
 exact List.take_of_length_le (by rw [List.length_drop];exact Nat.le_refl _)
section
variable {P:Program}{w:World}{K:PySem.W.Frag}{mg:Str→Option Value}{base:Heap}
inductive AF (vs:List V) (H:Hp) (Q:VK):Prop
 | mk (v:V) (O:Addr) (ls:List (List Nat)) (ts:List ah) (st:LS) (l0:List Nat) (n:Nat) (h0:vs=[v,.ref O,aD l0]) (h1:bE ED H v (eT ls ts)) (h2:(∀t∈ts,fA ls t)) (h3:ls.length≤10) (h4:DO H O ls st.on n) (h5:BI ls ts ls.length ts.length st) (h6:st.lf=some l0) (h7:∀(R:List Nat) (us:List ah) (r:Addr) (H':Hp),iQ ts R us→R.length≤10→aj H H'→H r=none→H' r=some (.lst (bX R))→Q (.ref r) H')
def BB:Sp:=fun vs H Q _=>AF  vs H Q
theorem tQ (T:Txt K mg):bv P w K mg base CX0 1 T.round_ahead_.f T.round_ahead_.d ["net", "onward", "place"] BB:=by
 refine T.round_ahead_.F.ok ib (fun vs H Q E h=>?_) (fun cdv A outer s H vs Q E hr h=>?_)
 ·obtain ⟨v,O,ls,ts,st,l0,n,rfl,_⟩:=h
  rfl
 ·obtain ⟨v,O,ls,ts,st,l0,n,rfl,hv,tc,l10,⟨ko,hO,lO,vO⟩,bi,elf,k⟩:=h
  obtain ⟨na,pa,ta,ys,rfl,hna,hpa,hta,ity⟩:=gW hv
  have tk:∀t∈ts,dR ls t:=fun t ht=>(tc t ht).tok
  refine ⟨_,(@ae _ _ _ _ _ (@aL _ _ (3) _ _ _ _ ib.nd rfl (Or.inl dN) (@dY _ _ _ _ (@ac _)) (by rfl) (by first | exact .inl rfl | exact .inr rfl | assumption)) (@ae _ _ _ _ _ (@aL _ _ (4) _ _ _ _ ib.nd rfl (Or.inl gT) (@dY _ _ _ _ (@ac _)) (by rfl) (by first | exact .inl rfl | exact .inr rfl | assumption)) (@ae _ _ _ _ _ (@j6 _ _ _ _ _ _ PassesOwn.never (@bj _ _ _ _ _ _ _ _ (@Ci _ (K) (by rfl)) (@pw _ 2 _ _ (Or.inl cb) (by rfl) (by decide) (by decide)) (@pw _ 3 _ _ (Or.inl dN) (by rfl) (by decide) (by decide)) rfl) (@ae _ _ _ _ _ (@fN _ _ _ _ (@fS _ (K) _ _ _ _ _ _ _ _ _ _ _ PySem.F.plainAttrs_list PySem.F.slot_list_append PySem.F.type_list_append (@jm _) (@pw _ 3 _ _ (Or.inl dN) (by rfl) (by decide) (by decide)) (@aa _ _ _ _ _ (@pw _ 2 _ _ (Or.inl cb) (by rfl) (by decide) (by decide)) (@ac _) rfl) (by rfl) (by rfl) (by rfl) (by rfl) (by rfl) (by rfl)) (by rfl)) (@ae _ _ _ _ _ (@fN _ _ _ _ (@fS _ (K) _ _ _ _ _ _ _ _ _ _ _ PySem.F.plainAttrs_list PySem.F.slot_list_append PySem.F.type_list_append (@jm _) (@pw _ 4 _ _ (Or.inl gT) (by rfl) (by decide) (by decide)) (@aa _ _ _ _ _ (@aq _ _ _ _ _ _ _ (@ia _) (@pw _ 1 _ _ (Or.inl jj) (by rfl) (by decide) (by decide)) (@pw _ 2 _ _ (Or.inl cb) (by rfl) (by decide) (by decide)) (fun _ _=>rfl)) (@ac _) rfl) (by rfl) (by rfl) (by rfl) (by rfl) (by rfl) (by rfl)) (by rfl)) (@am _ _ _ (@aL _ _ (2) _ _ _ _ ib.nd rfl (Or.inl cb) (@aq _ _ _ _ _ _ _ (@aN _ (K) (by rfl)) (@aq _ _ _ _ _ _ _ (@aN _ (K) (by rfl)) (@aq _ _ _ _ _ _ _ (@aN _ (K) (by rfl)) (@pw _ 0 _ _ (Or.inl qP) (by rfl) (by decide) (by decide)) (@ad _ _ _ _) (fun _ _=>rfl)) (@aq _ _ _ _ _ _ _ (@ia _) (@pw _ 1 _ _ (Or.inl jj) (by rfl) (by decide) (by decide)) (@pw _ 2 _ _ (Or.inl cb) (by rfl) (by decide) (by decide)) (fun _ _=>rfl)) (fun _ _=>rfl)) (@ad _ _ _ _) (fun _ _=>rfl)) (by rfl) (by first | exact .inl rfl | exact .inr rfl | assumption)))))) (@am _ _ _ (@aM _ _ _ _ (@fk _ _ _ _ _ _ _ _ _ _ (@jV _ (K) (by rfl)) (@pw _ 4 _ _ (Or.inl gT) (by rfl) (by decide) (by decide)) (@dU _ _ _ (@fS _ (K) _ _ _ _ _ _ _ _ _ _ _ PySem.F.plainAttrs_list PySem.F.slot_list_index PySem.F.type_list_index (@zM _) (@pw _ 3 _ _ (Or.inl dN) (by rfl) (by decide) (by decide)) (@aa _ _ _ _ _ (@pw _ 2 _ _ (Or.inl cb) (by rfl) (by decide) (by decide)) (@ac _) rfl) (by rfl) (by rfl) (by rfl) (by rfl) (by rfl) (by rfl))) (@i5 _))))))),?_⟩
  refine bO fun Q1 nA1=>⟨Nat.zero_le _,fun pl J1 n1=>nA1 _ _ ?_⟩
  refine bO fun Q2 nA2=>⟨Nat.zero_le _,fun tl J2 n2=>nA2 _ _ ?_⟩
  have fpl:H pl=none:=n1.fr
  have ftl:H tl=none:=n1.sm.free n2.fr
  have nlt:¬pl=tl:=fun z=>by have:=n2.fr;rw [←z,n1.at'] at this;cases this
  refine bT fun DB nB=>?_
  refine mG (fun m σ H'=>jq fun (us:List ah) (ks:List Nat) (c:List Nat)=>σ=[some (.ref na),some (.ref O),some (aD c),some (.ref pl),some (.ref tl)]∧m=ls.length - us.length∧H' pl=some (.lst ((us.map (·.bg)).map aD))∧H' tl=some (.lst (bX ks))∧ks.map (fun k=>ts[k]?)=us.map some∧(∀t∈us,t.most≠(0,1))∧(∀t∈us,Ed st t)∧(us.map (·.bg)).Nodup∧us.map (·.bg)++[c]=l0 :: us.map (·.en)∧c∈ls∧ls.length≤st.la c+us.length∧(∀t∈us,t.bg∈ls)∧aj H H') ls.length ⟨[],[],l0,rfl,rfl,n2.sm _ _ n1.at',n2.at',rfl,(fun t h=>by cases h),(fun t h=>by cases h),List.nodup_nil,rfl,(bi.lf l0 elf).2,by rw [(bi.lf l0 elf).1];exact Nat.le_add_right _ _,(fun t h=>by cases h),n1.sm.trans n2.sm⟩ ?_
  rintro m σ H' ⟨us,ks,c,rfl,rfl,hpl,htl,e1,ho,he,nd,ch,hc,hla,sub,sm⟩ Q D' nD rD qT qF
  have lk:ks.length=us.length:=by have:=congrArg List.length e1;simpa using this
  have lus:us.length≤ls.length:=by
   have:=se (xs:=us.map (·.bg)) (ys:=ls) nd fun x hx=>by
    obtain ⟨t,ht,rfl⟩:=List.mem_map.mp hx
    exact sub t ht
   rwa [List.length_map] at this
  refine ⟨_,rfl,_,rfl,pl,_,rfl,.inl (aG.of hpl),rfl,Fr _,_,rfl,?_⟩
  show Q (!ze (aD c) _) _
  rw [G8]
  cases hcn:(us.map (·.bg)).contains c with
  | false=>
   refine qT _ ?_
   have nc:c∉us.map (·.bg):=fun z=>by
    have:=List.elem_eq_true_of_mem z
    rw [List.contains] at hcn
    rw [this] at hcn
    cases hcn
   have nd2:(us.map (·.bg)++[c]).Nodup:=List.nodup_append.mpr ⟨nd,by simp,fun a ha b hb=>by
    rw [List.mem_singleton.mp hb]
    exact fun z=>nc (z▸ha)⟩
   have ll:us.length+1≤ls.length:=by
    have:=se (xs:=us.map (·.bg)++[c]) (ys:=ls) nd2 fun x hx=>by
     rcases List.mem_append.mp hx with z | z
     ·obtain ⟨t,ht,rfl⟩:=List.mem_map.mp z
      exact sub t ht
     ·rw [List.mem_singleton.mp z];exact hc
    rwa [List.length_append,List.length_map,List.length_singleton] at this
   obtain ⟨kk,ek⟩:∃kk,st.on c=some kk:=Option.ne_none_iff_exists'.mp (bi.la1 c (by trivial))
   obtain ⟨t,et,op,rfl,le1,lt1,la1⟩:=bi.on c kk ek
   have tt:=tc t (List.mem_of_getElem? et)
   have edt:Ed st t:=⟨fQ tt.g1 tt.fg.pos,le1,lt1⟩
   have vo:valD ko (Sum.inr (S t.bg))=some (.int (kk:Int)):=by rw [vO t.bg hc,ek];rfl
   obtain ⟨y,ey⟩:∃y,ys[kk]?=some y:=⟨_,List.getElem?_eq_getElem (by rw [ity.length,List.length_map];exact (List.getElem?_eq_some_iff.mp et).1)⟩
   obtain ⟨dy,edy,gy⟩:=ity.get ey
   rw [List.getElem?_map,et] at edy
   obtain rfl:dG t=dy:=Option.some.inj edy
   obtain ⟨o,om,og,op',rfl,hto,_,_,_⟩:=gf gy
   refine bT fun DC nC=>⟨_,rfl,.inl ⟨rfl,_,aG.of hpl⟩,_,rfl,pl,_,_,rfl,rfl,hpl,by rw [List.length_map,List.length_map];trivial,fun J3 c3=>nC _ _ ?_⟩
   have sm3:aj H J3:=fun a u h=>c3.ol a u (fun z=>by rw [z,fpl] at h;cases h) (sm a u h)
   have htl3:=c3.ol tl _ (fun z=>nlt z.symm) htl
   refine bT fun DE nE=>⟨_,rfl,.inl ⟨rfl,_,aG.of htl3⟩,_,rfl,_,rfl,O,ko,Sum.inr (S t.bg),_,rfl,rfl,sm3 _ _ hO,vo,tl,_,_,rfl,rfl,htl3,by rw [List.length_map];trivial,fun J4 c4=>nE _ _ ?_⟩
   have sm4:aj H J4:=fun a u h=>c4.ol a u (fun z=>by rw [z,ftl] at h;cases h) (sm3 a u h)
   refine ⟨_,rfl,na,_,_,_,rfl,rfl,au.of (sm4 _ _ hna),rfl,_,rfl,_,rfl,O,ko,Sum.inr (S t.bg),_,rfl,rfl,sm4 _ _ hO,vo,ta,ys,_,_,rfl,rfl,au.of (sm4 _ _ hta),bH ey,o,_,_,_,rfl,rfl,au.of (sm4 _ _ hto),rfl,?_⟩
   refine nD (ls.length - (us.length+1)) _ _ (by trivial) ⟨us++[t],ks++[kk],t.en,rfl,by rw [List.length_append];rfl,?_,?_,?_,?_,?_,?_,?_,tt.e,?_,?_,sm4⟩
   ·rw [c4.ol pl _ nlt c3.at']
    simp
   ·rw [c4.at']
    simp [bX]
   ·rw [List.map_append,List.map_append,e1]
    simp [et]
   ·intro x hx
    rcases List.mem_append.mp hx with z | z
    ·exact ho x z
    ·rw [List.mem_singleton.mp z];exact op
   ·intro x hx
    rcases List.mem_append.mp hx with z | z
    ·exact he x z
    ·rw [List.mem_singleton.mp z];exact edt
   ·rw [List.map_append];exact nd2
   ·rw [List.map_append,List.map_append]
    show (us.map (·.bg)++[t.bg])++[t.en]=_
    rw [ch]
    rfl
   ·rw [List.length_append,List.length_singleton];trivial
   ·intro x hx
    rcases List.mem_append.mp hx with z | z
    ·exact sub x z
    ·rw [List.mem_singleton.mp z];exact tt.b
  | true=>
   refine qF _ (nB _ _ ?_)
   obtain ⟨j,hj⟩:=List.getElem?_of_mem (List.contains_iff_mem.mp hcn)
   have lj:j<us.length:=by have:=(List.getElem?_eq_some_iff.mp hj).1;rwa [List.length_map] at this
   refine ⟨_,rfl,_,rfl,.inl ⟨rfl,_,aG.of hpl⟩,_,rfl,pl,_,c,j,rfl,rfl,hpl,by rw [List.length_map];trivial,hj,nd,_,rfl,tl,_,rfl,aG.of htl,fun r J3 n3=>?_⟩
   have rk:=DY tk bi.pos e1 ho he nd ch hj
   refine k (ks.drop j) (us.drop j) r J3 rk (by rw [List.length_drop];trivial) (sm.trans n3.sm) (sm.free n3.fr) ?_
   rw [n3.at',yD (by rw [List.length_map];trivial)]
   simp only [bX,List.map_drop]
end
end K14
namespace K14
open PySem L2
set_option maxHeartbeats 4000000
section
variable {P:Program}{w:World}{K:PySem.W.Frag}{mg:Str→Option Value}{base:Heap}
theorem sW {J:It}{n:Nat}{H1:Hp}{D:Addr}{σc:St}{g:TG}{tk tv:TE}{Q:VK} (Pv:Nat→Hp→List (bp×V)→Prop) (hz:n≤4000) (h0:Pv 0 (aI H1 D (.dK [])) [])
 (hD:∀i H ys,Pv i H ys→H D=some (.dK ys)∧ys.length≤i) (hgo:∀i H ys,i<n→Pv i H ys→J.go i H) (hst:∀H ys,Pv n H ys→J.stop n H)
 (hs:∀i H ys x H',i<n→Pv i H ys→J.yld i H x H'→g x σc H' fun σ2 H2=>iS σc σ2∧tk σ2 H2 fun kv H4=>∃k,kv=jv k∧tv σ2 H4 fun y H5=>H5 D=some (.dK ys)∧Pv (i+1) (aI H5 D (.dK (dL ys k y))) (dL ys k y))
 (hd:∀H ys,Pv n H ys→Q (.ref D) H):zn J σc g tT tk tv D H1 Q:=by
 refine ⟨fun i m H ys=>m=n - i∧i≤n∧Pv i H ys,⟨n,by simp,Nat.zero_le _,h0⟩,?_⟩
 rintro i m H ys ⟨rfl,hi,p⟩
 obtain ⟨q1,q2⟩:=hD i H ys p
 refine ⟨q1,?_⟩
 by_cases hlt:i<n
 ·refine .inr ⟨hgo i H ys hlt p,by rw [sizeLine_eq];trivial,Pv (i+1),fun H' ys' p'=>⟨n - (i+1),by trivial,rfl,hlt,p'⟩,fun x H' y=>?_⟩
  have e:=hs i H ys x H' hlt p y
  have q:(fun (σ2:St) (H2:Hp)=>iS σc σ2∧tT σ2 H2 fun b H3=>if b=true then tk σ2 H3 fun kv H4=>∃k,kv=jv k∧tv σ2 H4 fun y H5=>H5 D=some (.dK ys)∧Pv (i+1) (aI H5 D (.dK (dL ys k y))) (dL ys k y) else Pv (i+1) H3 ys) =
   (fun σ2 H2=>iS σc σ2∧tk σ2 H2 fun kv H4=>∃k,kv=jv k∧tv σ2 H4 fun y H5=>H5 D=some (.dK ys)∧Pv (i+1) (aI H5 D (.dK (dL ys k y))) (dL ys k y)):=by
   funext σ2 H2
   unfold tT
   dsimp only
   rw [if_pos rfl]
  rw [q]
  exact e
 ·have e:i=n:=by trivial
  subst e
  exact .inl ⟨hst H ys p,hd H ys p⟩
inductive Cp (vs:List V) (H:Hp) (Q:VK):Prop
 | mk (v:V) (ls:List (List Nat)) (ts:List ah) (h0:vs=[v]) (h1:bE ED H v (eT ls ts)) (h2:(∀t∈ts,fA ls t)) (h3:ts.length≤24) (h4:1≤ls.length) (h5:ls.length≤10) (h6:((∃m,m<ls.length∧(bN ts (m+1)).lf=none∧∀H',aj H H'→Q .non H')∨((∀m,m<ls.length→(bN ts (m+1)).lf≠none)∧∀(R:List Nat) (us:List ah) (r:Addr) (H':Hp),iQ ts R us→R.length≤10→aj H H'→H r=none→H' r=some (.lst (bX R))→Q (.ref r) H')))
def Ea:Sp:=fun vs H Q _=>Cp  vs H Q
theorem iU (T:Txt K mg):bv P w K mg base CX0 5 T.gaining_round_.f T.gaining_round_.d ["net"] Ea:=by
 have G_lift_once:=wH (P:=P) (w:=w) (base:=base) T
 have G_round_ahead:=tQ (P:=P) (w:=w) (base:=base) T
 refine T.gaining_round_.F.ok cX (fun vs H Q E h=>?_) (fun cdv A outer s H vs Q E hr h=>?_)
 ·obtain ⟨v,ls,ts,rfl,_⟩:=h
  rfl
 ·obtain ⟨v,ls,ts,rfl,hv,tc,h24,l1,l10,k⟩:=h
  obtain ⟨na,pa,ta,ys,rfl,hna,hpa,hta,ity⟩:=gW hv
  refine ⟨_,(@ae _ _ _ _ _ (@wI _ _ _ _ _ _ _ _ (["place"]) (1) ([]) _ _ _ _ _ (1) _ _ _ cX.nd rfl iO (by kernel_rfl) rfl (by kernel_rfl) (@jO _ (K) _ _ _ (@aq _ _ _ _ _ _ _ (@aN _ (K) (by rfl)) (@pw _ 0 _ _ (Or.inl eF) (by rfl) (by decide) (by decide)) (@ad _ _ _ _) (fun _ _=>rfl)) (by rfl)) (fun _ _ _ _ _ _=>(@aw _ _ (0) _ (@cG _ (by kernel_rfl)) rfl (Or.inl (by kernel_rfl)) (by first | exact .inl rfl | exact .inr rfl | assumption))) (fun _ _ _ _ _ _=>@ca _) (fun _ _ _ _ _ _=>(@pw _ 0 _ _ (Or.inl (by kernel_rfl)) (by rfl) (by decide) (by decide))) (fun _ _ _ _ _ _=>(@ax _ _ _ _ _ (@aa _ _ _ _ _ (@ad _ _ _ _) (@aa _ _ _ _ _ (@ad _ _ _ _) (@ac _) rfl) rfl))) (by intro _;rfl)) (@ae _ _ _ _ _ (@aL _ _ (2) _ _ _ _ cX.nd rfl (Or.inl fi) (@wv _ _) (by rfl) (by first | exact .inl rfl | exact .inr rfl | assumption)) (@ae _ _ _ _ _ (@aL _ _ (3) _ _ _ _ cX.nd rfl (Or.inl de) (@fK _ _ _) (by rfl) (by first | exact .inl rfl | exact .inr rfl | assumption)) (@ae _ _ _ _ _ (@gm _ _ _ _ _ _ _ _ PassesOwn.never rfl (@cz _ _ _ _ _ _ oa T.b_range (@aa _ _ _ _ _ (@be _ _ _ _ _ _ _ _ _ (@ju _ (K) (by rfl)) pJ T.b_len (@cq) (@aa _ _ _ _ _ (@aq _ _ _ _ _ _ _ (@aN _ (K) (by rfl)) (@pw _ 0 _ _ (Or.inl eF) (by rfl) (by decide) (by decide)) (@ad _ _ _ _) (fun _ _=>rfl)) (@ac _) rfl) (by decide) (by decide) (by rfl) (by rfl)) (@ac _) rfl) (by rfl)) (@aw _ _ (4) _ cX.nd rfl (Or.inl oV) (by first | exact .inl rfl | exact .inr rfl | assumption)) (@ae _ _ _ _ _ (@aL _ _ (3) _ _ _ _ cX.nd rfl (Or.inl de) (@ap _ _ _ _ _ _ _ _ _ _ _ _ _ _ _ _ G_lift_once (hr.mono (by decide)) lA T.lift_once_.m T.lift_once_.F.kp T.lift_once_.B .nil (@aK _) (@aa _ _ _ _ _ (@pw _ 0 _ _ (Or.inl eF) (by rfl) (by decide) (by decide)) (@aa _ _ _ _ _ (@pw _ 1 _ _ (Or.inl iO) (by rfl) (by decide) (by decide)) (@aa _ _ _ _ _ (@pw _ 2 _ _ (Or.inl fi) (by rfl) (by decide) (by decide)) (@ac _) rfl) rfl) rfl) (by decide) (by rfl) (by rfl)) (by rfl) (by first | exact .inl rfl | exact .inr rfl | assumption)) (@am _ _ _ (@cK _ _ _ _ _ _ _ _ (@bj _ _ _ _ _ _ _ _ (@sX _) (@pw _ 3 _ _ (Or.inl de) (by rfl) (by decide) (by decide)) (@fK _ _ _) (@aZ _ _ (by decide) (by decide))) (@am _ _ _ (@aM _ _ _ _ (@fK _ _ _))) (@bM _)))) (by intro _;rfl)) (@am _ _ _ (@aM _ _ _ _ (@ap _ _ _ _ _ _ _ _ _ _ _ _ _ _ _ _ G_round_ahead (hr.mono (by decide)) kr T.round_ahead_.m T.round_ahead_.F.kp T.round_ahead_.B .nil (@aK _) (@aa _ _ _ _ _ (@pw _ 0 _ _ (Or.inl eF) (by rfl) (by decide) (by decide)) (@aa _ _ _ _ _ (@pw _ 2 _ _ (Or.inl fi) (by rfl) (by decide) (by decide)) (@aa _ _ _ _ _ (@pw _ 3 _ _ (Or.inl de) (by rfl) (by decide) (by decide)) (@ac _) rfl) rfl) rfl) (by decide) (by rfl) (by rfl)))))))),?_⟩
  refine bO fun Q1 nA1=>⟨_,rfl,na,_,_,_,rfl,rfl,au.of hna,rfl,pa,rfl,⟨_,au.of hpa⟩,fun W hW=>sW (n:=(ls.map aD).length) (fun i H' kv=>H' W=some (.dK kv)∧kv.length≤i∧(∀(j:Nat) l,j<i→ls[j]?=some l→∃o,valD kv (Sum.inr (S l))=some (.ref o)∧H' o=some (fr (1,1)))∧aj H H') (by rw [List.length_map];trivial) ⟨aC,Nat.le_refl _,(fun j l h=>by trivial),aj.new hW⟩ ?_ ?_ ?_ ?_ ?_⟩
  ·rintro i H' kv ⟨e1,e2,_⟩
   exact ⟨e1,e2⟩
  ·rintro i H' kv hi ⟨_,_,_,sm⟩
   exact ⟨_,_,au.of (sm _ _ hpa),List.getElem?_eq_getElem hi⟩
  ·rintro H' kv ⟨_,_,_,sm⟩
   exact ⟨_,au.of (sm _ _ hpa),Nat.le_refl _⟩
  ·rintro i Ha kv x Hb hi ⟨eW,lW,vW,sm⟩ ⟨rfl,ex⟩
   have exi:=ex _ (au.of (sm _ _ hpa))
   rw [List.length_map] at hi
   rw [List.getElem?_map,List.getElem?_eq_getElem hi] at exi
   obtain rfl:aD ls[i]=x:=Option.some.inj exi
   refine ⟨fF,_,rfl,Sum.inr (S ls[i]),rfl,(by show 2≤10000;decide),fun q J n1=>⟨n1.sm _ _ eW,aC,?_,fun j l hj el=>?_,gc hW (sm.trans n1.sm)⟩⟩
   ·exact Nat.le_trans (oE _ _ _) (by trivial)
   ·have tupU:∀{a:Addr}{us:List V},J a=some (.tup us)→aI J W (.dK (dL kv (Sum.inr (S ls[i])) (.ref q))) a=some (.tup us):=fun {a us} h=>by
     rw [av (fun z=>by rw [z,n1.sm _ _ eW] at h;cases h)];exact h
    rw [mO]
    by_cases c:l=ls[i]
    ·rw [c,if_pos rfl]
     exact ⟨q,rfl,tupU n1.at'⟩
    ·rw [if_neg (pM c)]
     have hji:j<i:=by
      by_cases z:j=i
      ·subst z
       rw [List.getElem?_eq_getElem hi] at el
       exact absurd (Option.some.inj el).symm c
      ·trivial
     obtain ⟨o,v',h'⟩:=vW j l hji el
     exact ⟨o,v',tupU (n1.sm _ _ h')⟩
  rintro H1 kv ⟨eW,lW,vW,s1⟩
  rw [List.length_map] at lW vW
  refine nA1 _ _ ?_
  refine bO fun Q2 nA2=>fun O H2 n2=>nA2 _ _ ?_
  have nWO:¬W=O:=fun z=>by rw [←z] at n2;have:=n2.fr;rw [eW] at this;cases this
  have fO:H O=none:=s1.free n2.fr
  refine bO fun Q3 nA3=>nA3 _ _ ?_
  have s2:=s1.trans n2.sm
  have dw0:DW H2 W ls (fun _=>(1,1)) 10:=⟨kv,n2.sm _ _ eW,by trivial,fun l hl=>by
   obtain ⟨j,hj⟩:=List.getElem?_of_mem hl
   obtain ⟨o,v',h'⟩:=vW j l (List.getElem?_eq_some_iff.mp hj).1 hj
   exact ⟨o,v',n2.sm _ _ h'⟩⟩
  have same_of:∀{J:Hp},nP W O H2 J→aj H J:=fun f a o h=>f a o (fun z=>by rw [z,hW] at h;cases h) (fun z=>by rw [z,fO] at h;cases h) (s2 _ _ h)
  refine xV fun DB nB rB=>?_
  refine ⟨_,rfl,na,_,_,_,rfl,rfl,au.of (s2 _ _ hna),rfl,pa,_,rfl,.inr (au.of (s2 _ _ hpa)),_,rfl,by trivial,by rw [List.length_map];trivial,?_⟩
  rw [List.length_map,Int.toNat_natCast]
  refine kD (fun i σ H'=>∃(v4:Option V),σ=[some (.ref na),some (.ref W),some (.ref O),some (tq (bN ts i).lf),v4]∧(∀m,m<i→(bN ts (m+1)).lf≠none)∧DW H' W ls (bN ts i).ω (10+24*i)∧DO H' O ls (bN ts i).on (10+24*i)∧(∀l∈ls,Gb (1+144*i) (1+144*i) ((bN ts i).ω l)∧1≤((bN ts i).ω l).1)∧nP W O H2 H') ?_ ?_ ?_
  ·exact ⟨_,rfl,(fun m h=>by trivial),dw0,⟨[],n2.at',by simp,fun l hl=>rfl⟩,(fun l hl=>⟨sf,(by show (1:Int)≤1;decide)⟩),fun _ _ _ _ h=>h⟩
  ·rintro i σ J hi ⟨v4,rfl,hno,dw,do',gω,f2⟩
   have hvJ:bE ED J (.ref na) (eT ls ts):=hv.mono (same_of f2).toE
   refine FW (t:=o6 _ _) fun DC nC rC=>?_
   refine bO fun Q4 nA4=>⟨_,rfl,_,rfl,_,rfl,.ref na,W,O,ls,ts,bN ts i,i+1,10+24*i,1+144*i,rfl,hvJ,tc,by trivial,nWO,dw,do',by trivial,gω,by trivial,fun J2 f3 dw2 do2 gω2=>nA4 _ _ ?_⟩
   have es:jx (i+1) ts (bN ts i)=bN ts (i+1):=rfl
   rw [es] at dw2 do2 gω2 ⊢
   have f4:nP W O H2 J2:=fun a o h1 h2 h=>f3 a o h1 h2 (f2 a o h1 h2 h)
   cases e:(bN ts (i+1)).lf with
   | none=>
    refine ⟨_,rfl,rfl,_,rfl,cW (rC _ _ (rB _ _ ?_))⟩
    rcases k with ⟨m,_,_,k⟩ | ⟨k,_⟩
    ·exact k J2 (same_of f4)
    ·exact absurd e (k i hi)
   | some l=>
    refine ⟨_,rfl,rfl,_,rfl,cm (nC _ _ ?_)⟩
    obtain ⟨ko2,hO2,lO2,vO2⟩:=do2
    obtain ⟨kv2,hW2,lW2,vW2⟩:=dw2
    refine ⟨_,by rw [e];rfl,fun m hm=>?_,⟨kv2,hW2,by trivial,vW2⟩,⟨ko2,hO2,by trivial,vO2⟩,(fun l hl=>⟨(gω2 l hl).1.mono (by trivial) (by trivial),(gω2 l hl).2⟩),f4⟩
    by_cases c:m=i
    ·rw [c,e];intro z;cases z
    ·exact hno m (by trivial)
  ·rintro σ J ⟨v4,rfl,hno,dw,do',gω,f2⟩
   rcases k with ⟨m,hm,hm',_⟩ | ⟨_,k⟩
   ·exact absurd hm' (hno m hm)
   obtain ⟨n',en⟩:∃n',ls.length=n'+1:=⟨ls.length - 1,by trivial⟩
   obtain ⟨l0,e0⟩:=Option.ne_none_iff_exists'.mp (hno n' (by trivial))
   have e1:(bN ts ls.length).lf=some l0:=by rw [en];exact e0
   refine nB _ _ ?_
   have sJ:=same_of f2
   have hvJ:bE ED J (.ref na) (eT ls ts):=hv.mono sJ.toE
   refine ⟨_,rfl,_,rfl,_,rfl,.ref na,O,ls,ts,bN ts ls.length,l0,_,by rw [e1];rfl,hvJ,tc,l10,do',BI.st (fun t ht=>(tc t ht).tok) _,e1,fun R us r H' rk lR s' fr' hr'=>?_⟩
   exact k R us r H' rk lR (sJ.trans s') (sJ.free fr') hr'
end
end K14
namespace K14
open PySem L2
set_option maxHeartbeats 4000000
section
variable {P:Program}{w:World}{K:PySem.W.Frag}{mg:Str→Option Value}{base:Heap}
inductive Bv (g:Addr) (vs:List V) (H:Hp) (Q:VK) (E:XK):Prop
 | mk (v:V) (W:Addr) (ls:List (List Nat)) (ts:List ah) (s0:LP) (h0:vs=[v,.ref W]) (h1:bE ED H v (eT ls ts)) (h2:(∀t∈ts,fA ls t)) (h3:ts.length≤24) (h4:1≤ls.length) (h5:ls.length≤10) (h6:qS H W ls s0.ω 10) (h7:GW ls s0.ω 1) (h8:(∀l,s0.on l=none)) (h9:((bz fun mx mp=>mx<ls.length∧(bN ts (mx+1)).lf=none∧mp≤9∧(gk ts s0 (mp+1)).lf=none∧∀(m:Nat) (O:Addr) (H':Hp),m≤mp→(gk ts s0 (m+1)).lf=none→(∀a o,a≠W→H a=some o→H' a=some o)→H O=none→qS H' W ls (gk ts s0 m).ω 300→DO H' O ls (gk ts s0 m).on 300→GW ls (gk ts s0 m).ω 1500→Q (.ref O) H')∨((∀m,m<ls.length→(bN ts (m+1)).lf≠none)∧∀(R:List Nat) (us:List ah) (a dx r:Addr) (H':Hp),iQ ts R us→R.length≤10→aj H H'→H' a=some (mr a g (some dx))→H' dx=some (.xd [("ties",.ref r)])→H r=none→H' r=some (.lst (bX R))→E (.ref g) (some dx) H')))
def yI (g:Addr):Sp:=fun vs H Q E=>Bv g vs H Q E
theorem sr (R:List Nat):bX R=(R.map fun i:Nat=>(i:Int)).map V.int:=by rw [List.map_map];rfl
theorem mX (T:Txt K mg):bv P w K mg base (nH P w) 6 T.lift_all_.f T.lift_all_.d ["net", "worths"] (yI T.x_Gaining):=by
 have G_Gaining__init:=x3 (P:=P) (w:=w) (base:=base) T
 have G_lift_once:=ph (P:=P) (w:=w) (base:=base) T
 have G_gaining_round:=iU (P:=P) (w:=w) (base:=base) T
 refine T.lift_all_.F.okX mY (fun vs H Q E h=>?_) (fun cdv A outer s H vs Q E hr h=>?_)
 ·obtain ⟨v,W,ls,ts,s0,rfl,_⟩:=h
  rfl
 ·obtain ⟨v,W,ls,ts,s0,rfl,hv,tc,h24,l1,l10,dw,gw,on0,k⟩:=h
  refine ⟨_,(@ae _ _ _ _ _ (@PS.nox _ _ _ (@aL _ _ (2) _ _ _ _ mY.nd rfl (Or.inl hJ) (@ap _ _ _ _ _ _ _ _ _ _ _ _ _ _ _ _ G_gaining_round (hr.mono (by decide)) mi T.gaining_round_.m T.gaining_round_.F.kp T.gaining_round_.B .nil (@aK _) (@aa _ _ _ _ _ (@pw _ 0 _ _ (Or.inl nQ) (by rfl) (by decide) (by decide)) (@ac _) rfl) (by decide) (by rfl) (by rfl)) (by rfl) (by first | exact .inl rfl | exact .inr rfl | assumption))) (@ae _ _ _ _ _ (@cK _ _ _ _ _ _ _ _ (@bj _ _ _ _ _ _ _ _ (@qx _) (@pw _ 2 _ _ (Or.inl hJ) (by rfl) (by decide) (by decide)) (@fK _ _ _) (@aZ _ _ (by decide) (by decide))) (@am _ _ _ (@Ae _ _ _ _ _ rfl (@CB _ _ _ _ _ _ _ _ _ _ _ _ _ _ _) (@Cy _ _ _ _ _ _ _ _ _ _ _ _ _ T.q_Gaining T.fn_Gaining T.k_Gaining G_Gaining__init (hr.mono (by decide)) T.B_Gaining__init pO T.m_Gaining (@aa _ _ _ _ _ (@pw _ 2 _ _ (Or.inl hJ) (by rfl) (by decide) (by decide)) (@ac _) rfl) (by decide) (by rfl) (by rfl)))) (@bM _)) (@ae _ _ _ _ _ (@PS.nox _ _ _ (@aL _ _ (3) _ _ _ _ mY.nd rfl (Or.inl iE) (@wv _ _) (by rfl) (by first | exact .inl rfl | exact .inr rfl | assumption))) (@ae _ _ _ _ _ (@PS.nox _ _ _ (@j6 _ _ _ _ _ _ PassesOwn.never (@bj _ _ _ _ _ _ _ _ (@qx _) (@ap _ _ _ _ _ _ _ _ _ _ _ _ _ _ _ _ G_lift_once (hr.mono (by decide)) oZ T.lift_once_.m T.lift_once_.F.kp T.lift_once_.B .nil (@aK _) (@aa _ _ _ _ _ (@pw _ 0 _ _ (Or.inl nQ) (by rfl) (by decide) (by decide)) (@aa _ _ _ _ _ (@pw _ 1 _ _ (Or.inl qK) (by rfl) (by decide) (by decide)) (@aa _ _ _ _ _ (@pw _ 3 _ _ (Or.inl iE) (by rfl) (by decide) (by decide)) (@ac _) rfl) rfl) rfl) (by decide) (by rfl) (by rfl)) (@fK _ _ _) (@aZ _ _ (by decide) (by decide))) (@am _ _ _ (@Ck _ _)))) (@am _ _ _ (@PS.nox _ _ _ (@aM _ _ _ _ (@pw _ 3 _ _ (Or.inl iE) (by rfl) (by decide) (by decide))))))))),?_⟩
  rcases k with ⟨mx,mp,hmx,emx,hmp,emp,k⟩ | ⟨hno,k⟩
  case' inr=>
   refine bO fun Q1 nA1=>⟨_,rfl,v,ls,ts,rfl,hv,tc,h24,l1,l10,.inr ⟨hno,fun R us r0 H1 ok hR s1 f0 h0=>nA1 _ _ ?_⟩⟩
   refine bT fun DA nA=>?_
   refine ⟨_,rfl,rfl,_,rfl,cW ⟨_,rfl,(by show 1≤10000;decide),fun y J1 n1=>⟨y,T.x_Gaining,r0,R.map (fun i:Nat=>(i:Int)),_,rfl,n1.at',T.q_Gaining,T.st_Gaining,by rw [←sr];exact n1.sm _ _ h0,fun p dx J2 J3 n2 hd ne e=>⟨rfl,y,T.x_Gaining,some dx,_,rfl,?_,T.q_Gaining,?_⟩⟩⟩⟩
   ·rw [e];exact aC
   obtain ⟨S3,_,k3⟩:=Hh n1.fr (n1.sm.trans n2.sm) hd ne e
   have py:p≠y:=fun z=>by have q:=n1.at';rw [←z,n2.fr] at q;cases q
   have hp3:=k3 _ _ n2.at' py
   have fy:∀{b:Addr}{o:HO},H1 b=some o→b≠y:=fun q z=>by rw [z,n1.fr] at q;cases q
   refine k R us y dx p _ ok hR (fun b o q=>?_) aC ?_ ?_ ?_
   ·rw [av (fy (s1 _ _ q))];exact S3 _ _ (s1 _ _ q)
   ·rw [av ne,e,av ne];exact aC
   ·cases q:H p with
    | none=>rfl
    | some o=>have z:=n1.sm _ _ (s1 _ _ q);rw [n2.fr] at z;cases z
   ·rw [av py,sr];exact hp3
  refine bO fun Q1 nA1=>⟨_,rfl,v,ls,ts,rfl,hv,tc,h24,l1,l10,.inl ⟨mx,hmx,emx,fun H1 s1=>nA1 _ _ ?_⟩⟩
  refine bT fun DA nA=>?_
  refine ⟨_,rfl,rfl,_,rfl,cm (nA _ _ ?_)⟩
  refine bO fun Q2 nA2=>fun O H2 n2=>nA2 _ _ ?_
  obtain ⟨kv,hW,lW,vW⟩:=dw
  have s2:=s1.trans n2.sm
  have fO:H O=none:=s1.free n2.fr
  have nWO:¬W=O:=fun z=>by rw [←z,hW] at fO;cases fO
  have hW2:=s2 _ _ hW
  have f20:∀{J:Hp},nP W O H2 J→∀a o,a≠W→H a=some o→J a=some o:=fun f a o h1 h=>f a o h1 (fun z=>by rw [z,fO] at h;cases h) (s2 _ _ h)
  refine bT fun DB nB=>?_
  refine mG (fun m σ H'=>∃(i:Nat),σ=[some v,some (.ref W),some .non,some (.ref O)]∧m=mp - i∧i≤mp∧qS H' W ls (gk ts s0 i).ω (10+24*i)∧DO H' O ls (gk ts s0 i).on (10+24*i)∧GW ls (gk ts s0 i).ω (1+144*i)∧nP W O H2 H') _ ⟨0,rfl,rfl,Nat.zero_le _,⟨kv,hW2,by trivial,fun l hl=>⟨fun w e=>let ⟨o,a,b⟩:=(vW l hl).1 w e;⟨o,a,s2 _ _ b⟩,(vW l hl).2⟩⟩,⟨[],n2.at',by simp,fun l hl=>by rw [show (gk ts s0 0).on l=none from on0 l];rfl⟩,gw,fun _ _ _ _ h=>h⟩ ?_
  rintro m σ J ⟨i,rfl,rfl,hi,dw,do',gω,f2⟩ Q D' nD rD qT qF
  have hvJ:bE ED J v (eT ls ts):=hv.mono ⟨fun _ _ n _=>absurd trivial n,fun a us h=>f20 f2 a _ (fun z=>by rw [z,hW] at h;cases h) h⟩
  refine ⟨_,rfl,_,rfl,_,rfl,v,W,O,ls,ts,gk ts s0 i,10+24*i,1+144*i,rfl,hvJ,tc,by trivial,nWO,dw,do',by trivial,gω,by trivial,fun J2 f3 dw2 do2 gω2=>?_⟩
  have es:gM ts (gk ts s0 i)=gk ts s0 (i+1):=rfl
  have gr:GW ls (gM ts (gk ts s0 i)).ω (1+144*(i+1)):=fun l hl w e=>⟨(gω2 l hl w e).1.mono (by trivial) (by trivial),(gω2 l hl w e).2⟩
  have f4:nP W O H2 J2:=fun a o h1 h2 h=>f3 a o h1 h2 (f2 a o h1 h2 h)
  obtain ⟨ko2,hO2,lO2,vO2⟩:=do2
  obtain ⟨kv2,hW3,lW2,vW2⟩:=dw2
  cases e:(gM ts (gk ts s0 i)).lf with
  | none=>
   refine ⟨rfl,_,rfl,qF _ (nB _ _ ⟨_,rfl,?_⟩)⟩
   have eω:=(sT e).1
   rw [eω] at vW2 gr vO2
   exact k i O J2 hi e (f20 f4) fO ⟨kv2,hW3,by trivial,vW2⟩ ⟨ko2,hO2,by trivial,vO2⟩ fun l hl w e=>⟨(gr l hl w e).1.mono (by trivial) (by trivial),(gr l hl w e).2⟩
  | some l=>
   rw [es] at vW2 vO2 gr e
   refine ⟨rfl,_,rfl,qT _ (nD (mp - (i+1)) _ _ ?_ ⟨i+1,rfl,rfl,?_,⟨kv2,hW3,by trivial,vW2⟩,⟨ko2,hO2,by trivial,vO2⟩,gr,f4⟩)⟩
   ·by_cases c:i=mp
    ·rw [c,emp] at e;cases e
    ·trivial
   ·by_cases c:i=mp
    ·rw [c,emp] at e;cases e
    ·trivial
inductive CV (g:Addr) (vs:List V) (H:Hp) (Q:VK) (E:XK):Prop
 | mk (v:V) (ls:List (List Nat)) (ts:List ah) (h0:vs=[v]) (h1:bE ED H v (eT ls ts)) (h2:(∀t∈ts,fA ls t)) (h3:ts.length≤24) (h4:1≤ls.length) (h5:ls.length≤10) (h6:((∃mx,mx<ls.length∧(bN ts (mx+1)).lf=none∧∀(m:Nat) (r:Addr) (xs:List V) (H':Hp),m<ls.length→(bN ts (m+1)).lf=none→aj H H'→H r=none→H' r=some (.lst xs)→xs.length=ls.length→(∀(j:Nat) l,ls[j]?=some l→∃o,xs[j]?=some (.ref o)∧H' o=some (fr ((bN ts m).ω l)))→(∀l∈ls,Gb 1500 1500 ((bN ts m).ω l)∧1≤((bN ts m).ω l).1)→Q (.ref r) H')∨((∀m,m<ls.length→(bN ts (m+1)).lf≠none)∧∀(R:List Nat) (us:List ah) (a dx r:Addr) (H':Hp),iQ ts R us→R.length≤10→aj H H'→H' a=some (mr a g (some dx))→H' dx=some (.xd [("ties",.ref r)])→H r=none→H' r=some (.lst (bX R))→E (.ref g) (some dx) H')))
def FH (g:Addr):Sp:=fun vs H Q E=>CV g vs H Q E
theorem iB (T:Txt K mg):bv P w K mg base (nH P w) 7 T.holding_worths_.f T.holding_worths_.d ["net"] (FH T.x_Gaining):=by
 have G_lift_all:=mX (P:=P) (w:=w) (base:=base) T
 refine T.holding_worths_.F.okX lg (fun vs H Q E h=>?_) (fun cdv A outer s H vs Q E hr h=>?_)
 ·obtain ⟨v,ls,ts,rfl,_⟩:=h
  rfl
 ·obtain ⟨v,ls,ts,rfl,hv,tc,h24,l1,l10,k⟩:=h
  obtain ⟨na,pa,ta,ys,rfl,hna,hpa,hta,ity⟩:=gW hv
  refine ⟨_,(@ae _ _ _ _ _ (@PS.nox _ _ _ (@aL _ _ (1) _ _ _ _ lg.nd rfl (Or.inr ir) (@Au _ _ _ _ _ _ _ _ (["place"]) (1) ([]) _ _ _ _ _ rfl (by kernel_rfl) (@jO _ (K) _ _ _ (@aq _ _ _ _ _ _ _ (@aN _ (K) (by rfl)) (@pw _ 0 _ _ (Or.inl gh) (by rfl) (by decide) (by decide)) (@ad _ _ _ _) (fun _ _=>rfl)) (by rfl)) (fun _ _ _ _ _ _=>(@aw _ _ (0) _ (@cG _ (by kernel_rfl)) rfl (Or.inl (by kernel_rfl)) (by first | exact .inl rfl | exact .inr rfl | assumption))) (fun _ _ _ _ _ _=>@ca _) (fun _ _ _ _ _ _=>(@pw _ 0 _ _ (Or.inl (by kernel_rfl)) (by rfl) (by decide) (by decide))) (fun _ _ _ _ _ _=>(@ax _ _ _ _ _ (@aa _ _ _ _ _ (@ad _ _ _ _) (@aa _ _ _ _ _ (@ad _ _ _ _) (@ac _) rfl) rfl))) (by intro _;rfl)) (by rfl) (by first | exact .inl rfl | exact .inr rfl | assumption))) (@ae _ _ _ _ _ (@fN _ _ _ _ (@ap _ _ _ _ _ _ _ _ _ _ _ _ _ _ _ _ G_lift_all (hr.mono (by decide)) lB T.lift_all_.m T.lift_all_.F.kp T.lift_all_.B .nil (@xS _ _ _ _ _ _ _ _ _ _ _ _ _ _ _) (@aa _ _ _ _ _ (@pw _ 0 _ _ (Or.inl gh) (by rfl) (by decide) (by decide)) (@aa _ _ _ _ _ (@pw _ 1 _ _ (Or.inr (Or.inl ir)) (by rfl) (by decide) (by decide)) (@ac _) rfl) rfl) (by decide) (by rfl) (by rfl)) (by rfl)) (@am _ _ _ (@PS.nox _ _ _ (@aM _ _ _ _ (@ft _ _ _ _ _ _ _ (["place", "worths"]) (1) ([1]) _ _ _ _ rfl (by kernel_rfl) (@jO _ (K) _ _ _ (@aq _ _ _ _ _ _ _ (@aN _ (K) (by rfl)) (@pw _ 0 _ _ (Or.inl gh) (by rfl) (by decide) (by decide)) (@ad _ _ _ _) (fun _ _=>rfl)) (by rfl)) (fun _ _ _ _ _ _=>(@aw _ _ (0) _ (@cG _ (by kernel_rfl)) rfl (Or.inl (by kernel_rfl)) (by first | exact .inl rfl | exact .inr rfl | assumption))) (fun _ _ _ _ _ _=>@ca _) (fun _ _ _ _ _ _=>(@aq _ _ _ _ _ _ _ (@ia _) (@pw _ 1 _ _ (Or.inr (Or.inl (by kernel_rfl))) (by rfl) (by decide) (by decide)) (@pw _ 0 _ _ (Or.inl (by kernel_rfl)) (by rfl) (by decide) (by decide)) (fun _ _=>rfl))) (by intro _;rfl))))))),?_⟩
  refine bO fun Q1 nA1=>⟨_,rfl,na,_,_,_,rfl,rfl,au.of hna,rfl,pa,rfl,⟨_,au.of hpa⟩,fun W hW=>sW (n:=(ls.map aD).length) (fun i H' kv=>H' W=some (.dK kv)∧kv.length≤i∧(∀(j:Nat) l,j<i→ls[j]?=some l→∃o,valD kv (Sum.inr (S l))=some (.ref o)∧H' o=some (fr (1,1)))∧aj H H') (by rw [List.length_map];trivial) ⟨aC,Nat.le_refl _,(fun j l h=>by trivial),aj.new hW⟩ ?_ ?_ ?_ ?_ ?_⟩
  ·rintro i H' kv ⟨e1,e2,_⟩
   exact ⟨e1,e2⟩
  ·rintro i H' kv hi ⟨_,_,_,sm⟩
   exact ⟨_,_,au.of (sm _ _ hpa),List.getElem?_eq_getElem hi⟩
  ·rintro H' kv ⟨_,_,_,sm⟩
   exact ⟨_,au.of (sm _ _ hpa),Nat.le_refl _⟩
  ·rintro i Ha kv x Hb hi ⟨eW,lW,vW,sm⟩ ⟨rfl,ex⟩
   have exi:=ex _ (au.of (sm _ _ hpa))
   rw [List.length_map] at hi
   rw [List.getElem?_map,List.getElem?_eq_getElem hi] at exi
   obtain rfl:aD ls[i]=x:=Option.some.inj exi
   refine ⟨fF,_,rfl,Sum.inr (S ls[i]),rfl,(by show 2≤10000;decide),fun q J n1=>⟨n1.sm _ _ eW,aC,?_,fun j l hj el=>?_,gc hW (sm.trans n1.sm)⟩⟩
   ·exact Nat.le_trans (oE _ _ _) (by trivial)
   ·have tupU:∀{a:Addr}{us:List V},J a=some (.tup us)→aI J W (.dK (dL kv (Sum.inr (S ls[i])) (.ref q))) a=some (.tup us):=fun {a us} h=>by
     rw [av (fun z=>by rw [z,n1.sm _ _ eW] at h;cases h)];exact h
    rw [mO]
    by_cases c:l=ls[i]
    ·rw [c,if_pos rfl]
     exact ⟨q,rfl,tupU n1.at'⟩
    ·rw [if_neg (pM c)]
     have hji:j<i:=by
      by_cases z:j=i
      ·subst z
       rw [List.getElem?_eq_getElem hi] at el
       exact absurd (Option.some.inj el).symm c
      ·trivial
     obtain ⟨o,v',h'⟩:=vW j l hji el
     exact ⟨o,v',tupU (n1.sm _ _ h')⟩
  rintro H1 kv ⟨eW,lW,vW,s1⟩
  rw [List.length_map] at lW vW
  refine nA1 _ _ ?_
  refine bT fun DA nA=>?_
  have dw0:DW H1 W ls (fun _=>(1,1)) 10:=⟨kv,eW,by trivial,fun l hl=>by
   obtain ⟨j,hj⟩:=List.getElem?_of_mem hl
   obtain ⟨o,v',h'⟩:=vW j l (List.getElem?_eq_some_iff.mp hj).1 hj
   exact ⟨o,v',h'⟩⟩
  have gw0:GW ls (gL sw).ω 1:=tD.mpr fun l hl=>⟨sf,(by show (1:Int)≤1;decide)⟩
  rcases k with ⟨mx,hmx,emx,k⟩ | ⟨hno,k⟩
  case' inr=>
   exact ⟨_,rfl,_,rfl,.ref na,W,ls,ts,gL sw,rfl,hv.mono s1.toE,tc,h24,l1,l10,oz.mpr dw0,gw0,fun _=>rfl,.inr ⟨hno,fun R us a dx r H' ok hR sm ha hdx fr hr'=>k R us a dx r H' ok hR (s1.trans sm) ha hdx (s1.free fr) hr'⟩⟩
  refine ⟨_,rfl,_,rfl,.ref na,W,ls,ts,gL sw,rfl,hv.mono s1.toE,tc,h24,l1,l10,oz.mpr dw0,gw0,fun _=>rfl,.inl ⟨mx,mx,hmx,emx,by trivial,by rw [oq];exact emx,fun m O H3 hm em f3 _ dw3 _ g3=>nA _ _ ?_⟩⟩
  rw [oq] at em dw3 g3
  replace dw3:=oz.mp dw3
  replace g3:=tD.mp g3
  have em:(bN ts (m+1)).lf=none:=em
  have hm:m<ls.length:=by trivial
  have s3:aj H H3:=fun a o h=>f3 a o (fun z=>by rw [z,hW] at h;cases h) (s1 _ _ h)
  obtain ⟨kv3,eW3,lW3,vW3⟩:=dw3
  refine ⟨_,rfl,na,_,_,_,rfl,rfl,au.of (s3 _ _ hna),rfl,pa,rfl,⟨_,au.of (s3 _ _ hpa)⟩,fun D hD=>qf (n:=(ls.map aD).length) (fun i H' zs=>H' D=some (.lst zs)∧zs.length=i∧(∀(j:Nat) l,j<i→ls[j]?=some l→∃o,zs[j]?=some (.ref o)∧H' o=some (fr ((bN ts m).ω l)))∧aj H3 H') (fE (by rw [List.length_map];trivial)) ⟨aC,rfl,(fun j l h=>by trivial),aj.new hD⟩ ?_ ?_ ?_ ?_ ?_⟩
  ·rintro i H' zs ⟨e1,e2,_⟩
   exact ⟨e1,by trivial⟩
  ·rintro i H' zs hi ⟨_,_,_,sm⟩
   exact ⟨_,_,au.of (sm _ _ (s3 _ _ hpa)),List.getElem?_eq_getElem hi⟩
  ·rintro H' zs ⟨_,_,_,sm⟩
   exact ⟨_,au.of (sm _ _ (s3 _ _ hpa)),Nat.le_refl _⟩
  ·rintro i H' zs x H'' hi ⟨hD',lz,vz,sm⟩ ⟨rfl,ex⟩
   have exi:=ex _ (au.of (sm _ _ (s3 _ _ hpa)))
   rw [List.length_map] at hi
   rw [List.getElem?_map,List.getElem?_eq_getElem hi] at exi
   obtain rfl:aD ls[i]=x:=Option.some.inj exi
   obtain ⟨o,vo,ho⟩:=vW3 ls[i] (List.getElem_mem _)
   refine ⟨fF,_,rfl,_,rfl,W,kv3,Sum.inr (S ls[i]),.ref o,rfl,rfl,sm _ _ eW3,vo,hD',aC,by simp [lz],fun j l hj el=>?_,gc hD sm⟩
   have tupU:∀{a:Addr}{us:List V},H'' a=some (.tup us)→aI H'' D (.lst (zs++[.ref o])) a=some (.tup us):=fun {a us} h=>by
    rw [av (fun z=>by rw [z,hD'] at h;cases h)];exact h
   by_cases c:j=i
   ·subst c
    rw [List.getElem?_eq_getElem hi] at el
    obtain rfl:=Option.some.inj el
    exact ⟨o,by rw [←lz];simp,tupU (sm _ _ ho)⟩
   ·obtain ⟨o',v',h'⟩:=vz j l (by trivial) el
    exact ⟨o',by rw [List.getElem?_append_left (by trivial)];exact v',tupU h'⟩
  ·rintro H' zs ⟨e1,lz,vz,sm⟩
   rw [List.length_map] at lz
   refine k m D zs H' hm em (s3.trans sm) (s3.free hD) e1 lz (fun j l el=>vz j l (by rw [List.length_map];exact (List.getElem?_eq_some_iff.mp el).1) el) g3
end
end K14
namespace K14
open PySem L2
section
variable {P:Program}{w:World}{K:PySem.W.Frag}{mg:Str→Option Value}{base:Heap}
inductive zw (vs:List V) (H:Hp) (Q:VK):Prop
 | mk (v:V) (ls:List (List Nat)) (ts:List ah) (h0:vs=[v]) (h1:bE ED H v (eT ls ts)) (h2:(∀t∈ts,fA ls t)) (h3:ts.length≤24) (h4:1≤ls.length) (h5:ls.length≤10) (h6:((∃mx,mx<ls.length∧(bN ts (mx+1)).lf=none∧∀H',aj H H'→Q .non H')∨((∀m,m<ls.length→(bN ts (m+1)).lf≠none)∧∀(R:List Nat) (us:List ah) (r:Addr) (H':Hp),iQ ts R us→R.length≤10→aj H H'→H r=none→H' r=some (.lst (bX R))→Q (.ref r) H')))
def zZ:Sp:=fun vs H Q _=>zw  vs H Q
theorem wO (T:Txt K mg):bv P w K mg base CX0 8 T.l_caught_.f T.l_caught_.d ["_law_net"] zZ:=by
 have G_holding_worths:=iB (P:=P) (w:=w) (base:=base) T
 refine T.l_caught_.F.ok j9 (fun vs H Q E h=>?_) (fun cdv A outer s H vs Q E hr h=>?_)
 ·obtain ⟨v,ls,ts,rfl,_⟩:=h
  rfl
 ·obtain ⟨v,ls,ts,rfl,hv,tc,h24,l1,l10,k⟩:=h
  refine ⟨_,(@ae _ _ _ _ _ (@aL _ _ (1) _ _ _ _ j9.nd rfl (Or.inl d8) (@fK _ _ _) (by rfl) (by first | exact .inl rfl | exact .inr rfl | assumption)) (@ae _ _ _ _ _ (@DK _ _ _ _ _ _ _ _ _ _ _ _ (2) rfl rfl j9.nd rfl lX ql T.m_Gaining (fun EE pn xe hx=>(@am _ _ _ (@fN _ _ _ _ (@zQ _ _ _ _ _ _ _ _ _ _ _ _ _ _ G_holding_worths (hr.mono (by decide)) li T.holding_worths_.m T.holding_worths_.F.kp T.holding_worths_.B hx (@aa _ _ _ _ _ (@pw _ 0 _ _ (Or.inl rj) (by rfl) (by decide) (by decide)) (@ac _) rfl) (by decide) (by rfl) (by rfl)) (by rfl)))) (fun _=>(@am _ _ _ (@aL _ _ (1) _ _ _ _ j9.nd rfl (Or.inl d8) (@y9 _ (K) _ _ _ _ (@pw _ 2 _ _ (Or.inl lX) (by rfl) (by decide) (by decide)) (by rfl) (by rfl)) (by rfl) (by first | exact .inl rfl | exact .inr rfl | assumption)))) (by decide)) (@am _ _ _ (@aM _ _ _ _ (@pw _ 1 _ _ (Or.inl d8) (by rfl) (by decide) (by decide)))))),?_⟩
  refine bO fun Q1 n1=>n1 _ _ ?_
  refine bT fun DA nA=>?_
  refine ⟨_,rfl,v,ls,ts,rfl,hv,tc,h24,l1,l10,?_⟩
  rcases k with ⟨mx,hmx,emx,k⟩ | ⟨hno,k⟩
  ·exact .inl ⟨mx,hmx,emx,fun m r xs H1 _ _ s1 _ _ _ _ _=>nA _ _ ⟨_,rfl,k H1 s1⟩⟩
  ·refine .inr ⟨hno,fun R us a dx r H1 ok hR s1 ha hdx fr1 hr1=>?_⟩
   intro a' C' eC ha'
   cases eC
   exact ⟨T.em_Gaining_Gaining,⟨_,rfl,a',T.x_Gaining,dx,_,_,rfl,ha',hdx,Hf,T.fd_Gaining,nA _ _ ⟨_,rfl,k R us r H1 ok hR s1 fr1 hr1⟩⟩⟩
end
end K14
namespace K14
open PySem L2
set_option maxHeartbeats 4000000
theorem Ep {i j:Int}:decide (oC i j≤0)=decide (i≤j):=by
 unfold oC
 by_cases h:i<j
 ·rw [if_pos h,decide_eq_true (Int.le_of_lt h)];rfl
 ·rw [if_neg h]
  by_cases q:i > j
  ·rw [if_pos q,decide_eq_false (Int.not_le.mpr q)];rfl
  ·rw [if_neg q,decide_eq_true (Int.not_lt.mp q)];rfl
section
variable {P:Program}{w:World}{K:PySem.W.Frag}{mg:Str→Option Value}{base:Heap}
structure Wh (H:Hp) (W:Addr) (ls:List (List Nat)) (ω:List Nat→KM.Fra) (c:Nat):Prop where
 d:∃kvs,H W=some (.dK kvs)∧∀l∈ls,∃o,valD kvs (Sum.inr (S l))=some (.ref o)∧H o=some (fr (ω l))
 g:∀l∈ls,Gb c c (ω l)∧1≤(ω l).1
theorem Wh.sm {H H':Hp}{W:Addr}{ls:List (List Nat)}{ω:List Nat→KM.Fra}{c:Nat} (h:Wh H W ls ω c) (s:aj H H'):Wh H' W ls ω c:=
 ⟨let ⟨kvs,h1,h2⟩:=h.d;⟨kvs,s _ _ h1,fun l hl=>let ⟨o,a,b⟩:=h2 l hl;⟨o,a,s _ _ b⟩⟩,h.g⟩
inductive Aw (vs:List V) (H:Hp) (Q:VK):Prop
 | mk (v:V) (W:Addr) (ls:List (List Nat)) (t:ah) (ω:List Nat→KM.Fra) (h0:vs=[v,.ref W]) (h1:bE ED H v (dG t)) (h2:fA ls t) (h3:Wh H W ls ω 1500) (h4:fW ω t=false) (h5:∀H',aj H H'→Q (.bl true) H')
def Cf:Sp:=fun vs H Q _=>Aw  vs H Q
theorem AR (T:Txt K mg):bv P w K mg base CX0 4 T.holds_.f T.holds_.d ["tie", "worths"] Cf:=by
 have G_is_shut:=sR (P:=P) (w:=w) (base:=base) T
 have G_times:=ww (P:=P) (w:=w) (base:=base) T
 have G_compared:=qZ (P:=P) (w:=w) (base:=base) T
 refine T.holds_.F.ok Ay (fun vs H Q E h=>?_) (fun cdv A outer s H vs Q E hr h=>?_)
 ·obtain ⟨v,W,ls,t,ω,rfl,_⟩:=h
  rfl
 ·obtain ⟨v,W,ls,t,ω,rfl,hv,tt,wh,lf,k⟩:=h
  obtain ⟨o,om,og,op,rfl,ho,hom,hog,hop⟩:=gf hv
  obtain ⟨⟨kvs,hW,vW⟩,gω⟩:=wh
  obtain ⟨oe,ve,hoe⟩:=vW t.en tt.e
  obtain ⟨ob,vb,hob⟩:=vW t.bg tt.b
  obtain ⟨ge,pe1⟩:=gω t.en tt.e
  obtain ⟨gb,pb1⟩:=gω t.bg tt.b
  obtain ⟨g1,g2⟩:=gz tt.fg (by decide) (by decide)
  obtain ⟨e1,e2⟩:=gz ge (by decide) (by decide)
  obtain ⟨b1,b2⟩:=gz gb (by decide) (by decide)
  refine ⟨_,(@am _ _ _ (@aM _ _ _ _ (@FK _ _ _ _ _ _ _ (@ap _ _ _ _ _ _ _ _ _ _ _ _ _ _ _ _ G_is_shut (hr.mono (by decide)) sG T.is_shut_.m T.is_shut_.F.kp T.is_shut_.B .nil (@aK _) (@aa _ _ _ _ _ (@pw _ 0 _ _ (Or.inl kf) (by rfl) (by decide) (by decide)) (@ac _) rfl) (by decide) (by rfl) (by rfl)) (@kI _ _ _ _ _ (@cO _ _ _ _ _ _ _ _ (@FC _) (@ap _ _ _ _ _ _ _ _ _ _ _ _ _ _ _ _ G_compared (hr.mono (by decide)) rJ T.compared_.m T.compared_.F.kp T.compared_.B .nil (@aK _) (@aa _ _ _ _ _ (@ap _ _ _ _ _ _ _ _ _ _ _ _ _ _ _ _ G_times (hr.mono (by decide)) uU T.times_.m T.times_.F.kp T.times_.B .nil (@aK _) (@aa _ _ _ _ _ (@aq _ _ _ _ _ _ _ (@aN _ (K) (by rfl)) (@pw _ 0 _ _ (Or.inl kf) (by rfl) (by decide) (by decide)) (@ad _ _ _ _) (fun _ _=>rfl)) (@aa _ _ _ _ _ (@aq _ _ _ _ _ _ _ (@ia _) (@pw _ 1 _ _ (Or.inl nX) (by rfl) (by decide) (by decide)) (@aq _ _ _ _ _ _ _ (@aN _ (K) (by rfl)) (@pw _ 0 _ _ (Or.inl kf) (by rfl) (by decide) (by decide)) (@ad _ _ _ _) (fun _ _=>rfl)) (fun _ _=>rfl)) (@ac _) rfl) rfl) (by decide) (by rfl) (by rfl)) (@aa _ _ _ _ _ (@aq _ _ _ _ _ _ _ (@ia _) (@pw _ 1 _ _ (Or.inl nX) (by rfl) (by decide) (by decide)) (@aq _ _ _ _ _ _ _ (@aN _ (K) (by rfl)) (@pw _ 0 _ _ (Or.inl kf) (by rfl) (by decide) (by decide)) (@ad _ _ _ _) (fun _ _=>rfl)) (fun _ _=>rfl)) (@ac _) rfl) rfl) (by decide) (by rfl) (by rfl)) (@ad _ _ _ _) (@aZ _ _ (by decide) (by decide))))))),?_⟩
  refine ⟨_,rfl,.ref o,t,ls,rfl,hv,tt,fun H1 s1=>⟨_,rfl,?_⟩⟩
  by_cases hs:t.most=(0,1)
  ·rw [decide_eq_true hs]
   refine cW ?_
   exact k H1 s1
  ·rw [decide_eq_false hs]
   refine cm ⟨_,rfl,o,_,_,_,rfl,rfl,au.of (s1 _ _ ho),rfl,_,rfl,_,rfl,o,_,_,_,rfl,rfl,au.of (s1 _ _ ho),rfl,W,kvs,Sum.inr (S t.en),.ref oe,rfl,rfl,s1 _ _ hW,ve,og,oe,_,_,_,_,rfl,s1 _ _ hog,s1 _ _ hoe,⟨g1,g2,e1,e2,gd tt.fg ge⟩,fun q H2 n2=>?_⟩
   have gq:Gb 1506 1506 (KM.lTim t.gain (ω t.en)):=tt.fg.tim ge (by decide) (by decide)
   obtain ⟨q1,q2⟩:=gz gq (by decide) (by decide)
   have s2:=s1.trans n2.sm
   refine ⟨_,rfl,_,rfl,o,_,_,_,rfl,rfl,au.of (s2 _ _ ho),rfl,W,kvs,Sum.inr (S t.bg),.ref ob,rfl,rfl,s2 _ _ hW,vb,q,ob,_,_,_,_,rfl,n2.at',s2 _ _ hob,q1,q2,b1,b2,_,_,rfl,rfl,?_⟩
   have ek:decide (oC ((KM.lTim t.gain (ω t.en)).1*(ω t.bg).2) ((ω t.bg).1*(KM.lTim t.gain (ω t.en)).2)≤0)=true:=by
    rw [Ep]
    unfold fW at lf
    rw [decide_eq_true hs,Bool.true_and] at lf
    exact decide_eq_true (Int.not_lt.mp (of_decide_eq_false lf))
   exact Eq.mp (congrArg (fun b=>Q (.bl b) H2) ek.symm) (k H2 s2)
theorem ES (ls:List (List Nat)):(ls.map fun l=>(Sum.inr (S l):bp)).map jv=ls.map aD:=by
 rw [List.map_map];rfl
theorem A3 {ls:List (List Nat)} (h:ls.Nodup):(ls.map fun l=>(Sum.inr (S l):bp)).Nodup:=by
 rw [List.nodup_iff_pairwise_ne,List.pairwise_map]
 refine List.Pairwise.imp (fun {a b} hab z=>?_) (List.nodup_iff_pairwise_ne.mp h)
 injection z with z
 exact hab (qy z)
inductive Am (vs:List V) (H:Hp) (Q:VK):Prop
 | mk (v:V) (r:Addr) (xs:List V) (ls:List (List Nat)) (ts:List ah) (ω:vS) (h0:vs=[v,.ref r]) (h1:bE ED H v (eT ls ts)) (h2:(∀t∈ts,fA ls t)) (h3:ts.length≤40) (h4:ls.length≤40) (h5:ls.Nodup) (h6:H r=some (.lst xs)) (h7:xs.length=ls.length) (h8:(∀(j:Nat) l,ls[j]?=some l→∃o,xs[j]?=some (.ref o)∧H o=some (fr (ω l)))) (h9:(∀l∈ls,Gb 1500 1500 (ω l)∧1≤(ω l).1)) (h10:(∀l∈ls,KM.Rd (ω l))) (h11:(∀t∈ts,fW ω t=false)) (h12:∀H',aj H H'→Q (.bl true) H')
def Bw:Sp:=fun vs H Q _=>Am  vs H Q
theorem zg (n:Nat):((List.range n).map fun _=>V.bl true)=(List.replicate n true).map V.bl:=by
 rw [List.map_replicate]
 apply List.ext_getElem
 ·simp
 ·intro i h1 h2
  simp
theorem zP (n:Nat):(List.replicate n true).all id=true:=by
 rw [List.all_eq_true]
 intro x hx
 exact (List.mem_replicate.mp hx).2
theorem rh (T:Txt K mg):bv P w K mg base CX0 5 T.shows_holding_.f T.shows_holding_.d ["net", "thing"] Bw:=by
 have G_is_above_nought:=qg (P:=P) (w:=w) (base:=base) T
 have G_holds:=AR (P:=P) (w:=w) (base:=base) T
 refine T.shows_holding_.F.ok mm (fun vs H Q E h=>?_) (fun cdv A outer s H vs Q E hr h=>?_)
 ·obtain ⟨v,r,xs,ls,ts,ω,rfl,_⟩:=h
  rfl
 ·obtain ⟨v,r,xs,ls,ts,ω,rfl,hv,tc,h40,l40,nd,hr',lx,vx,gω,rω,lf,k⟩:=h
  obtain ⟨na,pa,ta,ys,rfl,hna,hpa,hta,ity⟩:=gW hv
  have lys:ys.length=ts.length:=by rw [ity.length,List.length_map]
  refine ⟨_,(@ae _ _ _ _ _ (@cK _ _ _ _ _ _ _ _ (@PW.pt _ _ _ (@mP _ _ _ _ _ _ _ (@iI _ _ _ _ (@fh _ _ _ (@be _ _ _ _ _ _ _ _ _ (@lM _ (K) (by rfl)) kO T.b_isinstance (@dH) (@aa _ _ _ _ _ (@pw _ 1 _ _ (Or.inl dz) (by rfl) (by decide) (by decide)) (@aa _ _ _ _ _ (@sx _ _ _ _ oD T.b_list (@hV) (by decide) (by decide)) (@ac _) rfl) rfl) (by decide) (by decide) (by rfl) (by rfl)) (by intro _;rfl))) (@km _ _ _ _ (@bj _ _ _ _ _ _ _ _ (@vj _) (@be _ _ _ _ _ _ _ _ _ (@ju _ (K) (by rfl)) jK T.b_len (@cq) (@aa _ _ _ _ _ (@pw _ 1 _ _ (Or.inl dz) (by rfl) (by decide) (by decide)) (@ac _) rfl) (by decide) (by decide) (by rfl) (by rfl)) (@be _ _ _ _ _ _ _ _ _ (@ju _ (K) (by rfl)) jK T.b_len (@cq) (@aa _ _ _ _ _ (@aq _ _ _ _ _ _ _ (@aN _ (K) (by rfl)) (@pw _ 0 _ _ (Or.inl gH) (by rfl) (by decide) (by decide)) (@ad _ _ _ _) (fun _ _=>rfl)) (@ac _) rfl) (by decide) (by decide) (by rfl) (by rfl)) (@aZ _ _ (by decide) (by decide)))))) (@am _ _ _ (@aM _ _ _ _ (@ig _ _ _ _))) (@bM _)) (@ae _ _ _ _ _ (@cK _ _ _ _ _ _ _ _ (@iI _ _ _ _ (@fh _ _ _ (@be _ _ _ _ _ _ _ _ _ (@Be _ (K) rfl (by rfl)) jJ T.b_all (@sB) (@aa _ _ _ _ _ (@ft _ _ _ _ _ _ _ (["worth"]) (1) ([]) _ _ _ _ rfl (by kernel_rfl) (@kh _ (K) _ _ _ (@pw _ 1 _ _ (Or.inl dz) (by rfl) (by decide) (by decide)) (by rfl)) (fun _ _ _ _ _ _=>(@aw _ _ (0) _ (@cG _ (by kernel_rfl)) rfl (Or.inl (by kernel_rfl)) (by first | exact .inl rfl | exact .inr rfl | assumption))) (fun _ _ _ _ _ _=>@ca _) (fun _ _ _ _ _ _=>(@ap _ _ _ _ _ _ _ _ _ _ _ _ _ _ _ _ G_is_above_nought (hr.mono (by decide)) (by show _=_;kernel_rfl) T.is_above_nought_.m T.is_above_nought_.F.kp T.is_above_nought_.B .nil (@aK _) (@aa _ _ _ _ _ (@pw _ 0 _ _ (Or.inl (by kernel_rfl)) (by rfl) (by decide) (by decide)) (@ac _) rfl) (by decide) (by rfl) (by rfl))) (by intro _;rfl)) (@ac _) rfl) (by decide) (by decide) (by rfl) (by rfl)) (by intro _;rfl))) (@am _ _ _ (@aM _ _ _ _ (@ig _ _ _ _))) (@bM _)) (@ae _ _ _ _ _ (@aL _ _ (2) _ _ _ _ mm.nd rfl (Or.inr nh) (@yr _ (K) _ _ _ _ _ _ _ rfl oF T.b_dict pp T.b_zip (@aa _ _ _ _ _ (@aq _ _ _ _ _ _ _ (@aN _ (K) (by rfl)) (@pw _ 0 _ _ (Or.inl gH) (by rfl) (by decide) (by decide)) (@ad _ _ _ _) (fun _ _=>rfl)) (@aa _ _ _ _ _ (@pw _ 1 _ _ (Or.inl dz) (by rfl) (by decide) (by decide)) (@ac _) rfl) rfl) (by rfl) (by rfl) (by rfl) (by rfl)) (by rfl) (by first | exact .inl rfl | exact .inr rfl | assumption)) (@am _ _ _ (@aM _ _ _ _ (@be _ _ _ _ _ _ _ _ _ (@Be _ (K) rfl (by rfl)) jJ T.b_all (@sB) (@aa _ _ _ _ _ (@ft _ _ _ _ _ _ _ (["tie", "worths"]) (1) ([2]) _ _ _ _ rfl (by kernel_rfl) (@jO _ (K) _ _ _ (@aq _ _ _ _ _ _ _ (@aN _ (K) (by rfl)) (@pw _ 0 _ _ (Or.inl gH) (by rfl) (by decide) (by decide)) (@ad _ _ _ _) (fun _ _=>rfl)) (by rfl)) (fun _ _ _ _ _ _=>(@aw _ _ (0) _ (@cG _ (by kernel_rfl)) rfl (Or.inl (by kernel_rfl)) (by first | exact .inl rfl | exact .inr rfl | assumption))) (fun _ _ _ _ _ _=>@ca _) (fun _ _ _ _ _ _=>(@ap _ _ _ _ _ _ _ _ _ _ _ _ _ _ _ _ G_holds (hr.mono (by decide)) (by show _=_;kernel_rfl) T.holds_.m T.holds_.F.kp T.holds_.B .nil (@aK _) (@aa _ _ _ _ _ (@pw _ 0 _ _ (Or.inl (by kernel_rfl)) (by rfl) (by decide) (by decide)) (@aa _ _ _ _ _ (@pw _ 1 _ _ (Or.inr (Or.inl (by kernel_rfl))) (by rfl) (by decide) (by decide)) (@ac _) rfl) rfl) (by decide) (by rfl) (by rfl))) (by intro _;rfl)) (@ac _) rfl) (by decide) (by decide) (by rfl) (by rfl))))))),?_⟩
  refine bT fun DA nA=>⟨_,rfl,_,_,_,_,rfl,.lst hr',vT (.list []),_,rfl,cm ⟨_,rfl,r,xs,rfl,.inl (aG.of hr'),_,rfl,na,_,_,_,rfl,rfl,au.of hna,rfl,pa,_,rfl,.inr (au.of hpa),rfl,_,rfl,?_⟩⟩
  have ee:(!decide (V.int (xs.length:Int)=V.int ((ls.map aD).length:Int)))=false:=by
   rw [List.length_map,lx,decide_eq_true rfl];rfl
  rw [ee]
  refine cm (nA _ _ ?_)
  refine bT fun DB nB=>⟨_,rfl,r,rfl,⟨_,aG.of hr'⟩,fun D hD=>zy (xs:=xs) (fun _=>.bl true) (by trivial) hD hr' ?_ ?_⟩
  ·intro i x H' R hxi sm kk
   have hi:i<ls.length:=by rw [←lx];exact (List.getElem?_eq_some_iff.mp hxi).1
   obtain ⟨o,e1,e2⟩:=vx i _ (List.getElem?_eq_getElem hi)
   rw [hxi] at e1
   cases e1
   exact ⟨fF,_,rfl,o,_,rfl,sm _ _ e2,rω _ (List.getElem_mem _),(gω _ (List.getElem_mem _)).2,kk H' (aj.refl _)⟩
  intro H1 s1 hD1
  rw [zg] at hD1
  refine ⟨D,_,rfl,aG.of hD1,_,rfl,?_⟩
  rw [zP]
  refine cm (nB _ _ ?_)
  refine bO fun Q3 nA3=>⟨_,rfl,na,_,_,_,rfl,rfl,au.of (s1 _ _ hna),rfl,_,rfl,pa,r,false,true,ls.map fun l=>(Sum.inr (S l):bp),xs,rfl,?_,aG.of (s1 _ _ hr'),by rw [List.length_map];trivial,A3 nd,by rw [List.length_map];trivial,fun W H2 n2=>nA3 _ _ ?_⟩
  ·rw [ES];exact au.of (s1 _ _ hpa)
  have s2:=s1.trans n2.sm
  have wh:Wh H2 W ls ω 1500:=⟨⟨_,n2.at',fun l hl=>by
   obtain ⟨j,hj⟩:=List.getElem?_of_mem hl
   obtain ⟨o,e1,e2⟩:=vx j l hj
   exact ⟨o,wz (i:=j) (A3 nd) (by rw [List.getElem?_map,hj];rfl) e1,s2 _ _ e2⟩⟩,gω⟩
  refine ⟨_,rfl,na,_,_,_,rfl,rfl,au.of (s2 _ _ hna),rfl,ta,rfl,⟨_,au.of (s2 _ _ hta)⟩,fun D2 hD2=>y6 (xs:=ys) (fun _=>.bl true) (by trivial) hD2 (s2 _ _ hta) ?_ ?_⟩
  ·intro i x H' R hxi sm kk
   obtain ⟨dx,e1,g1⟩:=ity.get hxi
   rw [List.getElem?_map] at e1
   obtain ⟨t,et,rfl⟩:=Option.map_eq_some_iff.mp e1
   have ht:=List.mem_of_getElem? et
   exact ⟨fF,_,rfl,_,rfl,x,W,ls,t,ω,rfl,(g1.sm s2).sm sm,tc t ht,wh.sm sm,lf t ht,fun H4 s4=>kk H4 s4⟩
  ·intro H3 s3 hD3
   rw [zg] at hD3
   refine ⟨D2,_,rfl,aG.of hD3,?_⟩
   rw [zP]
   exact k H3 (s2.trans s3)
end
end K14
namespace K14
open PySem L2
set_option maxHeartbeats 4000000
def sE (le:List Nat):LP:=⟨fun l=>if l=le then some (1,1) else none,fun _=>none,none⟩
structure RS (ts:List ah) (le:List Nat) (s:LP):Prop where
 pv:PV ts (sE le).ω s
 cl:∀t∈ts,t.most≠(0,1)→Cl s t
structure xn (ls:List (List Nat)) (ts:List ah) (rk:List Nat→Nat):Prop where
 dn:∀t∈ts,rk t.en<rk t.bg
 lt:∀t∈ts,rk t.en<9
theorem x5 (ts:List ah) (le:List Nat):PV ts (sE le).ω (sE le):=by
 refine ⟨fun l w e=>?_,fun _ _=>rfl,(fun l k e=>by cases e),fun l w e=>⟨w,e,Rat.le_refl⟩⟩
 have e:(if l=le then some ((1,1):KM.Fra) else none)=some w:=e
 by_cases c:l=le
 ·rw [if_pos c] at e
  cases e
  exact ⟨by decide,by show (1:Int)≤1;decide,by show Int.gcd 1 1=1;decide⟩
 ·rw [if_neg c] at e;cases e
inductive qR (ts:List ah) (le:List Nat) (on:List Nat→Option Nat):List Nat→List Nat→Prop
 | nil:qR ts le on le []
 | cons {p k t R}:p≠le→on p=some k→ts[k]?=some t→qR ts le on t.en R→qR ts le on p (k :: R)
theorem RS.step {ts:List ah}{le:List Nat}{s:LP} (h:RS ts le s) {p:List Nat}{w:KM.Fra} (ne:p≠le) (e:s.ω p=some w):jq fun k t we=>s.on p=some k∧ts[k]?=some t∧t.most≠(0,1)∧t.bg=p∧s.ω t.en=some we∧KM.vl w≤gR t*KM.vl we:=by
 cases q:s.on p with
 | none=>
  have z:=h.pv.no p q
  rw [e] at z
  have z:some w=if p=le then some (1,1) else none:=z
  rw [if_neg ne] at z
  cases z
 | some k=>
  obtain ⟨t,w',we,e1,e2,e3,e4,e5,e6⟩:=h.pv.on p k q
  rw [e] at e4
  cases e4
  exact ⟨k,t,we,rfl,e1,e2,e3,e5,e6⟩
section
variable {P:Program}{w:World}{K:PySem.W.Frag}{mg:Str→Option Value}{base:Heap}
theorem wA {ls:List (List Nat)}{ts:List ah}{rk:List Nat→Nat}{le:List Nat}{g:Addr}{H:Hp}{Q:VK}{E:XK}{v:V}{W:Addr}{o:Addr} (hv:bE ED H v (eT ls ts)) (tc:∀t∈ts,fA ls t) (h24:ts.length≤24) (l1:1≤ls.length) (l10:ls.length≤10)
 (gr:xn ls ts rk) (hW:H W=some (.dK [(Sum.inr (S le),.ref o)])) (ho:H o=some (fr (1,1)))
 (k:∀(s:LP) (O:Addr) (H':Hp),RS ts le s→(∀a o,a≠W→H a=some o→H' a=some o)→H O=none→qS H' W ls s.ω 300→DO H' O ls s.on 300→GW ls s.ω 1500→Q (.ref O) H'):yI g [v,.ref W] H Q E:=by
 have tk:∀t∈ts,dR ls t:=fun t ht=>(tc t ht).tok
 refine ⟨v,W,ls,ts,sE le,rfl,hv,tc,h24,l1,l10,⟨_,hW,by show 1≤10;decide,fun l hl=>?_⟩,fun l hl w e=>?_,fun _=>rfl,?_⟩
 ·have e1:valD [((Sum.inr (S le):bp),V.ref o)] (Sum.inr (S l))=if l=le then some (.ref o) else none:=by
   by_cases c:l=le
   ·subst c;rw [if_pos rfl];unfold valD;rw [List.find?_cons,decide_eq_true rfl];rfl
   ·have n:¬(Sum.inr (S le):bp)=Sum.inr (S l):=pM fun z=>c z.symm
    rw [if_neg c];unfold valD;rw [List.find?_cons,decide_eq_false n];rfl
  have e2:(sE le).ω l=if l=le then some (1,1) else none:=rfl
  rw [e1,e2]
  by_cases c:l=le
  ·rw [if_pos c,if_pos c]
   exact ⟨fun w e=>by cases e;exact ⟨o,rfl,ho⟩,fun z=>by cases z⟩
  ·rw [if_neg c,if_neg c]
   exact ⟨fun w e=>(by cases e),fun _=>rfl⟩
 ·have e:(if l=le then some ((1,1):KM.Fra) else none)=some w:=e
  by_cases c:l=le
  ·rw [if_pos c] at e;cases e;exact ⟨sf,(by show (1:Int)≤1;decide)⟩
  ·rw [if_neg c] at e;cases e
 ·by_cases hx:∃mx,mx<ls.length∧(bN ts (mx+1)).lf=none
  ·obtain ⟨mx,h1,h2⟩:=hx
   refine .inl ⟨mx,9,h1,h2,Nat.le_refl _,wP tk gr.dn gr.lt (x5 ts le),fun m O H' _ em f fO dw do' gw=>?_⟩
   exact k _ O H' ⟨PV.st tk (x5 ts le) m,A2 tk (x5 ts le) em⟩ f fO dw do' gw
  ·exact .inr ⟨fun m hm z=>hx ⟨m,hm,z⟩,fun R us a dx r H' ok _ _ _ _ _ _=>(uR gr.dn ok).elim⟩
inductive Fh (vs:List V) (H:Hp) (Q:VK):Prop
 | mk (v:V) (ls:List (List Nat)) (ts:List ah) (rk:List Nat→Nat) (lb le:List Nat) (h0:vs=[v,aD lb,aD le]) (h1:bE ED H v (eT ls ts)) (h2:(∀t∈ts,fA ls t)) (h3:ts.length≤24) (h4:1≤ls.length) (h5:ls.length≤10) (h6:xn ls ts rk) (h7:lb∈ls) (h8:∀(s:LP) (H':Hp),RS ts le s→aj H H'→(∀w o,s.ω lb=some w→H' o=some (fr w)→Gb 1500 1500 w→Q (.ref o) H')∧(s.ω lb=none→Q .non H'))
def GK:Sp:=fun vs H Q _=>Fh  vs H Q
theorem mq (T:Txt K mg):bv P w K mg base (nH P w) 7 T.greatest_gain_.f T.greatest_gain_.d ["net", "begin", "end"] GK:=by
 have G_lift_all:=mX (P:=P) (w:=w) (base:=base) T
 refine T.greatest_gain_.F.okX mB (fun vs H Q E h=>?_) (fun cdv A outer s H vs Q E hr h=>?_)
 ·obtain ⟨v,ls,ts,rk,lb,le,rfl,_⟩:=h
  rfl
 ·obtain ⟨v,ls,ts,rk,lb,le,rfl,hv,tc,h24,l1,l10,gr,hb,k⟩:=h
  refine ⟨_,(@ae _ _ _ _ _ (@PS.nox _ _ _ (@aL _ _ (3) _ _ _ _ mB.nd rfl (Or.inl fj) (@vp _ _ _ _ _ _ (@pw _ 2 _ _ (Or.inl pD) (by rfl) (by decide) (by decide)) (@ax _ _ _ _ _ (@aa _ _ _ _ _ (@ad _ _ _ _) (@aa _ _ _ _ _ (@ad _ _ _ _) (@ac _) rfl) rfl))) (by rfl) (by first | exact .inl rfl | exact .inr rfl | assumption))) (@ae _ _ _ _ _ (@fN _ _ _ _ (@ap _ _ _ _ _ _ _ _ _ _ _ _ _ _ _ _ G_lift_all (hr.mono (by decide)) lV T.lift_all_.m T.lift_all_.F.kp T.lift_all_.B .nil (@xS _ _ _ _ _ _ _ _ _ _ _ _ _ _ _) (@aa _ _ _ _ _ (@pw _ 0 _ _ (Or.inl pI) (by rfl) (by decide) (by decide)) (@aa _ _ _ _ _ (@pw _ 3 _ _ (Or.inl fj) (by rfl) (by decide) (by decide)) (@ac _) rfl) rfl) (by decide) (by rfl) (by rfl)) (by rfl)) (@am _ _ _ (@PS.nox _ _ _ (@aM _ _ _ _ (@BS _ _ _ _ _ _ _ (@pw _ 3 _ _ (Or.inl fj) (by rfl) (by decide) (by decide)) (@pw _ 1 _ _ (Or.inl nY) (by rfl) (by decide) (by decide)) (by rfl) (by rfl) (by rfl) (by rfl))))))),?_⟩
  refine bO fun Q1 nA1=>fun W H1 n1=>⟨_,rfl,Sum.inr (S le),rfl,(by show 2≤10000;decide),fun o H2 n2=>⟨n2.sm _ _ n1.at',fun H3 c3=>nA1 _ _ ?_⟩⟩
  refine bT fun DA nA=>?_
  have s3:aj H H3:=fun a u h=>c3.ol a u (fun z=>by rw [z,n1.fr] at h;cases h) (n2.sm _ _ (n1.sm _ _ h))
  have oW:o≠W:=fun z=>by have:=n2.fr;rw [z,n1.at'] at this;cases this
  refine ⟨_,rfl,_,rfl,?_⟩
  refine wA (g:=T.x_Gaining) (E:=E) (Q:=fun _ J=>DA.nx _ J) (hv.mono s3.toE) tc h24 l1 l10 gr c3.at' (c3.ol o _ oW n2.at') (fun st O H4 rs f4 fO dw do' gw=>?_)
  refine nA _ _ ?_
  obtain ⟨kv,hW,lW,vW⟩:=dw
  have s4:aj H H4:=fun a u h=>f4 a u (fun z=>by rw [z,n1.fr] at h;cases h) (s3 _ _ h)
  refine ⟨_,rfl,W,kv,rfl,hW,_,rfl,kv,Sum.inr (S lb),rfl,hW,?_⟩
  cases e:st.ω lb with
  | none=>
   rw [(vW lb hb).2 e]
   exact (k st H4 rs s4).2 e
  | some w=>
   obtain ⟨o',v',h'⟩:=(vW lb hb).1 w e
   rw [v']
   exact (k st H4 rs s4).1 w o' e h' (gw lb hb w e).1
inductive Fi (vs:List V) (H:Hp) (Q:VK):Prop
 | mk (v:V) (ls:List (List Nat)) (ts:List ah) (rk:List Nat→Nat) (lb le:List Nat) (h0:vs=[v,aD lb,aD le]) (h1:bE ED H v (eT ls ts)) (h2:(∀t∈ts,fA ls t)) (h3:ts.length≤24) (h4:1≤ls.length) (h5:ls.length≤10) (h6:xn ls ts rk) (h7:lb∈ls) (h8:rk lb≤9) (h9:∀(s:LP) (H':Hp),RS ts le s→aj H H'→(∀w R r,s.ω lb=some w→qR ts le s.on lb R→R.length≤9→H r=none→H' r=some (.lst (bX R))→Q (.ref r) H')∧(s.ω lb=none→Q .non H'))
def GS:Sp:=fun vs H Q _=>Fi  vs H Q
theorem re (T:Txt K mg):bv P w K mg base (nH P w) 7 T.best_way_.f T.best_way_.d ["net", "begin", "end"] GS:=by
 have G_lift_all:=mX (P:=P) (w:=w) (base:=base) T
 refine T.best_way_.F.okX gA (fun vs H Q E h=>?_) (fun cdv A outer s H vs Q E hr h=>?_)
 ·obtain ⟨v,ls,ts,rk,lb,le,rfl,_⟩:=h
  rfl
 ·obtain ⟨v,ls,ts,rk,lb,le,rfl,hv,tc,h24,l1,l10,gr,hb,hrk,k⟩:=h
  obtain ⟨na,pa,ta,ys,rfl,hna,hpa,hta,ity⟩:=gW hv
  refine ⟨_,(@ae _ _ _ _ _ (@PS.nox _ _ _ (@aL _ _ (3) _ _ _ _ gA.nd rfl (Or.inl iu) (@vp _ _ _ _ _ _ (@pw _ 2 _ _ (Or.inl nW) (by rfl) (by decide) (by decide)) (@ax _ _ _ _ _ (@aa _ _ _ _ _ (@ad _ _ _ _) (@aa _ _ _ _ _ (@ad _ _ _ _) (@ac _) rfl) rfl))) (by rfl) (by first | exact .inl rfl | exact .inr rfl | assumption))) (@ae _ _ _ _ _ (@aL _ _ (4) _ _ _ _ gA.nd rfl (Or.inl iA) (@ap _ _ _ _ _ _ _ _ _ _ _ _ _ _ _ _ G_lift_all (hr.mono (by decide)) pq T.lift_all_.m T.lift_all_.F.kp T.lift_all_.B .nil (@xS _ _ _ _ _ _ _ _ _ _ _ _ _ _ _) (@aa _ _ _ _ _ (@pw _ 0 _ _ (Or.inl nN) (by rfl) (by decide) (by decide)) (@aa _ _ _ _ _ (@pw _ 3 _ _ (Or.inl iu) (by rfl) (by decide) (by decide)) (@ac _) rfl) rfl) (by decide) (by rfl) (by rfl)) (by rfl) (by first | exact .inl rfl | exact .inr rfl | assumption)) (@ae _ _ _ _ _ (@PS.nox _ _ _ (@cK _ _ _ _ _ _ _ _ (@bj _ _ _ _ _ _ _ _ (@oQ _) (@pw _ 1 _ _ (Or.inl mh) (by rfl) (by decide) (by decide)) (@pw _ 3 _ _ (Or.inl iu) (by rfl) (by decide) (by decide)) rfl) (@am _ _ _ (@aM _ _ _ _ (@fK _ _ _))) (@bM _))) (@ae _ _ _ _ _ (@PS.nox _ _ _ (@aL _ _ (5) _ _ _ _ gA.nd rfl (Or.inl j7) (@dY _ _ _ _ (@ac _)) (by rfl) (by first | exact .inl rfl | exact .inr rfl | assumption))) (@ae _ _ _ _ _ (@PS.nox _ _ _ (@aL _ _ (6) _ _ _ _ gA.nd rfl (Or.inl d0) (@pw _ 1 _ _ (Or.inl mh) (by rfl) (by decide) (by decide)) (by rfl) (by first | exact .inl rfl | exact .inr rfl | assumption))) (@ae _ _ _ _ _ (@PS.nox _ _ _ (@j6 _ _ _ _ _ _ PassesOwn.never (@bj _ _ _ _ _ _ _ _ (@vj _) (@pw _ 6 _ _ (Or.inl d0) (by rfl) (by decide) (by decide)) (@pw _ 2 _ _ (Or.inl nW) (by rfl) (by decide) (by decide)) (@aZ _ _ (by decide) (by decide))) (@ae _ _ _ _ _ (@fN _ _ _ _ (@fS _ (K) _ _ _ _ _ _ _ _ _ _ _ PySem.F.plainAttrs_list PySem.F.slot_list_append PySem.F.type_list_append (@jm _) (@pw _ 5 _ _ (Or.inl j7) (by rfl) (by decide) (by decide)) (@aa _ _ _ _ _ (@aq _ _ _ _ _ _ _ (@ia _) (@pw _ 4 _ _ (Or.inl iA) (by rfl) (by decide) (by decide)) (@pw _ 6 _ _ (Or.inl d0) (by rfl) (by decide) (by decide)) (fun _ _=>rfl)) (@ac _) rfl) (by rfl) (by rfl) (by rfl) (by rfl) (by rfl) (by rfl)) (by rfl)) (@am _ _ _ (@aL _ _ (6) _ _ _ _ gA.nd rfl (Or.inl d0) (@aq _ _ _ _ _ _ _ (@aN _ (K) (by rfl)) (@aq _ _ _ _ _ _ _ (@aN _ (K) (by rfl)) (@aq _ _ _ _ _ _ _ (@aN _ (K) (by rfl)) (@pw _ 0 _ _ (Or.inl nN) (by rfl) (by decide) (by decide)) (@ad _ _ _ _) (fun _ _=>rfl)) (@aq _ _ _ _ _ _ _ (@ia _) (@pw _ 4 _ _ (Or.inl iA) (by rfl) (by decide) (by decide)) (@pw _ 6 _ _ (Or.inl d0) (by rfl) (by decide) (by decide)) (fun _ _=>rfl)) (fun _ _=>rfl)) (@ad _ _ _ _) (fun _ _=>rfl)) (by rfl) (by first | exact .inl rfl | exact .inr rfl | assumption)))))) (@am _ _ _ (@PS.nox _ _ _ (@aM _ _ _ _ (@pw _ 5 _ _ (Or.inl j7) (by rfl) (by decide) (by decide))))))))))),?_⟩
  refine bO fun Q1 nA1=>fun W H1 n1=>⟨_,rfl,Sum.inr (S le),rfl,(by show 2≤10000;decide),fun o H2 n2=>⟨n2.sm _ _ n1.at',fun H3 c3=>nA1 _ _ ?_⟩⟩
  refine bO fun Q2 nA=>?_
  have s3:aj H H3:=fun a u h=>c3.ol a u (fun z=>by rw [z,n1.fr] at h;cases h) (n2.sm _ _ (n1.sm _ _ h))
  have oW:o≠W:=fun z=>by have:=n2.fr;rw [z,n1.at'] at this;cases this
  refine ⟨_,rfl,_,rfl,?_⟩
  refine wA (g:=T.x_Gaining) (E:=E) (hv.mono s3.toE) tc h24 l1 l10 gr c3.at' (c3.ol o _ oW n2.at') (fun st O H4 rs f4 fO dw do' gw=>?_)
  refine nA _ _ ?_
  obtain ⟨kv,hW,lW,vW⟩:=dw
  obtain ⟨ko,hO,lO,vO⟩:=do'
  have s4:aj H H4:=fun a u h=>f4 a u (fun z=>by rw [z,n1.fr] at h;cases h) (s3 _ _ h)
  refine xV fun DB nB rB=>⟨_,rfl,_,rfl,W,kv,Sum.inr (S lb),rfl,rfl,hW,_,rfl,?_⟩
  cases e:st.ω lb with
  | none=>
   rw [(vW lb hb).2 e]
   exact cW (rB _ _ ((k st H4 rs s4).2 e))
  | some w=>
   obtain ⟨o',v',h'⟩:=(vW lb hb).1 w e
   rw [v']
   refine cm (nB _ _ ?_)
   refine bO fun Q3 nA3=>⟨Nat.zero_le _,fun r H5 n5=>nA3 _ _ ?_⟩
   refine bO fun Q4 nA4=>⟨_,rfl,nA4 _ _ ?_⟩
   have fr':H r=none:=s4.free n5.fr
   refine bT fun DC nC=>?_
   refine mG (fun m σ H'=>jq fun (p pre:List Nat) (wp:KM.Fra)=>σ=[some (.ref na),some (aD lb),some (aD le),some (.ref W),some (.ref O),some (.ref r),some (aD p)]∧m=rk p∧p∈ls∧st.ω p=some wp∧H' r=some (.lst (bX pre))∧pre.length+rk p≤rk lb∧(∀R,qR ts le st.on p R→qR ts le st.on lb (pre++R))∧aj H4 H') _ ⟨lb,[],w,rfl,rfl,hb,e,n5.at',by simp,fun R h=>h,n5.sm⟩ ?_
   rintro m σ J ⟨p,pre,wp,rfl,rfl,hp,ep,hr5,hm,hF,sm⟩ Q D' nD rD qT qF
   refine ⟨_,rfl,_,rfl,rfl,_,rfl,?_⟩
   by_cases c:p=le
   ·subst c
    have q:(!decide (aD p=aD p))=false:=by simp
    rw [q]
    refine qF _ (nC _ _ ⟨_,rfl,?_⟩)
    have hf:=hF [] .nil
    rw [List.append_nil] at hf
    exact (k st J rs (s4.trans sm)).1 w pre r e hf (by trivial) fr' hr5
   ·have q:(!decide (aD p=aD le))=true:=by
     rw [decide_eq_false]
     ·rfl
     ·intro z
      injection z with z
      exact c (qy z)
    rw [q]
    refine qT _ ?_
    obtain ⟨kk,t,we,eo,et,ho,rfl,ee,_⟩:=rs.step c ep
    have tt:=tc t (List.mem_of_getElem? et)
    have vo:valD ko (Sum.inr (S t.bg))=some (.int (kk:Int)):=by rw [vO t.bg hp,eo];rfl
    obtain ⟨y,ey⟩:∃y,ys[kk]?=some y:=⟨_,List.getElem?_eq_getElem (by rw [ity.length,List.length_map];exact (List.getElem?_eq_some_iff.mp et).1)⟩
    obtain ⟨dy,edy,gy⟩:=ity.get ey
    rw [List.getElem?_map,et] at edy
    obtain rfl:dG t=dy:=Option.some.inj edy
    obtain ⟨o3,om,og,op',rfl,hto,_,_,_⟩:=gf gy
    have dn:=gr.dn t (List.mem_of_getElem? et)
    refine bT fun DE nE=>⟨_,rfl,.inl ⟨rfl,_,aG.of hr5⟩,_,rfl,_,rfl,O,ko,Sum.inr (S t.bg),_,rfl,rfl,sm _ _ hO,vo,r,_,_,rfl,rfl,hr5,by rw [List.length_map];trivial,fun J4 c4=>nE _ _ ?_⟩
    have sm4:aj H4 J4:=fun a u h=>c4.ol a u (fun z=>by rw [z,n5.fr] at h;cases h) (sm a u h)
    have sm5:=s4.trans sm4
    refine ⟨_,rfl,na,_,_,_,rfl,rfl,au.of (sm5 _ _ hna),rfl,_,rfl,_,rfl,O,ko,Sum.inr (S t.bg),_,rfl,rfl,sm4 _ _ hO,vo,ta,ys,_,_,rfl,rfl,au.of (sm5 _ _ hta),bH ey,o3,_,_,_,rfl,rfl,au.of (sm5 _ _ hto),rfl,?_⟩
    refine nD (rk t.en) _ _ dn ⟨t.en,pre++[kk],we,rfl,rfl,tt.e,ee,?_,?_,fun R h=>?_,sm4⟩
    ·rw [c4.at']
     simp [bX]
    ·rw [List.length_append,List.length_singleton];trivial
    ·rw [List.append_assoc]
     exact hF _ (.cons c eo et h)
end
end K14
namespace K14
open PySem L2
set_option maxHeartbeats 4000000
theorem AY (ts:List ah):PV ts (gL sw).ω (gL sw):=
 ⟨fun l w e=>by cases e;exact ⟨by show (1:Int)≤1;decide,by show (1:Int)≤1;decide,by show Int.gcd 1 1=1;decide⟩,fun _ _=>rfl,(fun l k e=>by cases e),fun l w e=>⟨w,e,Rat.le_refl⟩⟩
theorem vh {ls:List (List Nat)}{ts:List ah} (tk:∀t∈ts,dR ls t) (m:Nat):PV ts (gL sw).ω (gL (bN ts m)):=by
 rw [←oq];exact PV.st tk (AY ts) m
theorem AZ {ls:List (List Nat)}{ts:List ah} (tk:∀t∈ts,dR ls t) {m:Nat} (e:(bN ts (m+1)).lf=none) {t:ah} (ht:t∈ts) (ho:t.most≠(0,1)):gR t*uW (bN ts m) t.en≤uW (bN ts m) t.bg:=by
 have q:=A2 (m:=m) tk (AY ts) (by rw [oq];exact e) t ht ho
 rw [oq] at q
 obtain ⟨wb,e1,e2⟩:=q _ rfl
 cases e1
 exact e2
structure ke (ls:List (List Nat)) (ts:List ah) (g:Bool):Prop where
 r:oX ls ts
 y:g=true→(∀t∈ts,t.most≠(0,1))∧1<bY ts
 n:g=false→(∃t∈ts,t.most=(0,1))∨bY ts≤1
theorem ke.no {ls:List (List Nat)}{ts us:List ah}{R:List Nat} (h:ke ls ts false) (ok:iQ ts R us):False:=by
 obtain ⟨e,op⟩:=h.r.prod ok
 rcases h.n rfl with ⟨t,ht,z⟩ | z
 ·exact op t ht z
 ·have:=ok.gain
  rw [e] at this
  exact absurd this (Rat.not_lt.mpr z)
theorem ke.yes {ls:List (List Nat)}{ts:List ah}{m:Nat} (h:ke ls ts true) (ne:ls≠[]) (tk:∀t∈ts,dR ls t) (e:(bN ts (m+1)).lf=none):False:=by
 obtain ⟨op,lt⟩:=h.y rfl
 have pv:=vh tk m
 have:=h.r.le (u:=uW (bN ts m)) ne (fun l _=>let ⟨a,b,_⟩:=pv.pos l _ rfl;fQ a b) fun t ht=>⟨tk t ht,AZ tk e ht (op t ht)⟩
 exact absurd lt (Rat.not_lt.mpr this)
abbrev oG (n f:Nat):List Nat:=(List.range n).map fun k=>(f+k) % n
theorem lK {E:Addr→Prop}{H:Hp} (R:List Nat):aJ E H (bX R) (R.map fun i:Nat=>PyData.int (i:Int)):=by
 have:=rS (E:=E) (H:=H) (R.map fun i:Nat=>(i:Int))
 rw [List.map_map,List.map_map] at this
 exact this
theorem jQ:∀{R:List Nat},(∀i∈R,i<1000)→je (R.map fun i:Nat=>PyData.int (i:Int)) R.length 0
 | [],_=>.nil
 | i :: r,h=>by
  have:=je.cons (k:=0) (Wt.int (i:=(i:Int)) (k:=0) (Sz.mono (m:=10) (by show ((i:Nat):Int).natAbs<2 ^ 10;have:=h i (List.mem_cons_self ..);simp;trivial) (by decide))) (jQ (R:=r) fun x hx=>h x (List.mem_cons_of_mem _ hx))
  rw [Nat.add_comm] at this
  exact this
theorem wa:∀R:List Nat,PyData.eqvAll (R.map fun i:Nat=>PyData.int (i:Int)) (R.map fun i:Nat=>PyData.int (i:Int))=true
 | []=>by simp [PyData.eqvAll]
 | i :: r=>by
  have:=wa r
  simp [PyData.eqvAll,PyData.eqv] at this ⊢
  exact this
theorem rN (R:List Nat):PyData.eqv (.list (R.map fun i:Nat=>PyData.int (i:Int))) (.list (R.map fun i:Nat=>PyData.int (i:Int)))=true:=by
 have:=wa R
 simpa [PyData.eqv] using this
theorem yw {E:Addr→Prop}{H:Hp}:∀{xs:List V}{ds:List PyData},xs.length=ds.length→(∀(j:Nat) x d,xs[j]?=some x→ds[j]?=some d→bE E H x d)→aJ E H xs ds
 | [],[],_,_=>.nil
 | [],_ :: _,e,_=>by cases e
 | _ :: _,[],e,_=>by cases e
 | x :: xs,d :: ds,e,h=>.cons (h 0 x d rfl rfl) (yw (Nat.succ.inj e) fun j y g a b=>h (j+1) y g a b)
abbrev xY (n:Nat):List PyData:=(List.range n).map fun f=>PyData.list ((oG n f).map fun i:Nat=>PyData.int (i:Int))
theorem xB {n f i:Nat} (h0:0<n) (h:i∈oG n f):i<n:=by
 obtain ⟨k,_,rfl⟩:=List.mem_map.mp h
 exact Nat.mod_lt _ h0
theorem xb {n:Nat} (h0:0<n) (hn:n≤10):∀fs:List Nat,∃m,je (fs.map fun f=>PyData.list ((oG n f).map fun i:Nat=>PyData.int (i:Int))) m 1
 | []=>⟨0,.nil⟩
 | f :: r=>by
  obtain ⟨m,h⟩:=xb h0 hn r
  exact ⟨_,.cons (.list (jQ fun i hi=>by have:=xB h0 hi;trivial)) h⟩
theorem Cv {n f:Nat} (hf:f<n):(xY n).any (fun z=>PyData.eqv z (.list ((oG n f).map fun i:Nat=>PyData.int (i:Int))))=true:=by
 rw [List.any_eq_true]
 exact ⟨_,List.mem_map_of_mem (List.mem_range.mpr hf),rN _⟩
section
variable {P:Program}{w:World}{K:PySem.W.Frag}{mg:Str→Option Value}{base:Heap}
inductive Fk (vs:List V) (H:Hp) (Q:VK):Prop
 | mk (v:V) (g:Bool) (ls:List (List Nat)) (ts:List ah) (h0:vs=[v,.bl g]) (h1:bE ED H v (eT ls ts)) (h2:(∀t∈ts,fA ls t)) (h3:ke ls ts g) (h4:2≤ls.length) (h5:ls.length≤10) (h6:∀H',aj H H'→Q (.bl true) H')
def GV:Sp:=fun vs H Q _=>Fk  vs H Q
theorem mI (T:Txt K mg):bv P w K mg base CX0 9 T.l_ring_right_.f T.l_ring_right_.d ["_law_net", "_law_gains"] GV:=by
 have G_holding_worths:=iB (P:=P) (w:=w) (base:=base) T
 have G_gaining_round:=iU (P:=P) (w:=w) (base:=base) T
 have G_l_caught:=wO (P:=P) (w:=w) (base:=base) T
 have G_shows_holding:=rh (P:=P) (w:=w) (base:=base) T
 refine T.l_ring_right_.F.ok gQ (fun vs H Q E h=>?_) (fun cdv A outer s H vs Q E hr h=>?_)
 ·obtain ⟨v,g,ls,ts,rfl,_⟩:=h
  rfl
 ·obtain ⟨v,g,ls,ts,rfl,hv,tc,rg,l2,l10,k⟩:=h
  obtain ⟨na,pa,ta,ys,rfl,hna,hpa,hta,ity⟩:=gW hv
  have lys:ys.length=ts.length:=by rw [ity.length,List.length_map]
  have lt:ts.length=ls.length:=rg.r.len
  have tk:∀t∈ts,dR ls t:=fun t ht=>(tc t ht).tok
  refine ⟨_,(@ae _ _ _ _ _ (@aL _ _ (2) _ _ _ _ gQ.nd rfl (Or.inr i3) (@be _ _ _ _ _ _ _ _ _ (@ju _ (K) (by rfl)) qd T.b_len (@cq) (@aa _ _ _ _ _ (@aq _ _ _ _ _ _ _ (@aN _ (K) (by rfl)) (@pw _ 0 _ _ (Or.inl bR) (by rfl) (by decide) (by decide)) (@ad _ _ _ _) (fun _ _=>rfl)) (@ac _) rfl) (by decide) (by decide) (by rfl) (by rfl)) (by rfl) (by first | exact .inl rfl | exact .inr rfl | assumption)) (@ae _ _ _ _ _ (@cK _ _ _ _ _ _ _ _ (@iI _ _ _ _ (@fh _ _ _ (@pw _ 1 _ _ (Or.inl nv) (by rfl) (by decide) (by decide)) (by intro _;rfl))) (@ae _ _ _ _ _ (@aL _ _ (3) _ _ _ _ gQ.nd rfl (Or.inl ik) (@ap _ _ _ _ _ _ _ _ _ _ _ _ _ _ _ _ G_holding_worths (hr.mono (by decide)) jE T.holding_worths_.m T.holding_worths_.F.kp T.holding_worths_.B .nil (@mM _ _ _) (@aa _ _ _ _ _ (@pw _ 0 _ _ (Or.inl bR) (by rfl) (by decide) (by decide)) (@ac _) rfl) (by decide) (by rfl) (by rfl)) (by rfl) (by first | exact .inl rfl | exact .inr rfl | assumption)) (@am _ _ _ (@aM _ _ _ _ (@kq _ _ _ _ _ _ _ (@cO _ _ _ _ _ _ _ _ (@sX _) (@ap _ _ _ _ _ _ _ _ _ _ _ _ _ _ _ _ G_gaining_round (hr.mono (by decide)) fJ T.gaining_round_.m T.gaining_round_.F.kp T.gaining_round_.B .nil (@aK _) (@aa _ _ _ _ _ (@pw _ 0 _ _ (Or.inl bR) (by rfl) (by decide) (by decide)) (@ac _) rfl) (by decide) (by rfl) (by rfl)) (@fK _ _ _) (@aZ _ _ (by decide) (by decide))) (@kq _ _ _ _ _ _ _ (@cO _ _ _ _ _ _ _ _ (@sX _) (@ap _ _ _ _ _ _ _ _ _ _ _ _ _ _ _ _ G_l_caught (hr.mono (by decide)) iq T.l_caught_.m T.l_caught_.F.kp T.l_caught_.B .nil (@aK _) (@aa _ _ _ _ _ (@pw _ 0 _ _ (Or.inl bR) (by rfl) (by decide) (by decide)) (@ac _) rfl) (by decide) (by rfl) (by rfl)) (@fK _ _ _) (@aZ _ _ (by decide) (by decide))) (@kI _ _ _ _ _ (@ap _ _ _ _ _ _ _ _ _ _ _ _ _ _ _ _ G_shows_holding (hr.mono (by decide)) jW T.shows_holding_.m T.shows_holding_.F.kp T.shows_holding_.B .nil (@aK _) (@aa _ _ _ _ _ (@pw _ 0 _ _ (Or.inl bR) (by rfl) (by decide) (by decide)) (@aa _ _ _ _ _ (@pw _ 3 _ _ (Or.inl ik) (by rfl) (by decide) (by decide)) (@ac _) rfl) rfl) (by decide) (by rfl) (by rfl)))))))) (@bM _)) (@ae _ _ _ _ _ (@iN _ _ _ _ _ _ _ (["_law_first", "_law_many"]) (1) ([2]) _ _ _ _ (4) _ _ _ gQ.nd rfl eQ (by kernel_rfl) rfl (by kernel_rfl) (@cz _ _ _ _ _ _ oR T.b_range (@aa _ _ _ _ _ (@pw _ 2 _ _ (Or.inr (Or.inl i3)) (by rfl) (by decide) (by decide)) (@ac _) rfl) (by rfl)) (fun _ _ _ _ _ _=>(@aw _ _ (0) _ (@cG _ (by kernel_rfl)) rfl (Or.inr (by kernel_rfl)) (Or.inl (by kernel_rfl)))) (fun _ _ _ _ _ _=>@ca _) (fun _ _ _ _ _ _=>(@ft _ _ _ _ _ _ _ (["_law_k", "_law_first", "_law_many"]) (1) ([0,1]) _ _ _ _ rfl (by kernel_rfl) (@cz _ _ _ _ _ _ (by show _=_;kernel_rfl) T.b_range (@aa _ _ _ _ _ (@pw _ 1 _ _ (Or.inr (Or.inl (by kernel_rfl))) (by rfl) (by decide) (by decide)) (@ac _) rfl) (by rfl)) (fun _ _ _ _ _ _=>(@aw _ _ (0) _ (@cG _ (by kernel_rfl)) rfl (Or.inl (by kernel_rfl)) (by first | exact .inl rfl | exact .inr rfl | assumption))) (fun _ _ _ _ _ _=>@ca _) (fun _ _ _ _ _ _=>(@aB _ _ _ _ _ _ _ _ (@g9 _) (@aB _ _ _ _ _ _ _ _ (@cx _) (@pw _ 1 _ _ (Or.inr (Or.inl (by kernel_rfl))) (by rfl) (by decide) (by decide)) (@pw _ 0 _ _ (Or.inl (by kernel_rfl)) (by rfl) (by decide) (by decide))) (@pw _ 2 _ _ (Or.inr (Or.inl (by kernel_rfl))) (by rfl) (by decide) (by decide)))) (by intro _;rfl))) (by intro _;rfl)) (@am _ _ _ (@aM _ _ _ _ (@kq _ _ _ _ _ _ _ (@cO _ _ _ _ _ _ _ _ (@zx _ hr.units) (@ap _ _ _ _ _ _ _ _ _ _ _ _ _ _ _ _ G_gaining_round (hr.mono (by decide)) fJ T.gaining_round_.m T.gaining_round_.F.kp T.gaining_round_.B .nil (@aK _) (@aa _ _ _ _ _ (@pw _ 0 _ _ (Or.inl bR) (by rfl) (by decide) (by decide)) (@ac _) rfl) (by decide) (by rfl) (by rfl)) (@pw _ 4 _ _ (Or.inl eQ) (by rfl) (by decide) (by decide)) rfl) (@kI _ _ _ _ _ (@cO _ _ _ _ _ _ _ _ (@zx _ hr.units) (@ap _ _ _ _ _ _ _ _ _ _ _ _ _ _ _ _ G_l_caught (hr.mono (by decide)) iq T.l_caught_.m T.l_caught_.F.kp T.l_caught_.B .nil (@aK _) (@aa _ _ _ _ _ (@pw _ 0 _ _ (Or.inl bR) (by rfl) (by decide) (by decide)) (@ac _) rfl) (by decide) (by rfl) (by rfl)) (@pw _ 4 _ _ (Or.inl eQ) (by rfl) (by decide) (by decide)) rfl)))))))),?_⟩
  refine bO fun Q1 nA1=>⟨_,rfl,na,_,_,_,rfl,rfl,au.of hna,rfl,ta,_,rfl,.inr (au.of hta),nA1 _ _ ?_⟩
  refine xV fun DA nA rA=>?_
  cases g with
  | false=>
   refine ⟨_,rfl,_,rfl,cW ?_⟩
   by_cases hx:∃mx,mx<ls.length∧(bN ts (mx+1)).lf=none
   ·obtain ⟨mx,hmx,emx⟩:=hx
    refine bO fun Q2 nA2=>⟨_,rfl,.ref na,ls,ts,rfl,hv,tc,by trivial,by trivial,l10,.inl ⟨mx,hmx,emx,fun m r xs H1 hm em s1 fr1 hr1 lx vx gx=>nA2 _ _ ?_⟩⟩
    refine ⟨_,rfl,.ref na,ls,ts,rfl,hv.mono s1.toE,tc,by trivial,by trivial,l10,.inl ⟨mx,hmx,emx,fun H2 s2=>⟨rfl,_,rfl,cW ?_⟩⟩⟩
    refine ⟨_,rfl,.ref na,ls,ts,rfl,(hv.mono s1.toE).mono s2.toE,tc,by trivial,by trivial,l10,.inl ⟨mx,hmx,emx,fun H3 s3=>⟨rfl,_,rfl,cW ?_⟩⟩⟩
    have s13:=s2.trans s3
    refine ⟨_,rfl,_,rfl,.ref na,r,xs,ls,ts,(bN ts m).ω,rfl,(hv.mono s1.toE).mono s13.toE,tc,by trivial,by trivial,rg.r.nd,s13 _ _ hr1,lx,(fun j l e=>let ⟨o,a,b⟩:=vx j l e;⟨o,a,s13 _ _ b⟩),gx,(fun l _=>((vh tk m).pos l _ rfl).2),(yF (s:=bN ts m) em).2,fun H4 s4=>?_⟩
    exact rA _ _ (k H4 ((s1.trans s13).trans s4))
   ·exact bO fun Q2 nA2=>⟨_,rfl,.ref na,ls,ts,rfl,hv,tc,by trivial,by trivial,l10,.inr ⟨fun m hm z=>hx ⟨m,hm,z⟩,fun R us a dx r H' ok _ _ _ _ _ _=>(rg.no ok).elim⟩⟩
  | true=>
   refine ⟨_,rfl,_,rfl,cm (nA _ _ ?_)⟩
   have hno:∀m,m<ls.length→(bN ts (m+1)).lf≠none:=fun m hm z=>rg.yes (fun q=>by rw [q] at l2;exact absurd l2 (by decide)) tk z
   refine bO fun Q2 nA2=>⟨_,rfl,_,rfl,by trivial,by trivial,fun D hD=>kJ (n:=ls.length) (fun i H' zs=>H' D=some (.lst zs)∧zs.length=i∧(∀(j:Nat),j<i→∃r,zs[j]?=some (.ref r)∧r≠D∧H' r=some (.lst (bX (oG ls.length j))))∧aj H H') (fE (by trivial)) ⟨aC,rfl,(fun j h=>by trivial),aj.new hD⟩ ?_ ?_ ?_ ?_ ?_⟩
   ·rintro i H' zs ⟨e1,e2,_⟩
    exact ⟨e1,by trivial⟩
   ·rintro i H' zs hi ⟨_,_,_,sm⟩
    show i<((ys.length:Nat):Int).toNat
    trivial
   ·rintro H' zs ⟨_,_,_,sm⟩
    show ((ys.length:Nat):Int).toNat≤ls.length
    trivial
   ·rintro i H' zs x H'' hi ⟨hD',lz,vz,sm⟩ ⟨rfl,rfl⟩
    refine ⟨fF,_,rfl,_,rfl,by trivial,by trivial,fun D2 hD2=>jd (n:=ls.length) (fun k=>.int (((i+k) % ls.length:Nat):Int)) (by trivial) hD2 ?_ ?_ ?_ ?_⟩
    ·intro j H3 hj _
     show j<((ys.length:Nat):Int).toNat
     trivial
    ·intro H3 _
     show ((ys.length:Nat):Int).toNat≤ls.length
     trivial
    ·rintro j y H3 H4 R hj s3 ⟨rfl,rfl⟩ kk
     refine ⟨fF,_,rfl,_,rfl,_,_,rfl,rfl,_,rfl,_,_,rfl,rfl,by trivial,?_⟩
     have q:=kk H4 (aj.refl _)
     have e:((0:Int)+(i:Int)+(0+(j:Int))) % ((ys.length:Nat):Int)=(((i+j) % ls.length:Nat):Int):=by
      rw [lys,lt,Int.natCast_emod,Int.natCast_add,Int.zero_add,Int.zero_add]
     show R (.int _) H4
     rw [e]
     exact q
    ·intro H3 s3 hD3
     have nD:D2≠D:=fun z=>by rw [z,hD'] at hD2;cases hD2
     refine ⟨s3 _ _ hD',aC,by rw [List.length_append,lz];rfl,fun j hj=>?_,gc hD (sm.trans s3)⟩
     by_cases c:j<i
     ·obtain ⟨r,e1,e2,e3⟩:=vz j c
      exact ⟨r,by rw [List.getElem?_append_left (by trivial)];exact e1,e2,by rw [av e2];exact s3 _ _ e3⟩
     ·have ej:j=i:=by trivial
      subst ej
      refine ⟨D2,by rw [List.getElem?_append_right (by trivial),lz,Nat.sub_self];rfl,nD,?_⟩
      rw [av nD,hD3]
      unfold bX oG
      rw [List.map_map]
      rfl
   ·rintro H1 zs ⟨eD,lz,vz,s1⟩
    refine nA2 _ _ ?_
    have rows:∀{J:Hp},aj H1 J→bE (fun _=>False) J (.ref D) (.list (xY ls.length)):=fun {J} sJ=>by
     refine .lst (sJ _ _ eD) id (yw (by simpa using lz) fun j x d ex ed=>?_)
     have hj:j<ls.length:=by rw [←lz];exact (List.getElem?_eq_some_iff.mp ex).1
     rw [List.getElem?_map,List.getElem?_range hj] at ed
     obtain ⟨r,e1,_,e3⟩:=vz j hj
     rw [ex] at e1
     cases e1
     cases ed
     exact .lst (sJ _ _ e3) id (lK _)
    obtain ⟨mw,wl⟩:=xb (n:=ls.length) (by trivial) l10 (List.range ls.length)
    have isin:∀{R:List Nat}{us:List ah}{r:Addr}{J:Hp}{Z:VK},iQ ts R us→aj H1 J→J r=some (.lst (bX R))→Z (.bl true) J→C3 false (.ref r) (.ref D) J Z:=fun {R us r J Z} ok sJ hr' z=>by
     obtain ⟨f,hf,rfl⟩:=rg.r.turned ok
     refine ⟨.list ((oG ls.length f).map fun i:Nat=>PyData.int (i:Int)),_,fun _=>False,fun _=>False,_,_,_,_,xY ls.length,.lst hr' id (lK _),rows sJ,.list (jQ fun i hi=>by have:=xB (by trivial) hi;trivial),.list wl,by decide,rfl,?_⟩
     show Z (.bl (List.any _ _)) J
     rw [Cv hf]
     exact z
    have hv1:=hv.mono s1.toE
    refine ⟨_,rfl,.ref na,ls,ts,rfl,hv1,tc,by trivial,by trivial,l10,.inr ⟨hno,fun R us r H2 ok lR s2 f2 hr2=>⟨_,rfl,isin ok s2 hr2 ⟨_,rfl,cW ?_⟩⟩⟩⟩
    refine ⟨_,rfl,.ref na,ls,ts,rfl,hv1.mono s2.toE,tc,by trivial,by trivial,l10,.inr ⟨hno,fun R us r H3 ok lR s3 f3 hr3=>⟨_,rfl,isin ok (s2.trans s3) hr3 ?_⟩⟩⟩
    exact k H3 ((s1.trans s2).trans s3)
end
end K14
namespace K14
open PySem L2
set_option maxHeartbeats 4000000
def dc (ls:List (List Nat)) (gs:List KM.Fra) (n:Nat):List ah:=(List.range n).map fun k=>⟨ls.getD k [],ls.getD ((k+1) % n) [],(2,1),gs.getD k (1,1),(0,1)⟩
theorem qe {ls:List (List Nat)}{gs:List KM.Fra}{n k:Nat}{t:ah} (h:(dc ls gs n)[k]?=some t):k<n∧t=⟨ls.getD k [],ls.getD ((k+1) % n) [],(2,1),gs.getD k (1,1),(0,1)⟩:=by
 unfold dc at h
 rw [List.getElem?_map] at h
 obtain ⟨j,e1,e2⟩:=Option.map_eq_some_iff.mp h
 obtain ⟨h1,h2⟩:=List.getElem?_eq_some_iff.mp e1
 rw [List.getElem_range] at h2
 subst h2
 rw [List.length_range] at h1
 exact ⟨h1,e2.symm⟩
theorem bn {α:Type}{xs:List α}{k:Nat}{d:α} (h:k<xs.length):xs[k]?=some (xs.getD k d):=by
 rw [List.getD_eq_getElem?_getD,List.getElem?_eq_getElem h];rfl
theorem GU:Gb 20 3 (2,1):=⟨show (2:Int).natAbs<2 ^ 20 by decide,show (1:Int).natAbs<2 ^ 3 by decide,by decide⟩
theorem qG {ls:List (List Nat)}{gs:List KM.Fra}{n:Nat} (nd:ls.Nodup) (hl:ls.length=n) (h2:2≤n) (hg:gs.length=n) (bd:∀g∈gs,Bd 63 g) {k:Nat}{t:ah} (h:(dc ls gs n)[k]?=some t) {m:KM.Fra} (hm:m=(2,1)∨m=(0,1)) :
 fA ls { t with most:=m }∧ls[k]?=some t.bg∧ls[(k+1) % n]?=some t.en:=by
 obtain ⟨hk,rfl⟩:=qe h
 have hk2:(k+1) % n<n:=Nat.mod_lt _ (by trivial)
 have e1:ls[k]?=some (ls.getD k []):=bn (by trivial)
 have e2:ls[(k+1) % n]?=some (ls.getD ((k+1) % n) []):=bn (by trivial)
 have e3:gs[k]?=some (gs.getD k (1,1)):=bn (by trivial)
 have b:=bd _ (List.mem_of_getElem? e3)
 have g63:=b.gb (m:=6) (by decide)
 refine ⟨⟨List.mem_of_getElem? e1,List.mem_of_getElem? e2,fun z=>?_,?_,g63,b.n1,wq.mono (by decide) (by decide),?_,?_⟩,e1,e2⟩
 ·have z:ls.getD k []=ls.getD ((k+1) % n) []:=z
  rw [←z] at e2
  have:=bI nd e1 e2
  by_cases c:k+1<n
  ·rw [Nat.mod_eq_of_lt c] at this;trivial
  ·rw [show k+1=n by trivial,Nat.mod_self] at this;trivial
 ·rcases hm with rfl | rfl
  ·exact GU
  ·exact wq.mono (by decide) (by decide)
 ·rcases hm with rfl | rfl
  ·show (0:Int)≤2;decide
  ·show (0:Int)≤0;decide
 ·rcases hm with rfl | rfl
  ·show Int.gcd 2 1=1;decide
  ·show Int.gcd 0 1=1;decide
theorem lP (ls:List (List Nat)) (gs:List KM.Fra) (n:Nat):(dc ls gs n).length=n:=by unfold dc;simp
theorem uB {ls:List (List Nat)}{gs:List KM.Fra}{n:Nat} (hg:gs.length=n):bY (dc ls gs n)=bP gs:=by
 rw [BK]
 congr 1
 apply List.ext_getElem?
 intro i
 unfold dc
 rw [List.map_map,List.getElem?_map]
 by_cases hi:i<n
 ·rw [List.getElem?_range hi,bn (d:=(1,1)) (by trivial)];rfl
 ·rw [List.getElem?_eq_none (by simp;trivial),List.getElem?_eq_none (by trivial)];rfl
theorem uN {ls:List (List Nat)}{gs:List KM.Fra}{n:Nat} (nd:ls.Nodup) (hl:ls.length=n) (h2:2≤n) (hg:gs.length=n) (bd:∀g∈gs,Bd 63 g) {g:Bool} (hy:g=true→1<bP gs) (hn:g=false→bP gs≤1) :
 (∀t∈dc ls gs n,fA ls t)∧ke ls (dc ls gs n) g:=by
 have tm:∀{t:ah},t∈dc ls gs n→t.most=(2,1):=fun {t} ht=>by
  obtain ⟨k,e⟩:=List.getElem?_of_mem ht
  rw [(qe e).2]
 refine ⟨fun t ht=>?_,⟨by rw [lP,hl],nd,fun k t e=>?_⟩,fun z=>⟨fun t ht z=>?_,?_⟩,fun z=>.inr ?_⟩
 ·obtain ⟨k,e⟩:=List.getElem?_of_mem ht
  have:=(qG nd hl h2 hg bd e (.inl rfl)).1
  rw [←tm ht] at this
  exact this
 ·have:=qG nd hl h2 hg bd e (.inl rfl)
  rw [hl]
  exact ⟨this.2.1,this.2.2⟩
 ·rw [tm ht] at z;cases z
 ·rw [uB hg];exact hy z
 ·rw [uB hg];exact hn z
theorem zi {ls:List (List Nat)}{gs:List KM.Fra}{n s:Nat}{t0:ah} (nd:ls.Nodup) (hl:ls.length=n) (h2:2≤n) (hg:gs.length=n) (bd:∀g∈gs,Bd 63 g) (hs:(dc ls gs n)[s]?=some t0) :
 (∀t∈(dc ls gs n).set s { t0 with most:=(0,1) },fA ls t)∧ke ls ((dc ls gs n).set s { t0 with most:=(0,1) }) false:=by
 have tm:∀{t:ah},t∈dc ls gs n→t.most=(2,1):=fun {t} ht=>by
  obtain ⟨k,e⟩:=List.getElem?_of_mem ht
  rw [(qe e).2]
 have ls':s<(dc ls gs n).length:=(List.getElem?_eq_some_iff.mp hs).1
 have at':∀{k:Nat}{t:ah},((dc ls gs n).set s { t0 with most:=(0,1) })[k]?=some t→fA ls t∧ls[k]?=some t.bg∧ls[(k+1) % n]?=some t.en:=fun {k t} e=>by
  rw [List.getElem?_set] at e
  by_cases c:s=k
  ·subst c
   rw [if_pos rfl,if_pos ls'] at e
   cases e
   exact qG nd hl h2 hg bd hs (.inr rfl)
  ·rw [if_neg c] at e
   have q:=qG nd hl h2 hg bd e (.inl rfl)
   have:=q.1
   rw [←tm (List.mem_of_getElem? e)] at this
   exact ⟨this,q.2⟩
 refine ⟨fun t ht=>?_,⟨by rw [List.length_set,lP,hl],nd,fun k t e=>?_⟩,(fun z=>by cases z),fun z=>.inl ⟨_,List.mem_of_getElem? (by rw [List.getElem?_set,if_pos rfl,if_pos ls']),rfl⟩⟩
 ·obtain ⟨k,e⟩:=List.getElem?_of_mem ht
  exact (at' e).1
 ·rw [hl];exact (at' e).2
end K14
namespace K14
open PySem L2
set_option maxHeartbeats 4000000
theorem vZ {α:Type} (n:Nat) (x:α):(List.replicate n [x]).flatten=List.replicate n x:=by
 induction n with
 | zero=>rfl
 | succ n ih=>rw [List.replicate_succ,List.flatten_cons,ih,List.replicate_succ];rfl
theorem xl {E:Addr→Prop}{H:Hp}{x:V}{d:PyData} (h:bE E H x d):∀n,aJ E H (List.replicate n x) (List.replicate n d)
 | 0=>.nil
 | n+1=>.cons h (xl h n)
theorem Bk (a b c d e:V):dk [a,b,c,d,e] none (some 2)=[a,b]:=rfl
theorem F3 (a b c d e:V):dk [a,b,c,d,e] (some 3) none=[d,e]:=rfl
section
variable {P:Program}{w:World}{K:PySem.W.Frag}{mg:Str→Option Value}{base:Heap}
theorem oJ {J:It}{n:Nat}{D:Addr}{H1:Hp}{σc:St}{g:TG}{te:TE}{Q:VK} (F:Nat→PyData) (hz:n≤10000) (hD:H1 D=none) (hgo:∀i H',i<n→aj H1 H'→J.go i H') (hst:∀H',aj H1 H'→J.stop n H')
 (hs:∀i x H' H'' (R:VK),i<n→aj H1 H'→J.yld i H' x H''→(∀y H4,aj H' H4→bE ED H4 y (F i)→R y H4)→g x σc H'' fun σ2 H2=>iS σc σ2∧te σ2 H2 R)
 (hd:∀H' zs,aj H1 H'→H' D=some (.lst zs)→aJ ED H' zs ((List.range n).map F)→Q (.ref D) H'):oN J σc g tT te D H1 Q:=by
 refine kJ (n:=n) (fun i H' zs=>H' D=some (.lst zs)∧aJ ED H' zs ((List.range i).map F)∧aj H1 H') (fE hz) ⟨aC,.nil,gc hD (aj.refl _)⟩ ?_ ?_ ?_ ?_ ?_
 ·rintro i H' zs ⟨q,r,_⟩
  exact ⟨q,by rw [r.length];simp⟩
 ·rintro i H' zs hi ⟨_,_,sm⟩
  exact hgo i H' hi sm
 ·rintro H' zs ⟨_,_,sm⟩
  exact hst H' sm
 ·rintro i H' zs x H'' hi ⟨q,r,sm⟩ y
  refine hs i x H' H'' _ hi sm y fun y H4 s4 gy=>?_
  have q4:=s4 _ _ q
  have c':Ch H4 D (zs++[y]) (aI H4 D (.lst (zs++[y]))):=Ch.mk'
  refine ⟨q4,aC,?_,gc hD (sm.trans s4)⟩
  rw [List.range_succ,List.map_append]
  exact ((r.mono s4.toE).append (.cons gy .nil)).mono ⟨fun _ _ n _=>absurd trivial n,fun _ _ e=>c'.tup e q4⟩
 ·rintro H' zs ⟨q,r,sm⟩
  exact hd H' zs sm q r
inductive FF (vs:List V) (H:Hp) (Q:VK):Prop
 | mk (b:Addr) (many t:Int) (h0:vs=[.ref b,.int many]) (h1:Bx H b t) (h2:0≤t) (h3:t≤800000) (h4:2≤many) (h5:many≤8) (h6:∀(q:Addr) (v:V) (g:Bool) (ls:List (List Nat)) (ts:List ah) (t':Int) (H':Hp),bh (Eb b) H H'→H' q=some (.tup [v,.bl g])→bE ED H' v (eT ls ts)→(∀t∈ts,fA ls t)→ke ls ts g→ls.length=many.toNat→Bx H' b t'→t≤t'→t'≤t+40→Q (.ref q) H')
def GT:Sp:=fun vs H Q _=>FF  vs H Q
theorem u9 (T:Txt K mg):bv P w K mg base CX0 3 T.l_ring_net_.f T.l_ring_net_.d ["_law_box_here", "_law_many"] GT:=by
 have G_l_take:=nM (P:=P) (w:=w) (base:=base) T
 have G_l_frac:=qA (P:=P) (w:=w) (base:=base) T
 have G_l_names_by:=nu (P:=P) (w:=w) (base:=base) T
 have G_l_product:=jt (P:=P) (w:=w) (base:=base) T
 have G_l_over:=zj (P:=P) (w:=w) (base:=base) T
 refine T.l_ring_net_.F.ok bS (fun vs H Q E h=>?_) (fun cdv A outer s H vs Q E hr h=>?_)
 ·obtain ⟨b,many,t,rfl,_⟩:=h
  rfl
 ·obtain ⟨b,many,t,rfl,B,ht0,ht1,hm1,hm2,k⟩:=h
  obtain ⟨n,rfl⟩:∃n:Nat,many=(n:Int):=⟨many.toNat,by trivial⟩
  refine ⟨_,(@ae _ _ _ _ _ (@aL _ _ (2) _ _ _ _ bS.nd rfl (Or.inr i6) (@ap _ _ _ _ _ _ _ _ _ _ _ _ _ _ _ _ G_l_names_by (hr.mono (by decide)) mF T.l_names_by_.m T.l_names_by_.F.kp T.l_names_by_.B .nil (@aK _) (@aa _ _ _ _ _ (@pw _ 0 _ _ (Or.inr (Or.inl b8)) (by rfl) (by decide) (by decide)) (@aa _ _ _ _ _ (@pw _ 1 _ _ (Or.inr (Or.inl cg)) (by rfl) (by decide) (by decide)) (@ac _) rfl) rfl) (by decide) (by rfl) (by rfl)) (by rfl) (by first | exact .inl rfl | exact .inr rfl | assumption)) (@ae _ _ _ _ _ (@aL _ _ (3) _ _ _ _ bS.nd rfl (Or.inr b6) (@ft _ _ _ _ _ _ _ (["_law_k", "_law_box_here"]) (1) ([0]) _ _ _ _ rfl (by kernel_rfl) (@cz _ _ _ _ _ _ ki T.b_range (@aa _ _ _ _ _ (@be _ _ _ _ _ _ _ _ _ (@yT _ rfl) ss T.b_min (@xO) (@aa _ _ _ _ _ (@aB _ _ _ _ _ _ _ _ (@md _) (@pw _ 1 _ _ (Or.inr (Or.inl cg)) (by rfl) (by decide) (by decide)) (@ad _ _ _ _)) (@aa _ _ _ _ _ (@ad _ _ _ _) (@ac _) rfl) rfl) (by decide) (by decide) (by rfl) (by rfl)) (@ac _) rfl) (by rfl)) (fun _ _ _ _ _ _=>(@aw _ _ (0) _ (@cG _ (by kernel_rfl)) rfl (Or.inl (by kernel_rfl)) (by first | exact .inl rfl | exact .inr rfl | assumption))) (fun _ _ _ _ _ _=>@ca _) (fun _ _ _ _ _ _=>(@ap _ _ _ _ _ _ _ _ _ _ _ _ _ _ _ _ G_l_frac (hr.mono (by decide)) (by show _=_;kernel_rfl) T.l_frac_.m T.l_frac_.F.kp T.l_frac_.B .nil (@aK _) (@aa _ _ _ _ _ (@aB _ _ _ _ _ _ _ _ (@cx _) (@ad _ _ _ _) (@ap _ _ _ _ _ _ _ _ _ _ _ _ _ _ _ _ G_l_take (hr.mono (by decide)) (by show _=_;kernel_rfl) T.l_take_.m T.l_take_.F.kp T.l_take_.B .nil (@aK _) (@aa _ _ _ _ _ (@pw _ 1 _ _ (Or.inr (Or.inl (by kernel_rfl))) (by rfl) (by decide) (by decide)) (@aa _ _ _ _ _ (@ad _ _ _ _) (@ac _) rfl) rfl) (by decide) (by rfl) (by rfl))) (@aa _ _ _ _ _ (@aB _ _ _ _ _ _ _ _ (@cx _) (@ad _ _ _ _) (@ap _ _ _ _ _ _ _ _ _ _ _ _ _ _ _ _ G_l_take (hr.mono (by decide)) (by show _=_;kernel_rfl) T.l_take_.m T.l_take_.F.kp T.l_take_.B .nil (@aK _) (@aa _ _ _ _ _ (@pw _ 1 _ _ (Or.inr (Or.inl (by kernel_rfl))) (by rfl) (by decide) (by decide)) (@aa _ _ _ _ _ (@ad _ _ _ _) (@ac _) rfl) rfl) (by decide) (by rfl) (by rfl))) (@ac _) rfl) rfl) (by decide) (by rfl) (by rfl))) (by intro _;rfl)) (by rfl) (by first | exact .inl rfl | exact .inr rfl | assumption)) (@ae _ _ _ _ _ (@aL _ _ (3) _ _ _ _ bS.nd rfl (Or.inr b6) (@aB _ _ _ _ _ _ _ _ (@xj _) (@pw _ 3 _ _ (Or.inr (Or.inl b6)) (by rfl) (by decide) (by decide)) (@aB _ _ _ _ _ _ _ _ (@BV _) (@dY _ _ _ _ (@aa _ _ _ _ _ (@ax _ _ _ _ _ (@aa _ _ _ _ _ (@ad _ _ _ _) (@aa _ _ _ _ _ (@ad _ _ _ _) (@ac _) rfl) rfl)) (@ac _) rfl)) (@aB _ _ _ _ _ _ _ _ (@md _) (@aB _ _ _ _ _ _ _ _ (@md _) (@pw _ 1 _ _ (Or.inr (Or.inl cg)) (by rfl) (by decide) (by decide)) (@ad _ _ _ _)) (@be _ _ _ _ _ _ _ _ _ (@ju _ (K) (by rfl)) rV T.b_len (@cq) (@aa _ _ _ _ _ (@pw _ 3 _ _ (Or.inr (Or.inl b6)) (by rfl) (by decide) (by decide)) (@ac _) rfl) (by decide) (by decide) (by rfl) (by rfl))))) (by rfl) (by first | exact .inl rfl | exact .inr rfl | assumption)) (@ae _ _ _ _ _ (@jr _ _ (4) (5) _ _ _ _ _ _ _ _ _ _ _ rfl bS.nd rfl rfl (by decide) dP gG (@aa _ _ _ _ _ (@ax _ _ _ _ _ (@aa _ _ _ _ _ (@ad _ _ _ _) (@aa _ _ _ _ _ (@ad _ _ _ _) (@ac _) rfl) rfl)) (@aa _ _ _ _ _ (@ap _ _ _ _ _ _ _ _ _ _ _ _ _ _ _ _ G_l_take (hr.mono (by decide)) eL T.l_take_.m T.l_take_.F.kp T.l_take_.B .nil (@aK _) (@aa _ _ _ _ _ (@pw _ 0 _ _ (Or.inr (Or.inl b8)) (by rfl) (by decide) (by decide)) (@aa _ _ _ _ _ (@ad _ _ _ _) (@ac _) rfl) rfl) (by decide) (by rfl) (by rfl)) (@ac _) rfl) rfl) (by kernel_rfl) (by rfl)) (@ae _ _ _ _ _ (@gm _ _ _ _ _ _ _ _ PassesOwn.never rfl (@kh _ (K) _ _ _ (@pw _ 3 _ _ (Or.inr (Or.inl b6)) (by rfl) (by decide) (by decide)) (by rfl)) (@aw _ _ (6) _ bS.nd rfl (Or.inl jG) (by first | exact .inl rfl | exact .inr rfl | assumption)) (@am _ _ _ (@aL _ _ (4) _ _ _ _ bS.nd rfl (Or.inl dP) (@ap _ _ _ _ _ _ _ _ _ _ _ _ _ _ _ _ G_l_product (hr.mono (by decide)) nz T.l_product_.m T.l_product_.F.kp T.l_product_.B .nil (@aK _) (@aa _ _ _ _ _ (@pw _ 4 _ _ (Or.inl dP) (by rfl) (by decide) (by decide)) (@aa _ _ _ _ _ (@pw _ 6 _ _ (Or.inl jG) (by rfl) (by decide) (by decide)) (@ac _) rfl) rfl) (by decide) (by rfl) (by rfl)) (by rfl) (by first | exact .inl rfl | exact .inr rfl | assumption))) (by intro _;rfl)) (@ae _ _ _ _ _ (@aL _ _ (7) _ _ _ _ bS.nd rfl (Or.inl kL) (@aq _ _ _ _ _ _ _ (@fb _ (K) (by rfl)) (@dY _ _ _ _ (@aa _ _ _ _ _ (@ax _ _ _ _ _ (@aa _ _ _ _ _ (@ad _ _ _ _) (@aa _ _ _ _ _ (@ad _ _ _ _) (@ac _) rfl) rfl)) (@aa _ _ _ _ _ (@ax _ _ _ _ _ (@aa _ _ _ _ _ (@ad _ _ _ _) (@aa _ _ _ _ _ (@ad _ _ _ _) (@ac _) rfl) rfl)) (@aa _ _ _ _ _ (@ax _ _ _ _ _ (@aa _ _ _ _ _ (@ad _ _ _ _) (@aa _ _ _ _ _ (@ad _ _ _ _) (@ac _) rfl) rfl)) (@ac _) rfl) rfl) rfl)) (@pw _ 5 _ _ (Or.inl gG) (by rfl) (by decide) (by decide)) (fun _ _=>rfl)) (by rfl) (by first | exact .inl rfl | exact .inr rfl | assumption)) (@ae _ _ _ _ _ (@jr _ _ (8) (9) _ _ _ _ _ _ _ _ _ _ _ rfl bS.nd rfl rfl (by decide) lh gF (@aa _ _ _ _ _ (@ap _ _ _ _ _ _ _ _ _ _ _ _ _ _ _ _ G_l_take (hr.mono (by decide)) eL T.l_take_.m T.l_take_.F.kp T.l_take_.B .nil (@aK _) (@aa _ _ _ _ _ (@pw _ 0 _ _ (Or.inr (Or.inl b8)) (by rfl) (by decide) (by decide)) (@aa _ _ _ _ _ (@pw _ 1 _ _ (Or.inr (Or.inl cg)) (by rfl) (by decide) (by decide)) (@ac _) rfl) rfl) (by decide) (by rfl) (by rfl)) (@aa _ _ _ _ _ (@cO _ _ _ _ _ _ _ _ (@sZ _) (@ap _ _ _ _ _ _ _ _ _ _ _ _ _ _ _ _ G_l_take (hr.mono (by decide)) eL T.l_take_.m T.l_take_.F.kp T.l_take_.B .nil (@aK _) (@aa _ _ _ _ _ (@pw _ 0 _ _ (Or.inr (Or.inl b8)) (by rfl) (by decide) (by decide)) (@aa _ _ _ _ _ (@ad _ _ _ _) (@ac _) rfl) rfl) (by decide) (by rfl) (by rfl)) (@ad _ _ _ _) (@aZ _ _ (by decide) (by decide))) (@ac _) rfl) rfl) (by kernel_rfl) (by rfl)) (@ae _ _ _ _ _ (@fN _ _ _ _ (@fS _ (K) _ _ _ _ _ _ _ _ _ _ _ PySem.F.plainAttrs_list PySem.F.slot_list_insert PySem.F.type_list_insert (@sC _) (@pw _ 3 _ _ (Or.inr (Or.inl b6)) (by rfl) (by decide) (by decide)) (@aa _ _ _ _ _ (@pw _ 8 _ _ (Or.inl lh) (by rfl) (by decide) (by decide)) (@aa _ _ _ _ _ (@ap _ _ _ _ _ _ _ _ _ _ _ _ _ _ _ _ G_l_over (hr.mono (by decide)) pj T.l_over_.m T.l_over_.F.kp T.l_over_.B .nil (@aK _) (@aa _ _ _ _ _ (@pw _ 7 _ _ (Or.inl kL) (by rfl) (by decide) (by decide)) (@aa _ _ _ _ _ (@pw _ 4 _ _ (Or.inl dP) (by rfl) (by decide) (by decide)) (@ac _) rfl) rfl) (by decide) (by rfl) (by rfl)) (@ac _) rfl) rfl) (by rfl) (by rfl) (by rfl) (by rfl) (by rfl) (by rfl)) (by rfl)) (@ae _ _ _ _ _ (@iN _ _ _ _ _ _ _ (["_law_k", "_law_gains", "_law_many", "_law_places"]) (1) ([3,1,2]) _ _ _ _ (10) _ _ _ bS.nd rfl cT (by kernel_rfl) rfl (by kernel_rfl) (@cz _ _ _ _ _ _ ki T.b_range (@aa _ _ _ _ _ (@pw _ 1 _ _ (Or.inr (Or.inl cg)) (by rfl) (by decide) (by decide)) (@ac _) rfl) (by rfl)) (fun _ _ _ _ _ _=>(@aw _ _ (0) _ (@cG _ (by kernel_rfl)) rfl (Or.inl (by kernel_rfl)) (by first | exact .inl rfl | exact .inr rfl | assumption))) (fun _ _ _ _ _ _=>@ca _) (fun _ _ _ _ _ _=>(@ax _ _ _ _ _ (@aa _ _ _ _ _ (@aq _ _ _ _ _ _ _ (@aN _ (K) (by rfl)) (@pw _ 3 _ _ (Or.inr (Or.inl (by kernel_rfl))) (by rfl) (by decide) (by decide)) (@pw _ 0 _ _ (Or.inl (by kernel_rfl)) (by rfl) (by decide) (by decide)) (fun _ _=>rfl)) (@aa _ _ _ _ _ (@aq _ _ _ _ _ _ _ (@aN _ (K) (by rfl)) (@pw _ 3 _ _ (Or.inr (Or.inl (by kernel_rfl))) (by rfl) (by decide) (by decide)) (@aB _ _ _ _ _ _ _ _ (@g9 _) (@aB _ _ _ _ _ _ _ _ (@cx _) (@pw _ 0 _ _ (Or.inl (by kernel_rfl)) (by rfl) (by decide) (by decide)) (@ad _ _ _ _)) (@pw _ 2 _ _ (Or.inr (Or.inl (by kernel_rfl))) (by rfl) (by decide) (by decide))) (fun _ _=>rfl)) (@aa _ _ _ _ _ (@ax _ _ _ _ _ (@aa _ _ _ _ _ (@ad _ _ _ _) (@aa _ _ _ _ _ (@ad _ _ _ _) (@ac _) rfl) rfl)) (@aa _ _ _ _ _ (@aq _ _ _ _ _ _ _ (@fb _ (K) (by rfl)) (@pw _ 1 _ _ (Or.inr (Or.inl (by kernel_rfl))) (by rfl) (by decide) (by decide)) (@pw _ 0 _ _ (Or.inl (by kernel_rfl)) (by rfl) (by decide) (by decide)) (fun _ _=>rfl)) (@aa _ _ _ _ _ (@ax _ _ _ _ _ (@aa _ _ _ _ _ (@ad _ _ _ _) (@aa _ _ _ _ _ (@ad _ _ _ _) (@ac _) rfl) rfl)) (@ac _) rfl) rfl) rfl) rfl) rfl))) (by intro _;rfl)) (@ae _ _ _ _ _ (@cK _ _ _ _ _ _ _ _ (@fh _ _ _ (@pw _ 9 _ _ (Or.inl gF) (by rfl) (by decide) (by decide)) (by intro _;rfl)) (@ae _ _ _ _ _ (@aL _ _ (11) _ _ _ _ bS.nd rfl (Or.inl eG) (@ap _ _ _ _ _ _ _ _ _ _ _ _ _ _ _ _ G_l_take (hr.mono (by decide)) eL T.l_take_.m T.l_take_.F.kp T.l_take_.B .nil (@aK _) (@aa _ _ _ _ _ (@pw _ 0 _ _ (Or.inr (Or.inl b8)) (by rfl) (by decide) (by decide)) (@aa _ _ _ _ _ (@pw _ 1 _ _ (Or.inr (Or.inl cg)) (by rfl) (by decide) (by decide)) (@ac _) rfl) rfl) (by decide) (by rfl) (by rfl)) (by rfl) (by first | exact .inl rfl | exact .inr rfl | assumption)) (@am _ _ _ (@eh _ _ _ _ _ _ (@aB _ _ _ _ _ _ _ _ (@rn _ _ (by rfl)) (@aB _ _ _ _ _ _ _ _ (@rn _ _ (by rfl)) (@fk _ _ _ _ _ _ _ _ _ _ (@qr _ (K) (by rfl)) (@aq _ _ _ _ _ _ _ (@fb _ (K) (by rfl)) (@pw _ 10 _ _ (Or.inl cT) (by rfl) (by decide) (by decide)) (@pw _ 11 _ _ (Or.inl eG) (by rfl) (by decide) (by decide)) (fun _ _=>rfl)) (@i5 _) (@dU _ _ _ (@ad _ _ _ _))) (@ax _ _ _ _ _ (@aa _ _ _ _ _ (@ax _ _ _ _ _ (@aa _ _ _ _ _ (@ad _ _ _ _) (@aa _ _ _ _ _ (@ad _ _ _ _) (@ac _) rfl) rfl)) (@ac _) rfl))) (@fk _ _ _ _ _ _ _ _ _ _ (@qr _ (K) (by rfl)) (@aq _ _ _ _ _ _ _ (@fb _ (K) (by rfl)) (@pw _ 10 _ _ (Or.inl cT) (by rfl) (by decide) (by decide)) (@pw _ 11 _ _ (Or.inl eG) (by rfl) (by decide) (by decide)) (fun _ _=>rfl)) (@dU _ _ _ (@ad _ _ _ _)) (@i5 _))) (@oo _ _ _ _ _ _ _ (@pw _ 10 _ _ (Or.inl cT) (by rfl) (by decide) (by decide)) (@pw _ 11 _ _ (Or.inl eG) (by rfl) (by decide) (by decide)) (@ur _) (by intro _;rfl)) (by rfl) (by rfl) (by rfl)))) (@bM _)) (@am _ _ _ (@aM _ _ _ _ (@ax _ _ _ _ _ (@aa _ _ _ _ _ (@ax _ _ _ _ _ (@aa _ _ _ _ _ (@pw _ 2 _ _ (Or.inr (Or.inl i6)) (by rfl) (by decide) (by decide)) (@aa _ _ _ _ _ (@dQ _ _ _ _ _ _ _ _ _ (@dW _ (K) (by rfl)) pV T.b_tuple (@dE) (@aa _ _ _ _ _ (@pw _ 10 _ _ (Or.inl cT) (by rfl) (by decide) (by decide)) (@ac _) rfl) (by decide) (by decide) (by rfl) (by rfl)) (@ac _) rfl) rfl)) (@aa _ _ _ _ _ (@kq _ _ _ _ _ _ _ (@cO _ _ _ _ _ _ _ _ (@sZ _) (@pw _ 5 _ _ (Or.inl gG) (by rfl) (by decide) (by decide)) (@ad _ _ _ _) (@aZ _ _ (by decide) (by decide))) (@kI _ _ _ _ _ (@vA _ _ _ _ (@pw _ 9 _ _ (Or.inl gF) (by rfl) (by decide) (by decide))))) (@ac _) rfl) rfl)))))))))))))),?_⟩
  refine bO fun Q1 nA1=>⟨_,rfl,_,rfl,b,n,t,rfl,B,ht0,Int.le_trans ht1 (by decide),by trivial,fun pl ls t1 H1 s1 hpl ll nd nc B1 h1a h1b=>nA1 _ _ ?_⟩
  refine bO fun Q2 nA2=>⟨_,rfl,_,_,rfl,rfl,_,_,rfl,_,rfl,?_,?_,fun D hD=>?_⟩
  ·split <;> trivial
  ·split <;> trivial
  obtain ⟨c0,ec0,hc0,hc1⟩:∃c0:Nat,(if (2:Int)<(n:Int) - 1 then (2:Int) else (n:Int) - 1).toNat=c0∧c0≤2∧c0+1≤n:=⟨_,rfl,by split <;> trivial,by split <;> trivial⟩
  have nDb:¬D=b:=fun z=>B1.ne hD z.symm
  rw [ec0]
  refine kJ (n:=c0) (fun i H' xs=>bz fun (gs:List KM.Fra) (t':Int)=>H' D=some (.lst xs)∧aJ ED H' xs (gs.map cJ)∧gs.length=i∧(∀g∈gs,Bd 3 g)∧Bx H' b t'∧t1≤t'∧t'≤t1+2*i∧bh (Eb b) H1 H') (fE (by trivial)) ⟨[],t1,aC,.nil,rfl,(fun p hp=>by cases hp),B1.same (aj.new hD),by trivial,by trivial,(aj.new hD).toE⟩ ?_ ?_ ?_ ?_ ?_
  ·rintro i H' xs ⟨ps,t',e1,e2,rfl,_⟩
   exact ⟨e1,by rw [e2.length,List.length_map];exact Nat.le_refl _⟩
  ·exact fun i H' xs hi _=>hi
  ·exact fun H' xs _=>Nat.le_refl _
  ·rintro i Ha xs x Hb hi ⟨ps,t',eD,iD,lD,gD,BD,h1,h2,sE⟩ ⟨rfl,rfl⟩
   obtain ⟨Ta,Tb⟩:0≤t'∧t'≤900000:=by trivial
   refine ⟨fF,_,rfl,b,3,t',rfl,BD,by decide,by decide,Ta,Int.le_trans Tb (by decide),fun r3 t3 K3 r30 r31 h3a h3b s3 B3=>⟨_,_,rfl,rfl,_,rfl,b,3,t3,rfl,B3,by decide,by decide,Int.le_trans Ta h3a,tN h3b Tb (by decide),fun r4 t4 K4 r40 r41 h4a h4b s4 B4=>⟨_,_,rfl,rfl,1+r3,1+r4,rfl,by trivial,Sz.mono (m:=40) (by show (1+r4).natAbs<1099511627776;trivial) (by decide),fun o5 K5 n5=>?_⟩⟩⟩
   have js:bh (Eb b) Hb K5:=(s3.trans s4).trans n5.sm.toE
   have eD5:=js.old D _ nDb eD
   have c':Ch K5 D (xs++[.ref o5]) (aI K5 D (.lst (xs++[.ref o5]))):=Ch.mk'
   refine ⟨eD5,ps++[KM.low (1+r3) (1+r4)],t4,aC,?_,by rw [List.length_append,lD];rfl,fun p hp=>?_,(B4.same n5.sm).ch c' (fun z=>nDb z.symm),by trivial,by trivial,(sE.trans js).up hD⟩
   ·rw [List.map_append]
    exact ((iD.tupS js).append (.cons (cQ n5.at') .nil)).mono ⟨fun _ _ n _=>absurd trivial n,fun _ _ e=>c'.tup e eD5⟩
   ·rcases List.mem_append.mp hp with z | z
    ·exact gD p z
    ·rw [List.mem_singleton.mp z];exact wC (by trivial) (by trivial) (by trivial) (by trivial)
  rintro H2 xs ⟨gs,t2,eD,iD,lD,gD,B2,h2a,h2b,s2⟩
  refine nA2 _ _ ?_
  obtain ⟨T2a,T2b⟩:t≤t2∧t2≤t+16:=by trivial
  have T20:=Int.le_trans ht0 T2a
  have T2N:t2≤900000:=by trivial
  clear h1a h1b h2a h2b
  have lx:xs.length=c0:=by rw [iD.length,List.length_map,lD]
  refine bO fun Q3 nA3=>⟨_,rfl,(by show 2≤10000;decide),fun u3 H3 n3=>⟨(by show 1≤10000;decide),fun l4 H4 n4=>⟨_,rfl,_,_,rfl,rfl,_,rfl,D,_,rfl,.inl (aG.of (n4.sm _ _ (n3.sm _ _ eD))),_,_,rfl,rfl,l4,_,_,rfl,rfl,n4.at',by trivial,by trivial,by simp;trivial,fun l5 H5 n5=>⟨D,l5,_,_,rfl,rfl,n5.sm _ _ (n4.sm _ _ (n3.sm _ _ eD)),n5.at',?_,fun G H6 n6=>nA3 _ _ ?_⟩⟩⟩⟩
  ·rw [vZ,List.length_replicate,lx];trivial
  have s36:aj H2 H6:=((n3.sm.trans n4.sm).trans n5.sm).trans n6.sm
  obtain ⟨cr,ecr⟩:∃cr:Nat,((n:Int) - 1 - (xs.length:Int)).toNat=cr:=⟨_,rfl⟩
  have hG:H6 G=some (.lst (xs++List.replicate cr (.ref u3))):=by
   have:=n6.at'
   rw [vZ,ecr] at this
   exact this
  have B6:=B2.same s36
  have B5:=((B2.same n3.sm).same n4.sm).same n5.sm
  have nG:¬G=b:=fun z=>B5.ne n6.fr z.symm
  have s05:bh (Eb b) H H5:=(s1.trans s2).trans ((n3.sm.trans n4.sm).trans n5.sm).toE
  have fG:H G=none:=by
   cases q:H G with
   | none=>rfl
   | some o=>have:=s05.old G o nG q;rw [n6.fr] at this;cases this
  have iG:aJ ED H6 (xs++List.replicate cr (.ref u3)) ((gs++List.replicate cr (1,1)).map cJ):=by
   rw [List.map_append,List.map_replicate]
   exact (iD.mono s36.toE).append (xl (cQ (p:=(1,1)) (n6.sm _ _ (n5.sm _ _ (n4.sm _ _ n3.at')))) cr)
  have bG:∀g∈gs++List.replicate cr (1,1),Bd 3 g:=fun g hg=>by
   rcases List.mem_append.mp hg with z | z
   ·exact gD g z
   ·rw [(List.mem_replicate.mp z).2];exact vV.mono (by decide)
  have bw:Bd 9 ((gs++List.replicate cr (1,1)).foldl KM.lTim (1,1)):=Ax (by trivial) gD
  have lG:(gs++List.replicate cr ((1,1):KM.Fra)).length+1=n:=by rw [List.length_append,List.length_replicate,lD];trivial
  have lG':(xs++List.replicate cr (V.ref u3)).length+1=n:=by rw [List.length_append,List.length_replicate,lx];trivial
  generalize gs++List.replicate cr ((1,1):KM.Fra)=gg at iG bG bw lG
  generalize xs++List.replicate cr (V.ref u3)=xx at hG iG lG'
  refine tJ fun Q4 nP4=>⟨(by show 2≤10000;decide),fun u7 H7 n7=>⟨_,rfl,b,3,t2,rfl,B6.same n7.sm,by decide,by decide,T20,Int.le_trans T2N (by decide),fun kd t8 H8 kd0 kd1 h8a h8b s8 B8=>nP4 _ _ _ ?_⟩⟩
  have s68:bh (Eb b) H6 H8:=n7.sm.toE.trans s8
  have hG8:=s68.old G _ nG hG
  refine bT fun DB nB=>⟨_,rfl,G,rfl,⟨_,aG.of hG8⟩,?_⟩
  refine vP (xs:=xx) (fun i σ H'=>bz fun (v6:Option V) (o:Addr)=>σ=[some (.ref b),some (.int (n:Int)),some (.ref pl),some (.ref G),some (.ref o),some (.int kd),v6,none,none,none,none,none]∧H' o=some (fr ((gg.take i).foldl KM.lTim (1,1)))∧Gb (1+2*i) (1+2*i) ((gg.take i).foldl KM.lTim (1,1))∧aj H8 H') ⟨_,u7,rfl,s8.tup _ _ n7.at',sf,aj.refl _⟩ ?_ ?_ ?_
  ·rintro i σ H' _ ⟨v6,o,rfl,_,_,sm⟩
   exact aG.of (sm _ _ hG8)
  ·rintro i x σ H' hx ⟨v6,o,rfl,ho,go,sm⟩
   have hi:i<xx.length:=(List.getElem?_eq_some_iff.mp hx).1
   obtain ⟨dx,edx,gx⟩:=iG.get hx
   rw [List.getElem?_map] at edx
   obtain ⟨g,eg,rfl⟩:=Option.map_eq_some_iff.mp edx
   obtain ⟨og,rfl,hog⟩:=jP gx
   have hog':=sm _ _ (s68.tup _ _ hog)
   refine ⟨_,rfl,_,rfl,o,og,_,g,_,_,2,2,rfl,ho,hog',go,(bG g (List.mem_of_getElem? eg)).gb (by decide),by trivial,by trivial,by decide,by decide,(fun z=>by cases z),fun o' H9 n9=>⟨_,o',rfl,?_,?_,sm.trans n9.sm⟩⟩
   ·rw [List.take_succ,eg,Option.toList_some,List.foldl_append]
    exact n9.at'
   ·rw [List.take_succ,eg,Option.toList_some,List.foldl_append]
    exact go.tim ((bG g (List.mem_of_getElem? eg)).gb (m:=2) (by decide)) (by trivial) (by trivial)
  rintro σ H9 ⟨v6,o,rfl,ho,go,s9⟩
  have elen:xx.length=gg.length:=by trivial
  rw [elen,List.take_length] at ho go
  refine nB _ _ ?_
  clear nB DB
  have pw:=xC gg (1,1) (a:=3) vV.rd bG
  rw [jz,Rat.one_mul] at pw
  generalize gg.foldl KM.lTim (1,1)=wh at ho go bw pw
  refine bO fun Q5 nA5=>⟨(by show 2≤10000;decide),fun u1 K1 m1=>⟨(by show 2≤10000;decide),fun u2 K2 m2=>⟨(by show 2≤10000;decide),fun u3 K3 m3=>⟨(by show 3≤10000;decide),fun l4 K4 m4=>?_⟩⟩⟩⟩
  obtain ⟨ud,dq,eud,hud,bdd,k2,kn⟩:bz fun ud dq=>ma [V.ref u1,V.ref u2,V.ref u3] kd=some (.ref ud)∧K4 ud=some (fr dq)∧Bd 4 dq∧(kd=2→1<KM.vl dq)∧(kd≠2→KM.vl dq≤1):=by
   obtain rfl | rfl | rfl:kd=0∨kd=1∨kd=2:=by trivial
   ·exact ⟨u1,(1,1),rfl,m4.sm _ _ (m3.sm _ _ (m2.sm _ _ m1.at')),vV.mono (by decide),fun z=>absurd z (by decide),fun _=>by rw [jz];exact Rat.le_refl⟩
   ·exact ⟨u2,(3,4),rfl,m4.sm _ _ (m3.sm _ _ m2.at'),⟨by decide,by decide,by decide,by decide,by decide⟩,fun z=>absurd z (by decide),fun _=>EZ⟩
   ·exact ⟨u3,(4,3),rfl,m4.sm _ _ m3.at',⟨by decide,by decide,by decide,by decide,by decide⟩,fun _=>Fa,fun z=>absurd rfl z⟩
  refine ⟨_,rfl,l4,_,_,_,rfl,rfl,aG.of m4.at',eud,nA5 _ _ ?_⟩
  have sK:aj H8 K4:=(((s9.trans m1.sm).trans m2.sm).trans m3.sm).trans m4.sm
  refine tJ fun Q6 nP6=>⟨_,rfl,_,rfl,b,(n:Int),t8,rfl,B8.same sK,by trivial,yo (by trivial) (by trivial),Int.le_trans T20 h8a,tN h8b T2N (by decide),fun ai t9 K5 ai0 ai1 h9a h9b sK5 BK5=>⟨_,rfl,b,2,t9,rfl,BK5,by decide,by decide,Int.le_trans (Int.le_trans T20 h8a) h9a,tN h9b (tN h8b T2N (M:=900001) (by decide)) (by decide),fun r t10 K6 r0 r1 h10a h10b sK6 BK6=>⟨rfl,nP6 _ _ _ ?_⟩⟩⟩
  obtain ⟨T3a,T3b⟩:t≤t10∧t10≤t+20:=by trivial
  have T3N:t10≤900010:=by trivial
  clear h8a h8b h9a h9b h10a h10b T2a T2b T20 T2N
  generalize decide (V.int r=V.int 0)=sh
  have s86:bh (Eb b) H8 K6:=(sK.toE.trans sK5).trans sK6
  have hG6:=s86.old G _ nG hG8
  have ho6:=sK6.tup _ _ (sK5.tup _ _ (m4.sm _ _ (m3.sm _ _ (m2.sm _ _ (m1.sm _ _ ho)))))
  have hud6:=sK6.tup _ _ (sK5.tup _ _ hud)
  refine bT fun DC nC=>⟨_,rfl,.inl ⟨rfl,_,aG.of hG6⟩,_,rfl,_,rfl,_,rfl,ud,o,dq,wh,4,4,4,4,rfl,hud6,ho6,bdd.gb (by decide),bw.gb (by decide),by decide,by decide,by decide,by decide,(fun _=>bw.n1),fun ov K7 n8=>?_⟩
  refine ⟨G,_,_,_,rfl,rfl,n8.sm _ _ hG6,ai0,by trivial,by trivial,fun K8 c8=>nC _ _ ?_⟩
  clear nC DC
  obtain ⟨a0,rfl⟩:∃a0:Nat,ai=(a0:Int):=⟨ai.toNat,by trivial⟩
  rw [Int.toNat_natCast] at c8
  have bov:Bd 63 (mj dq wh):=bdd.ovr bw (by decide)
  have iG8:aJ ED K8 (xx.take a0++.ref ov :: xx.drop a0) ((gg.take a0++mj dq wh :: gg.drop a0).map cJ):=by
   have i7:aJ ED K7 xx (gg.map cJ):=((iG.tupS s68).tupS s86).mono n8.sm.toE
   have:aJ ED K7 (xx.take a0++.ref ov :: xx.drop a0) ((gg.take a0++mj dq wh :: gg.drop a0).map cJ):=by
    rw [List.map_append,List.map_cons,List.map_take,List.map_drop]
    exact (i7.take a0).append (.cons (cQ n8.at') (i7.drop a0))
   exact this.mono ⟨fun _ _ n _=>absurd trivial n,fun _ _ e=>c8.tup e (n8.sm _ _ hG6)⟩
  have pF:bP (gg.take a0++mj dq wh :: gg.drop a0)=KM.vl dq:=by
   rw [zd,←pw];exact DP bdd bw
  have lF:(gg.take a0++mj dq wh :: gg.drop a0).length=n:=by
   rw [xo];exact lG
  have bF:∀g∈gg.take a0++mj dq wh :: gg.drop a0,Bd 63 g:=fun g hg=>by
   rcases List.mem_append.mp hg with z | z
   ·exact (bG g (List.mem_of_mem_take z)).mono (by decide)
   ·rcases List.mem_cons.mp z with rfl | z
    ·exact bov
    ·exact (bG g (List.mem_of_mem_drop z)).mono (by decide)
  have hG8':=c8.at'
  generalize gg.take a0++mj dq wh :: gg.drop a0=ff at iG8 pF lF bF
  generalize xx.take a0++V.ref ov :: xx.drop a0=yy at iG8 hG8'
  have s6K:bh (Eb b) H K8:=by
   have a1:bh (Eb b) H K7:=((s05.trans n6.sm.toE).trans s68).trans (s86.trans n8.sm.toE)
   exact ⟨fun a u ne h=>c8.ol a u (fun z=>by rw [z,fG] at h;cases h) (a1.old a u ne h),fun a us h=>c8.ol a _ (fun z=>by rw [z,fG] at h;cases h) (a1.tup a us h)⟩
  have B8':Bx K8 b t10:=(BK6.same n8.sm).ch c8 (fun z=>nG z.symm)
  have hpl8:K8 pl=some (.tup (ls.map aD)):=by
   have a1:bh (Eb b) H1 K7:=(((s2.trans s36.toE).trans s68).trans s86).trans n8.sm.toE
   exact c8.tup (a1.tup _ _ hpl) (n8.sm _ _ hG6)
  refine bO fun Q7 nA7=>⟨_,rfl,_,rfl,by trivial,by trivial,fun D2 hD2=>?_⟩
  rw [Int.toNat_natCast]
  have nDb2:¬D2=b:=fun z=>B8'.ne hD2 z.symm
  refine oJ (n:=n) (fun k=>dG ⟨ls.getD k [],ls.getD ((k+1) % n) [],(2,1),ff.getD k (1,1),(0,1)⟩) (by trivial) hD2 (fun i H' hi _=>hi) (fun H' _=>Nat.le_refl _) ?_ ?_
  ·rintro i x H' H'' R hi sm ⟨rfl,rfl⟩ kk
   have e1:(ls.map aD)[i]?=some (aD (ls.getD i [])):=by rw [List.getElem?_map,bn (d:=[]) (by trivial)];rfl
   have hi2:(i+1) % n<n:=Nat.mod_lt _ (by trivial)
   have e2:(ls.map aD)[(i+1) % n]?=some (aD (ls.getD ((i+1) % n) [])):=by rw [List.getElem?_map,bn (d:=[]) (by trivial)];rfl
   have eI:((0:Int)+(i:Int)+1) % (n:Int)=(((i+1) % n:Nat):Int):=by rw [Int.natCast_emod,Int.natCast_add,Int.zero_add];rfl
   obtain ⟨y,ey⟩:∃y,yy[i]?=some y:=⟨_,List.getElem?_eq_getElem (by rw [iG8.length,List.length_map];trivial)⟩
   obtain ⟨dy,edy,gy⟩:=iG8.get ey
   rw [List.getElem?_map,bn (d:=(1,1)) (by trivial)] at edy
   obtain rfl:cJ (ff.getD i (1,1))=dy:=Option.some.inj edy
   obtain ⟨og,rfl,hog⟩:=jP gy
   refine ⟨fF,_,rfl,_,rfl,pl,_,_,_,rfl,rfl,au.of (sm _ _ hpl8),by rw [Int.zero_add];exact bH e1,?_⟩
   refine ⟨_,rfl,_,rfl,_,_,rfl,rfl,_,rfl,_,_,rfl,rfl,by trivial,pl,_,_,_,rfl,rfl,au.of (sm _ _ hpl8),by show ma _ (((0:Int)+(i:Int)+1) % (n:Int))=_;rw [eI];exact bH e2,?_⟩
   refine ⟨(by show 2≤10000;decide),fun u1 J1 m1=>⟨_,rfl,_,rfl,G,_,_,_,rfl,rfl,aG.of (m1.sm _ _ (sm _ _ hG8')),by rw [Int.zero_add];exact bH ey,(by show 2≤10000;decide),fun u2 J2 m2=>⟨(by show 5≤10000;decide),fun o J3 m3=>kk _ _ ((m1.sm.trans m2.sm).trans m3.sm) ?_⟩⟩⟩
   exact .tup m3.at' (.cons (.str _) (.cons (.str _) (.cons (cQ (p:=(2,1)) (m3.sm _ _ (m2.sm _ _ m1.at'))) (.cons (cQ (m3.sm _ _ (m2.sm _ _ (m1.sm _ _ (sm _ _ hog))))) (.cons (cQ (p:=(0,1)) (m3.sm _ _ m2.at')) .nil)))))
  intro K9 zs s9' hD9 iz
  refine nA7 _ _ ?_
  have ez:(List.range n).map (fun k=>dG ⟨ls.getD k [],ls.getD ((k+1) % n) [],(2,1),ff.getD k (1,1),(0,1)⟩)=(dc ls ff n).map dG:=by unfold dc;rw [List.map_map];rfl
  rw [ez] at iz
  have hpl9:=s9' _ _ hpl8
  have B9:=B8'.same s9'
  have s09:bh (Eb b) H K9:=s6K.trans s9'.toE
  refine Bi (fun σ' H'=>ml fun (v11:Option V) (ts:List ah) (zs:List V) (t':Int)=>σ'=[some (.ref b),some (.int (n:Int)),some (.ref pl),some (.ref G),some (.ref o),some (.int kd),v6,some (.ref ud),some (.int (a0:Int)),some (.bl sh),some (.ref D2),v11]∧H' D2=some (.lst zs)∧aJ ED H' zs (ts.map dG)∧(∀t∈ts,fA ls t)∧ke ls ts (decide (V.int kd=V.int 2) && !sh)∧ts.length≤10∧H' pl=some (.tup (ls.map aD))∧Bx H' b t'∧t10≤t'∧t'≤t10+1∧bh (Eb b) H H') ?_ fun nx=>?_
  ·rintro σ' J ⟨v11,ts,zs',t',rfl,hz,iz',tg,rg,lts,hplJ,BJ,hja,hjb,sJ⟩
   refine ⟨_,rfl,_,rfl,D2,_,rfl,aG.of hz,fun tt J1 n1=>⟨(by show 2≤10000;decide),fun net J2 n2=>?_⟩⟩
   have s12:=n1.sm.trans n2.sm
   have hnet:∀{J3:Hp},aj J2 J3→bE ED J3 (.ref net) (eT ls ts):=fun {J3} s3=>.tup (s3 _ _ n2.at') (.cons (.tup (s3 _ _ (s12 _ _ hplJ)) (pQ ls)) (.cons (.tup (s3 _ _ (n2.sm _ _ n1.at')) (iz'.mono (s12.trans s3).toE)) .nil))
   refine ⟨_,rfl,rfl,_,rfl,?_⟩
   have fin:∀{g:Bool},ke ls ts g→∀(q:Addr) (J3:Hp),Nw J2 q (.tup [.ref net,.bl g]) J3→Q (.ref q) J3:=fun {g} rg q J3 n3=>k q (.ref net) g ls ts t' J3 (sJ.trans (s12.trans n3.sm).toE) n3.at' (hnet n3.sm) tg rg (by rw [Int.toNat_natCast];exact ll) (BJ.same (s12.trans n3.sm)) (by trivial) (by trivial)
   generalize decide (V.int kd=V.int 2)=g2 at rg ⊢
   cases g2 with
   | true=>exact cW ⟨_,rfl,_,rfl,(by show 2≤10000;decide),fun q J3 n3=>fin rg q J3 n3⟩
   | false=>exact cm ⟨(by show 2≤10000;decide),fun q J3 n3=>fin rg q J3 n3⟩
  ·refine ⟨_,rfl,_,rfl,?_⟩
   cases sh with
   | false=>
    refine cm (nx _ _ ⟨_,_,zs,t10,rfl,hD9,iz,?_⟩)
    have q:=uN nd ll (by trivial) lF bF (g:=(decide (V.int kd=V.int 2) && !false)) (fun z=>?_) (fun z=>?_)
    ·exact ⟨q.1,q.2,by rw [lP];trivial,hpl9,B9,by trivial,by trivial,s09⟩
    ·rw [pF];exact k2 (by simpa using z)
    ·rw [pF];exact kn (by simpa using z)
   | true=>
    refine cW ?_
    refine bO fun Q8 nA8=>⟨_,rfl,_,rfl,b,(n:Int),t10,rfl,B9,by trivial,yo (by trivial) (by trivial),Int.le_trans ht0 T3a,Int.le_trans T3N (by decide),fun sp t11 J1 sp0 sp1 h11a h11b sJ1 BJ1=>nA8 _ _ ?_⟩
    obtain ⟨p0,rfl⟩:∃p0:Nat,sp=(p0:Int):=⟨sp.toNat,by trivial⟩
    have hD1:=sJ1.old D2 _ nDb2 hD9
    have iz1:=iz.tupS sJ1
    have lz:zs.length=n:=by rw [iz.length,List.length_map,lP]
    obtain ⟨y,ey⟩:∃y,zs[p0]?=some y:=⟨_,List.getElem?_eq_getElem (by trivial)⟩
    obtain ⟨dy,edy,gy⟩:=iz1.get ey
    rw [List.getElem?_map] at edy
    obtain ⟨t0,et0,rfl⟩:=Option.map_eq_some_iff.mp edy
    obtain ⟨o2,om,og,op,rfl,ho2,hom,hog,hop⟩:=gf gy
    refine ⟨_,rfl,_,rfl,D2,_,_,_,rfl,rfl,aG.of hD1,bH ey,2,rfl,o2,_,rfl,au.of ho2,ho2,fun c1 J2 m2 hc1=>?_⟩
    rw [Bk] at hc1
    refine ⟨(by show 2≤10000;decide),fun u3 J3 m3=>⟨(by show 1≤10000;decide),fun w4 J4 m4=>⟨c1,w4,_,_,rfl,rfl,au.of (m4.sm _ _ (m3.sm _ _ hc1)),m4.sm _ _ (m3.sm _ _ hc1),au.of m4.at',(by simp),(by show 3≤10000;decide),fun c5 J5 m5 hc5=>?_⟩⟩⟩
    have s15:aj J1 J5:=((m2.trans m3.sm).trans m4.sm).trans m5
    refine ⟨_,rfl,_,rfl,D2,_,_,_,rfl,rfl,aG.of (s15 _ _ hD1),bH ey,3,rfl,o2,_,rfl,au.of (s15 _ _ ho2),s15 _ _ ho2,fun c6 J6 m6 hc6=>?_⟩
    rw [F3] at hc6
    refine ⟨c5,c6,_,_,rfl,rfl,au.of (m6 _ _ hc5),m6 _ _ hc5,au.of hc6,(by simp),(by show 5≤10000;decide),fun c7 J7 m7 hc7=>?_⟩
    have s17:aj J1 J7:=(s15.trans m6).trans m7
    have hD7:=s17 _ _ hD1
    refine ⟨_,rfl,_,rfl,D2,zs,_,p0,rfl,rfl,hD7,by unfold qc;rw [if_pos (by trivial),if_pos (by trivial),Int.toNat_natCast],fun J8 c8'=>nx _ _ ⟨_,(dc ls ff n).set p0 { t0 with most:=(0,1) },_,t11,rfl,c8'.at',?_⟩⟩
    have q:=zi nd ll (by trivial) lF bF et0
    have gz:bE ED J7 (.ref c7) (dG { t0 with most:=(0,1) }):=.tup hc7 (.cons (.str _) (.cons (.str _) (.cons (cQ (p:=(0,1)) (m7 _ _ (m6 _ _ (m5 _ _ (m4.sm _ _ m3.at'))))) (.cons (cQ (s17 _ _ hog)) (.cons (cQ (s17 _ _ hop)) .nil)))))
    have tupJ:∀{a:Addr}{us:List V},J7 a=some (.tup us)→J8 a=some (.tup us):=fun h=>c8'.tup h hD7
    have fD:H D2=none:=s6K.free B8' hD2
    refine ⟨?_,q.1,?_,by rw [List.length_set,lP];trivial,tupJ (s17 _ _ (sJ1.tup _ _ hpl9)),(BJ1.same s17).ch c8' (fun z=>nDb2 z.symm),by trivial,by trivial,?_⟩
    ·rw [List.map_set]
     exact (aJ.set gz p0 (iz1.mono s17.toE)).mono ⟨fun _ _ n _=>absurd trivial n,fun _ _ e=>tupJ e⟩
    ·rw [Bool.not_true,Bool.and_false];exact q.2
    ·have a1:bh (Eb b) H J7:=(s09.trans sJ1).trans s17.toE
     exact ⟨fun a u ne h=>c8'.ol a u (fun z=>by rw [z,fD] at h;cases h) (a1.old a u ne h),fun a us h=>tupJ (a1.tup a us h)⟩
end
end K14
namespace K14
open PySem L2
set_option maxHeartbeats 4000000
structure zJ (ts:List ah) (le:List Nat) (val:List Nat→Option Rat) (nx:List Nat→Nat):Prop where
 e:val le=some 1
 e0:∀t∈ts,t.bg=le→val t.en=none
 s:∀l x,l≠le→val l=some x→bz fun t y=>ts[nx l]?=some t∧t.most≠(0,1)∧t.bg=l∧val t.en=some y∧x=gR t*y∧∀i t',ts[i]?=some t'→t'.bg=l→i=nx l∨val t'.en=none∨∃y',val t'.en=some y'∧gR t'*y'<x
 n:∀l,val l=none→∀t∈ts,t.bg=l→val t.en=none
theorem zJ.at {ls:List (List Nat)}{ts:List ah}{rk:List Nat→Nat}{le:List Nat}{val:List Nat→Option Rat}{nx:List Nat→Nat}{s:LP} (h:zJ ts le val nx) (gr:xn ls ts rk) (rs:RS ts le s) :
 ∀n l,rk l<n→(val l=none→s.ω l=none)∧∀x,val l=some x→∃w,s.ω l=some w∧KM.vl w=x∧(l≠le→s.on l=some (nx l))
 | 0,l,z=>absurd z (Nat.not_lt_zero _)
 | n+1,l,z=>by
  have ih:∀{t:ah},t∈ts→t.bg=l→(val t.en=none→s.ω t.en=none)∧∀x,val t.en=some x→∃w,s.ω t.en=some w∧KM.vl w=x∧(t.en≠le→s.on t.en=some (nx t.en)):=fun {t} ht e=>zJ.at h gr rs n t.en (by have:=gr.dn t ht;rw [e] at this;trivial)
  refine ⟨fun hv=>?_,fun x hv=>?_⟩
  ·cases e:s.ω l with
   | none=>rfl
   | some w=>
    exfalso
    have ne:l≠le:=fun q=>by rw [q,h.e] at hv;cases hv
    obtain ⟨k,t,we,e1,e2,e3,e4,e5,e6⟩:=rs.step ne e
    have ht:=List.mem_of_getElem? e2
    rw [(ih ht e4).1 (h.n l hv t ht e4)] at e5
    cases e5
  ·by_cases c:l=le
   ·subst c
    rw [h.e] at hv
    cases hv
    obtain ⟨w',e1,_⟩:=rs.pv.up l (1,1) (by show (if l=l then _ else _)=_;rw [if_pos rfl])
    refine ⟨w',e1,?_,fun z=>absurd rfl z⟩
    cases q:s.on l with
    | none=>
     have:=rs.pv.no l q
     rw [e1] at this
     have this:some w'=if l=l then some ((1,1):KM.Fra) else none:=this
     rw [if_pos rfl] at this
     cases this
     exact jz
    | some k=>
     exfalso
     obtain ⟨t,w,we,e2,e3,e4,e5,e6,e7⟩:=rs.pv.on l k q
     have ht:=List.mem_of_getElem? e2
     rw [(ih ht e4).1 (h.e0 t ht e4)] at e6
     cases e6
   ·obtain ⟨t,y,e1,e2,e3,e4,e5,e6⟩:=h.s l x c hv
    have ht:=List.mem_of_getElem? e1
    obtain ⟨we,w1,w2,_⟩:=(ih ht e3).2 y e4
    obtain ⟨wb,b1,b2⟩:=rs.cl t ht e2 we w1
    rw [e3] at b1
    rw [w2,←e5] at b2
    obtain ⟨k,t',we',f1,f2,f3,f4,f5,f6⟩:=rs.step c b1
    have ht':=List.mem_of_getElem? f2
    rcases e6 k t' f2 f4 with z1 | z1 | ⟨y',z1,z2⟩
    ·subst z1
     rw [e1] at f2
     cases f2
     rw [w1] at f5
     cases f5
     rw [w2,←e5] at f6
     exact ⟨wb,b1,Rat.le_antisymm f6 b2,fun _=>f1⟩
    ·exfalso
     rw [(ih ht' f4).1 z1] at f5
     cases f5
    ·exfalso
     obtain ⟨we2,g1,g2,_⟩:=(ih ht' f4).2 y' z1
     rw [f5] at g1
     cases g1
     rw [g2] at f6
     exact absurd (qm (Rat.le_trans b2 f6) z2) (Rat.lt_irrefl)
structure pL (ls:List (List Nat)) (ts:List ah) (bs:List Nat) (g:Nat→KM.Fra):Prop where
 nd:ls.Nodup
 len:bs.length+1=ls.length
 up:∀t∈ts,t.most≠(0,1)∧∃k,ls[k]?=some t.bg∧ls[k+1]?=some t.en
 best:∀k b,bs[k]?=some b→∃t,ts[b]?=some t∧ls[k]?=some t.bg∧ls[k+1]?=some t.en∧t.gain=g k∧∀i t',ts[i]?=some t'→t'.bg=t.bg→i=b∨gR t'<gR t
theorem dZ {ls:List (List Nat)} (nd:ls.Nodup) {k:Nat}{x:List Nat} (h:ls[k]?=some x):ls.idxOf x=k:=by
 have m:=List.mem_of_getElem? h
 have h1:=List.idxOf_lt_length_of_mem m
 have e:ls[ls.idxOf x]?=some x:=by rw [List.getElem?_eq_getElem h1,List.getElem_idxOf h1]
 exact bI nd e h
def qQ (ls:List (List Nat)) (l:List Nat):Nat:=ls.length - ls.idxOf l
theorem pL.grd {ls:List (List Nat)}{ts:List ah}{bs:List Nat}{g:Nat→KM.Fra} (h:pL ls ts bs g) (l10:ls.length≤9):xn ls ts (qQ ls):=by
 refine ⟨fun t ht=>?_,fun t ht=>?_⟩
 ·obtain ⟨_,k,e1,e2⟩:=h.up t ht
  unfold qQ
  rw [dZ h.nd e1,dZ h.nd e2]
  have:=(List.getElem?_eq_some_iff.mp e2).1
  trivial
 ·obtain ⟨_,k,e1,e2⟩:=h.up t ht
  unfold qQ
  rw [dZ h.nd e2]
  trivial
abbrev gP (g:Nat→KM.Fra):Nat→Rat:=fun k=>KM.vl (g k)
def yp (ls:List (List Nat)) (g:Nat→KM.Fra) (to:Nat) (l:List Nat):Option Rat:=if ls.idxOf l≤to then some (PP (gP g) (ls.idxOf l) (to - ls.idxOf l)) else none
def A7 (ls:List (List Nat)) (bs:List Nat) (l:List Nat):Nat:=bs.getD (ls.idxOf l) 0
theorem ij {ls:List (List Nat)}{g:Nat→KM.Fra}{to k:Nat}{l:List Nat} (nd:ls.Nodup) (h:ls[k]?=some l):yp ls g to l=if k≤to then some (PP (gP g) k (to - k)) else none:=by
 unfold yp
 rw [dZ nd h]
theorem pL.exq {ls:List (List Nat)}{ts:List ah}{bs:List Nat}{g:Nat→KM.Fra}{to:Nat}{le:List Nat} (h:pL ls ts bs g) (tk:∀t∈ts,dR ls t) (hle:ls[to]?=some le):zJ ts le (yp ls g to) (A7 ls bs):=by
 have hto:=(List.getElem?_eq_some_iff.mp hle).1
 refine ⟨?_,fun t ht e=>?_,fun l x ne hv=>?_,fun l hv t ht e=>?_⟩
 ·rw [ij h.nd hle,if_pos (Nat.le_refl _),Nat.sub_self];rfl
 ·obtain ⟨_,k,e1,e2⟩:=h.up t ht
  rw [e] at e1
  have:=bI h.nd e1 hle
  rw [ij h.nd e2,if_neg (by trivial)]
 ·have hk:ls.idxOf l≤to:=by
   unfold yp at hv
   by_cases c:ls.idxOf l≤to
   ·exact c
   ·rw [if_neg c] at hv;cases hv
  have hk1:ls.idxOf l<ls.length:=by trivial
  have el:ls[ls.idxOf l]?=some l:=by rw [List.getElem?_eq_getElem hk1,List.getElem_idxOf hk1]
  have hk2:ls.idxOf l<to:=by
   refine Nat.lt_of_le_of_ne hk fun z=>ne ?_
   rw [z,hle] at el
   exact (Option.some.inj el).symm
  rw [ij h.nd el,if_pos hk] at hv
  have hb:bs[ls.idxOf l]?=some (A7 ls bs l):=bn (by have:=h.len;trivial)
  obtain ⟨t,t1,t2,t3,t4,t5⟩:=h.best _ _ hb
  have ht:=List.mem_of_getElem? t1
  rw [el] at t2
  have e3:t.bg=l:=(Option.some.inj t2).symm
  generalize ls.idxOf l=k at hk hk1 el hk2 hv hb t3 t4
  have ex:x=gR t*PP (gP g) (k+1) (to - (k+1)):=by
   have:=Option.some.inj hv
   rw [show to - k=to - (k+1)+1 by trivial,oP] at this
   rw [←this]
   show KM.vl (g k)*_=KM.vl t.gain*_
   rw [t4]
  refine ⟨t,PP (gP g) (k+1) (to - (k+1)),t1,(h.up t ht).1,e3,by rw [ij h.nd t3,if_pos (by trivial)],ex,fun i t' et' eb=>?_⟩
  obtain ⟨_,k',a1,a2⟩:=h.up t' (List.mem_of_getElem? et')
  rw [eb] at a1
  obtain rfl:=bI h.nd a1 el
  rcases t5 i t' et' (eb.trans e3.symm) with z | z
  ·exact .inl z
  ·refine .inr (.inr ⟨_,by rw [ij h.nd a2,if_pos (by trivial)],?_⟩)
   rw [ex]
   refine Rat.mul_lt_mul_of_pos_right z ?_
   have gp:∀m a,a+m<ls.length→0<PP (gP g) a m:=by
    intro m
    induction m with
    | zero=>intro a _;show (0:Rat)<1;decide
    | succ m ih=>
     intro a hm
     have hb':bs[a+m]?=some (bs.getD (a+m) 0):=bn (by have:=h.len;trivial)
     obtain ⟨t9,b1,_,_,b4,_⟩:=h.best _ _ hb'
     have c9:=tk t9 (List.mem_of_getElem? b1)
     have p9:0<gR t9:=fQ c9.g1 c9.g2
     refine Rat.mul_pos (ih a (by trivial)) ?_
     show 0<KM.vl (g (a+m))
     rw [←b4]
     exact p9
   exact gp _ _ (by trivial)
 ·obtain ⟨_,k,e1,e2⟩:=h.up t ht
  rw [e] at e1
  rw [ij h.nd e1] at hv
  by_cases c:k≤to
  ·rw [if_pos c] at hv;cases hv
  ·rw [ij h.nd e2,if_neg (by trivial)]
theorem EG {ls:List (List Nat)} (h:ls.length≤9) (l:List Nat):qQ ls l≤9:=by unfold qQ;trivial
theorem pL.gain {ls:List (List Nat)}{ts:List ah}{bs:List Nat}{g:Nat→KM.Fra}{a to:Nat}{la le:List Nat}{s:LP} (h:pL ls ts bs g) (l10:ls.length≤9) (tk:∀t∈ts,dR ls t) (ha:ls[a]?=some la) (hle:ls[to]?=some le) (rs:RS ts le s) :
 (a≤to→∃w,s.ω la=some w∧KM.Rd w∧KM.vl w=PP (gP g) a (to - a))∧(to<a→s.ω la=none):=by
 have q:=(h.exq tk hle).at (h.grd l10) rs _ la (Nat.lt_succ_self _)
 rw [ij h.nd ha] at q
 refine ⟨fun c=>?_,fun c=>q.1 (if_neg (by trivial))⟩
 obtain ⟨w,w1,w2,_⟩:=q.2 _ (if_pos c)
 exact ⟨w,w1,(rs.pv.pos la w w1).2,w2⟩
theorem pL.way {ls:List (List Nat)}{ts:List ah}{bs:List Nat}{g:Nat→KM.Fra}{to:Nat}{le:List Nat}{s:LP} (h:pL ls ts bs g) (l10:ls.length≤9) (tk:∀t∈ts,dR ls t) (hle:ls[to]?=some le) (rs:RS ts le s) :
 ∀{la R:List Nat},qR ts le s.on la R→∀a,ls[a]?=some la→a≤to→R=(bs.drop a).take (to - a):=by
 intro la R f
 induction f with
 | nil=>
  intro a ha _
  have:=bI h.nd ha hle
  subst this
  rw [Nat.sub_self,List.take_zero]
 | @cons p k t R ne eo et _ ih=>
  intro a ha hto
  have q:=(h.exq tk hle).at (h.grd l10) rs _ p (Nat.lt_succ_self _)
  rw [ij h.nd ha] at q
  obtain ⟨w,w1,w2,w3⟩:=q.2 _ (if_pos hto)
  have w4:=w3 ne
  rw [eo] at w4
  have a1:a<to:=by
   refine Nat.lt_of_le_of_ne hto fun z=>ne ?_
   rw [z,hle] at ha
   exact (Option.some.inj ha).symm
  have hto':=(List.getElem?_eq_some_iff.mp hle).1
  have eb:bs[a]?=some k:=by
   have e1:A7 ls bs p=bs.getD a 0:=by unfold A7;rw [dZ h.nd ha]
   rw [bn (d:=0) (by have:=h.len;trivial),←e1,Option.some.inj w4]
  obtain ⟨t',b1,b2,b3,_⟩:=h.best _ _ eb
  rw [et] at b1
  cases b1
  rw [ih (a+1) b3 a1]
  obtain ⟨hb,eb'⟩:=List.getElem?_eq_some_iff.mp eb
  rw [List.drop_eq_getElem_cons hb,eb',show to - a=to - (a+1)+1 by trivial,List.take_succ_cons]
theorem pL.hold {ls:List (List Nat)}{ts:List ah}{bs:List Nat}{g:Nat→KM.Fra}{m:Nat} (h:pL ls ts bs g) (tk:∀t∈ts,dR ls t) (e:(bN ts (m+1)).lf=none) {a:Nat} (ha:a<ls.length) :
 (∀j,a+j<ls.length→PP (gP g) a j≤uW (bN ts m) (ls.getD a []))∧∃j,a+j<ls.length∧PP (gP g) a j=uW (bN ts m) (ls.getD a []):=by
 have pv:=vh tk m
 have bt:∀k,k+1<ls.length→bz fun b t=>bs[k]?=some b∧ts[b]?=some t∧t.bg=ls.getD k []∧t.en=ls.getD (k+1) []∧t.gain=g k∧∀i t',ts[i]?=some t'→t'.bg=t.bg→i=b∨gR t'<gR t:=fun k hk=>by
  have hb:bs[k]?=some (bs.getD k 0):=bn (by have:=h.len;trivial)
  obtain ⟨t,b1,b2,b3,b4,b5⟩:=h.best _ _ hb
  rw [bn (d:=[]) (by trivial)] at b2 b3
  exact ⟨_,t,hb,b1,(Option.some.inj b2).symm,(Option.some.inj b3).symm,b4,b5⟩
 have pos:∀l,0<uW (bN ts m) l:=fun l=>let ⟨p1,p2,_⟩:=pv.pos l _ rfl;fQ p1 p2
 refine wZ (g:=gP g) (u:=fun k=>uW (bN ts m) (ls.getD k [])) (n:=ls.length) ?_ ?_ ?_ ?_ (ls.length - a - 1) a (by trivial)
 ·intro k hk
  obtain ⟨b,t,_,b1,_,_,b4,_⟩:=bt k hk
  have c:=tk t (List.mem_of_getElem? b1)
  show 0≤KM.vl (g k)
  rw [←b4]
  exact Rat.le_of_lt (fQ c.g1 c.g2)
 ·intro k _
  obtain ⟨w',e1,e2⟩:=pv.up (ls.getD k []) (1,1) rfl
  cases e1
  rw [jz] at e2
  exact e2
 ·intro k hk
  obtain ⟨b,t,_,b1,b2,b3,b4,_⟩:=bt k hk
  have:=AZ tk e (List.mem_of_getElem? b1) (h.up t (List.mem_of_getElem? b1)).1
  rw [b2,b3] at this
  show KM.vl (g k)*_≤_
  rw [←b4]
  exact this
 ·intro k hk
  cases q:(bN ts m).on (ls.getD k []) with
  | none=>
   left
   have e1:(bN ts m).ω (ls.getD k [])=(1,1):=Option.some.inj (pv.no _ q)
   show KM.vl ((bN ts m).ω (ls.getD k []))=1
   rw [e1]
   exact jz
  | some i=>
   right
   obtain ⟨t',w,we,e1,e2,e3,e4,e5,e6⟩:=pv.on _ i q
   cases e4
   cases e5
   obtain ⟨_,k',a1,a2⟩:=h.up t' (List.mem_of_getElem? e1)
   rw [e3] at a1
   obtain rfl:=bI h.nd a1 (bn hk)
   have hk1:=(List.getElem?_eq_some_iff.mp a2).1
   refine ⟨hk1,?_⟩
   obtain ⟨b,t,_,b1,b2,b3,b4,b5⟩:=bt k' hk1
   rw [bn (d:=[]) hk1] at a2
   rw [←Option.some.inj a2] at e6
   have gle:gR t'≤gP g k':=by
    show gR t'≤KM.vl (g k')
    rw [←b4]
    rcases b5 i t' e1 (e3.trans b2.symm) with z | z
    ·subst z;rw [b1] at e1;cases e1;exact Rat.le_refl
    ·exact Rat.le_of_lt z
   exact Rat.le_trans e6 (Rat.mul_le_mul_of_nonneg_right gle (Rat.le_of_lt (pos _)))
end K14
namespace K14
open PySem L2
set_option maxHeartbeats 4000000
abbrev eH (l:List Nat):ah→Bool:=fun t=>decide (t.bg=l)
structure CI (ls:List (List Nat)) (ts:List ah) (i:Nat):Prop where
 ok:∀t∈ts,fA ls t∧t.most=(1,1)∧∃k,k<i∧ls[k]?=some t.bg∧ls[k+1]?=some t.en
 two:∀k l,k<i→ls[k]?=some l→bz fun x y=>ts.filter (eH l)=[x,y]∧gR x≠gR y
structure CJ (ls:List (List Nat)) (ts:List ah) (i j:Nat) (g:KM.Fra):Prop where
 ok:∀t∈ts,fA ls t∧t.most=(1,1)∧∃k,k<i+1∧ls[k]?=some t.bg∧ls[k+1]?=some t.en
 two:∀k l,k<i→ls[k]?=some l→bz fun x y=>ts.filter (eH l)=[x,y]∧gR x≠gR y
 c0:j=0→∀l,ls[i]?=some l→ts.filter (eH l)=[]
 c1:j=1→∀l,ls[i]?=some l→∃x,ts.filter (eH l)=[x]∧gR x=KM.vl g
 c2:j=2→∀l,ls[i]?=some l→bz fun x y=>ts.filter (eH l)=[x,y]∧gR x≠gR y
theorem CI.cj {ls:List (List Nat)}{ts:List ah}{i:Nat}{g:KM.Fra} (nd:ls.Nodup) (h:CI ls ts i):CJ ls ts i 0 g:=by
 refine ⟨fun t ht=>?_,h.two,fun _ l hl=>?_,(fun z=>by cases z),(fun z=>by cases z)⟩
 ·obtain ⟨a,b,k,c,d⟩:=h.ok t ht
  exact ⟨a,b,k,by trivial,d⟩
 ·rw [List.filter_eq_nil_iff]
  intro t ht z
  obtain ⟨_,_,k,c,d,_⟩:=h.ok t ht
  rw [of_decide_eq_true z] at d
  have:=bI nd d hl
  trivial
theorem CJ.ci {ls:List (List Nat)}{ts:List ah}{i:Nat}{g:KM.Fra} (h:CJ ls ts i 2 g):CI ls ts (i+1):=by
 refine ⟨h.ok,fun k l hk hl=>?_⟩
 by_cases c:k=i
 ·rw [c] at hl;exact h.c2 rfl l hl
 ·exact h.two k l (by trivial) hl
theorem CJ.ins {ls:List (List Nat)}{ts:List ah}{i j p:Nat}{g:KM.Fra}{x:ah} (nd:ls.Nodup) (h:CJ ls ts i j g) (hx:fA ls x) (hm:x.most=(1,1)) (hb:ls[i]?=some x.bg) (he:ls[i+1]?=some x.en) (g0:j=0→gR x=KM.vl g) (g1:j=1→gR x≠KM.vl g) (hj:j<2) :
 CJ ls (ts.take p++x :: ts.drop p) i (j+1) g:=by
 refine ⟨fun t ht=>?_,fun k l hk hl=>?_,(fun z=>by trivial),fun z l hl=>?_,fun z l hl=>?_⟩
 ·rcases List.mem_append.mp ht with z | z
  ·exact h.ok t (List.mem_of_mem_take z)
  ·rcases List.mem_cons.mp z with rfl | z
   ·exact ⟨hx,hm,i,by trivial,hb,he⟩
   ·exact h.ok t (List.mem_of_mem_drop z)
 ·have n:¬eH l x=true:=fun z=>by
   rw [of_decide_eq_true z] at hb
   have:=bI nd hb hl
   trivial
  rw [tR,if_neg n]
  exact h.two k l hk hl
 ·have y:eH l x=true:=decide_eq_true (by rw [hl] at hb;exact (Option.some.inj hb).symm)
  have j0:j=0:=by trivial
  exact ⟨x,Bp (h.c0 j0 l hl) y,g0 j0⟩
 ·have y:eH l x=true:=decide_eq_true (by rw [hl] at hb;exact (Option.some.inj hb).symm)
  have j1:j=1:=by trivial
  obtain ⟨x',e1,e2⟩:=h.c1 j1 l hl
  have ne:=g1 j1
  rw [←e2] at ne
  rcases Cn (k:=p) e1 y with z | z
  ·exact ⟨_,_,z,ne⟩
  ·exact ⟨_,_,z,fun q=>ne q.symm⟩
theorem BG {a:Int}{g:KM.Fra} (h:Bd a g):KM.vl (KM.lTim g (1,2))≠KM.vl g:=by
 rw [KM.vl_tim (by have:=h.d1;trivial) (by decide)]
 intro z
 have e:KM.vl (1,2)=1 / 2:=by decide +kernel
 rw [e] at z
 have:=h.pos
 grind
theorem zb:Gb 20 3 (1,1):=⟨show (1:Int).natAbs<2 ^ 20 by decide,show (1:Int).natAbs<2 ^ 3 by decide,by decide⟩
section
variable {P:Program}{w:World}{K:PySem.W.Frag}{mg:Str→Option Value}{base:Heap}
inductive E9 (vs:List V) (H:Hp) (Q:VK):Prop
 | mk (b:Addr) (many t:Int) (h0:vs=[.ref b,.int many]) (h1:Bx H b t) (h2:0≤t) (h3:t≤800000) (h4:2≤many) (h5:many≤8) (h6:∀(q:Addr) (ls:List (List Nat)) (ts:List ah) (t':Int) (H':Hp),bh (Eb b) H H'→bE ED H' (.ref q) (eT ls ts)→ls.Nodup→(∀l∈ls,oM l)→CI ls ts (ls.length - 1)→ls.length=many.toNat→ts.length≤16→Bx H' b t'→t≤t'→t'≤t+60→Q (.ref q) H')
def GP:Sp:=fun vs H Q _=>E9  vs H Q
theorem tI (T:Txt K mg):bv P w K mg base CX0 3 T.l_chain_net_.f T.l_chain_net_.d ["_law_box_here", "_law_many"] GP:=by
 have G_l_take:=nM (P:=P) (w:=w) (base:=base) T
 have G_l_frac:=qA (P:=P) (w:=w) (base:=base) T
 have G_l_names_by:=nu (P:=P) (w:=w) (base:=base) T
 have G_l_product:=jt (P:=P) (w:=w) (base:=base) T
 refine T.l_chain_net_.F.ok dS (fun vs H Q E h=>?_) (fun cdv A outer s H vs Q E hr h=>?_)
 ·obtain ⟨b,many,t,rfl,_⟩:=h
  rfl
 ·obtain ⟨b,many,t,rfl,B,ht0,ht1,hm1,hm2,k⟩:=h
  obtain ⟨n,rfl⟩:∃n:Nat,many=(n:Int):=⟨many.toNat,by trivial⟩
  refine ⟨_,(@ae _ _ _ _ _ (@jr _ _ (2) (3) _ _ _ _ _ _ _ _ _ _ _ rfl dS.nd rfl rfl (by decide) dh dO (@aa _ _ _ _ _ (@ap _ _ _ _ _ _ _ _ _ _ _ _ _ _ _ _ G_l_names_by (hr.mono (by decide)) lY T.l_names_by_.m T.l_names_by_.F.kp T.l_names_by_.B .nil (@aK _) (@aa _ _ _ _ _ (@pw _ 0 _ _ (Or.inl cM) (by rfl) (by decide) (by decide)) (@aa _ _ _ _ _ (@pw _ 1 _ _ (Or.inl jn) (by rfl) (by decide) (by decide)) (@ac _) rfl) rfl) (by decide) (by rfl) (by rfl)) (@aa _ _ _ _ _ (@dY _ _ _ _ (@ac _)) (@ac _) rfl) rfl) (by kernel_rfl) (by rfl)) (@ae _ _ _ _ _ (@gm _ _ _ _ _ _ _ _ PassesOwn.never rfl (@cz _ _ _ _ _ _ pA T.b_range (@aa _ _ _ _ _ (@aB _ _ _ _ _ _ _ _ (@md _) (@pw _ 1 _ _ (Or.inl jn) (by rfl) (by decide) (by decide)) (@ad _ _ _ _)) (@ac _) rfl) (by rfl)) (@aw _ _ (4) _ dS.nd rfl (Or.inl iy) (by first | exact .inl rfl | exact .inr rfl | assumption)) (@ae _ _ _ _ _ (@aL _ _ (5) _ _ _ _ dS.nd rfl (Or.inl gj) (@ap _ _ _ _ _ _ _ _ _ _ _ _ _ _ _ _ G_l_frac (hr.mono (by decide)) oH T.l_frac_.m T.l_frac_.F.kp T.l_frac_.B .nil (@aK _) (@aa _ _ _ _ _ (@aB _ _ _ _ _ _ _ _ (@cx _) (@ad _ _ _ _) (@ap _ _ _ _ _ _ _ _ _ _ _ _ _ _ _ _ G_l_take (hr.mono (by decide)) fY T.l_take_.m T.l_take_.F.kp T.l_take_.B .nil (@aK _) (@aa _ _ _ _ _ (@pw _ 0 _ _ (Or.inl cM) (by rfl) (by decide) (by decide)) (@aa _ _ _ _ _ (@ad _ _ _ _) (@ac _) rfl) rfl) (by decide) (by rfl) (by rfl))) (@aa _ _ _ _ _ (@aB _ _ _ _ _ _ _ _ (@cx _) (@ad _ _ _ _) (@ap _ _ _ _ _ _ _ _ _ _ _ _ _ _ _ _ G_l_take (hr.mono (by decide)) fY T.l_take_.m T.l_take_.F.kp T.l_take_.B .nil (@aK _) (@aa _ _ _ _ _ (@pw _ 0 _ _ (Or.inl cM) (by rfl) (by decide) (by decide)) (@aa _ _ _ _ _ (@ad _ _ _ _) (@ac _) rfl) rfl) (by decide) (by rfl) (by rfl))) (@ac _) rfl) rfl) (by decide) (by rfl) (by rfl)) (by rfl) (by first | exact .inl rfl | exact .inr rfl | assumption)) (@ae _ _ _ _ _ (@aL _ _ (6) _ _ _ _ dS.nd rfl (Or.inl ja) (@ap _ _ _ _ _ _ _ _ _ _ _ _ _ _ _ _ G_l_product (hr.mono (by decide)) mE T.l_product_.m T.l_product_.F.kp T.l_product_.B .nil (@aK _) (@aa _ _ _ _ _ (@pw _ 5 _ _ (Or.inl gj) (by rfl) (by decide) (by decide)) (@aa _ _ _ _ _ (@ax _ _ _ _ _ (@aa _ _ _ _ _ (@ad _ _ _ _) (@aa _ _ _ _ _ (@ad _ _ _ _) (@ac _) rfl) rfl)) (@ac _) rfl) rfl) (by decide) (by rfl) (by rfl)) (by rfl) (by first | exact .inl rfl | exact .inr rfl | assumption)) (@am _ _ _ (@gm _ _ _ _ _ _ _ _ PassesOwn.never rfl (@jO _ (K) _ _ _ (@ax _ _ _ _ _ (@aa _ _ _ _ _ (@pw _ 5 _ _ (Or.inl gj) (by rfl) (by decide) (by decide)) (@aa _ _ _ _ _ (@pw _ 6 _ _ (Or.inl ja) (by rfl) (by decide) (by decide)) (@ac _) rfl) rfl)) (by rfl)) (@aw _ _ (7) _ dS.nd rfl (Or.inl jH) (by first | exact .inl rfl | exact .inr rfl | assumption)) (@am _ _ _ (@fN _ _ _ _ (@fS _ (K) _ _ _ _ _ _ _ _ _ _ _ PySem.F.plainAttrs_list PySem.F.slot_list_insert PySem.F.type_list_insert (@sC _) (@pw _ 3 _ _ (Or.inl dO) (by rfl) (by decide) (by decide)) (@aa _ _ _ _ _ (@ap _ _ _ _ _ _ _ _ _ _ _ _ _ _ _ _ G_l_take (hr.mono (by decide)) fY T.l_take_.m T.l_take_.F.kp T.l_take_.B .nil (@aK _) (@aa _ _ _ _ _ (@pw _ 0 _ _ (Or.inl cM) (by rfl) (by decide) (by decide)) (@aa _ _ _ _ _ (@aB _ _ _ _ _ _ _ _ (@cx _) (@be _ _ _ _ _ _ _ _ _ (@ju _ (K) (by rfl)) qN T.b_len (@cq) (@aa _ _ _ _ _ (@pw _ 3 _ _ (Or.inl dO) (by rfl) (by decide) (by decide)) (@ac _) rfl) (by decide) (by decide) (by rfl) (by rfl)) (@ad _ _ _ _)) (@ac _) rfl) rfl) (by decide) (by rfl) (by rfl)) (@aa _ _ _ _ _ (@ax _ _ _ _ _ (@aa _ _ _ _ _ (@aq _ _ _ _ _ _ _ (@aN _ (K) (by rfl)) (@pw _ 2 _ _ (Or.inl dh) (by rfl) (by decide) (by decide)) (@pw _ 4 _ _ (Or.inl iy) (by rfl) (by decide) (by decide)) (fun _ _=>rfl)) (@aa _ _ _ _ _ (@aq _ _ _ _ _ _ _ (@aN _ (K) (by rfl)) (@pw _ 2 _ _ (Or.inl dh) (by rfl) (by decide) (by decide)) (@aB _ _ _ _ _ _ _ _ (@cx _) (@pw _ 4 _ _ (Or.inl iy) (by rfl) (by decide) (by decide)) (@ad _ _ _ _)) (fun _ _=>rfl)) (@aa _ _ _ _ _ (@ax _ _ _ _ _ (@aa _ _ _ _ _ (@ad _ _ _ _) (@aa _ _ _ _ _ (@ad _ _ _ _) (@ac _) rfl) rfl)) (@aa _ _ _ _ _ (@pw _ 7 _ _ (Or.inl jH) (by rfl) (by decide) (by decide)) (@aa _ _ _ _ _ (@ax _ _ _ _ _ (@aa _ _ _ _ _ (@ad _ _ _ _) (@aa _ _ _ _ _ (@ad _ _ _ _) (@ac _) rfl) rfl)) (@ac _) rfl) rfl) rfl) rfl) rfl)) (@ac _) rfl) rfl) (by rfl) (by rfl) (by rfl) (by rfl) (by rfl) (by rfl)) (by rfl))) (by intro _;rfl))))) (by intro _;rfl)) (@am _ _ _ (@aM _ _ _ _ (@ax _ _ _ _ _ (@aa _ _ _ _ _ (@pw _ 2 _ _ (Or.inl dh) (by rfl) (by decide) (by decide)) (@aa _ _ _ _ _ (@dQ _ _ _ _ _ _ _ _ _ (@dW _ (K) (by rfl)) pC T.b_tuple (@dE) (@aa _ _ _ _ _ (@pw _ 3 _ _ (Or.inl dO) (by rfl) (by decide) (by decide)) (@ac _) rfl) (by decide) (by decide) (by rfl) (by rfl)) (@ac _) rfl) rfl)))))),?_⟩
  refine tJ fun Q1 nP1=>⟨_,rfl,_,rfl,b,n,t,rfl,B,ht0,Int.le_trans ht1 (by decide),by trivial,fun pl ls t1 H1 s1 hpl ll nd nc B1 h1a h1b=>⟨Nat.zero_le _,fun L H2 n2=>nP1 _ _ _ ?_⟩⟩
  have B2:=B1.same n2.sm
  have nL:¬L=b:=fun z=>B1.ne n2.fr z.symm
  have fL:H L=none:=s1.free B1 n2.fr
  have s2:bh (Eb b) H H2:=s1.trans n2.sm.toE
  refine bT fun DA nA=>⟨_,rfl,_,_,rfl,rfl,_,rfl,by trivial,by trivial,?_⟩
  obtain ⟨n1,en1,hn1⟩:∃n1:Nat,((n:Int) - 1).toNat=n1∧n1+1=n:=⟨_,rfl,by trivial⟩
  rw [en1]
  refine kD (n:=n1) (fun i σ H'=>Dv fun (v4 v5 v6 v7:Option V) (zs:List V) (ts:List ah) (t':Int)=>σ=[some (.ref b),some (.int (n:Int)),some (.ref pl),some (.ref L),v4,v5,v6,v7]∧H' L=some (.lst zs)∧aJ ED H' zs (ts.map dG)∧ts.length=2*i∧CI ls ts i∧H' pl=some (.tup (ls.map aD))∧Bx H' b t'∧t1≤t'∧t'≤t1+4*i∧bh (Eb b) H H') ⟨_,_,_,_,[],[],t1,rfl,n2.at',.nil,rfl,⟨fun t ht=>(by cases ht),fun k l hk=>by trivial⟩,n2.sm _ _ hpl,B2,by trivial,by trivial,s2⟩ ?_ ?_
  ·rintro i σ J hi ⟨v4,v5,v6,v7,zs,ts,t',rfl,hL,iL,lts,ci,hplJ,BJ,hja,hjb,sJ⟩
   obtain ⟨Ta,Tb⟩:0≤t'∧t'≤900000:=by trivial
   refine bO fun Q2 nA2=>⟨_,rfl,b,12,t',rfl,BJ,by decide,by decide,Ta,Int.le_trans Tb (by decide),fun r3 t3 K3 r30 r31 h3a h3b s3 B3=>⟨_,_,rfl,rfl,_,rfl,b,12,t3,rfl,B3,by decide,by decide,Int.le_trans Ta h3a,tN h3b Tb (by decide),fun r4 t4 K4 r40 r41 h4a h4b s4 B4=>⟨_,_,rfl,rfl,1+r3,1+r4,rfl,by trivial,Sz.mono (m:=40) (by show (1+r4).natAbs<1099511627776;trivial) (by decide),fun o5 K5 n5=>nA2 _ _ ?_⟩⟩⟩
   obtain ⟨T4a,T4b⟩:t'≤t4∧t4≤t'+2:=by trivial
   have T40:0≤t4∧t4≤900002:=by trivial
   have bg:Bd 12 (KM.low (1+r3) (1+r4)):=wC (by trivial) (by trivial) (by trivial) (by trivial)
   generalize KM.low (1+r3) (1+r4)=g at n5 bg
   refine bO fun Q3 nA3=>⟨_,rfl,(by show 2≤10000;decide),fun u6 K6 n6=>⟨o5,u6,g,(1,2),4,4,2,2,rfl,n6.sm _ _ n5.at',n6.at',bg.gb (by decide),⟨by show (1:Int).natAbs<2 ^ 2;decide,by show (2:Int).natAbs<2 ^ 2;decide,by decide⟩,by decide,by decide,by decide,by decide,(fun z=>by cases z),fun o7 K7 n7=>nA3 _ _ ?_⟩⟩
   have b12:Bd 2 ((1,2):KM.Fra):=⟨by decide,by decide,by decide,by decide,by decide⟩
   have bw:Bd 24 (KM.lTim g (1,2)):=bg.tim b12 (by decide)
   have wne:=BG bg
   generalize KM.lTim g (1,2)=wg at n7 bw wne
   have sJ7:bh (Eb b) J K7:=((s3.trans s4).trans ((n5.sm.trans n6.sm).trans n7.sm).toE)
   refine ⟨_,rfl,_,rfl,(by show 2≤10000;decide),fun tw K8 n8=>⟨tw,rfl,⟨_,au.of n8.at'⟩,?_⟩⟩
   have sJ8:bh (Eb b) J K8:=sJ7.trans n8.sm.toE
   have B8:=(((B4.same n5.sm).same n6.sm).same n7.sm).same n8.sm
   have ho5:=n8.sm _ _ (n7.sm _ _ (n6.sm _ _ n5.at'))
   have ho7:=n8.sm _ _ n7.at'
   have e1:(ls.map aD)[i]?=some (aD (ls.getD i [])):=by rw [List.getElem?_map,bn (d:=[]) (by trivial)];rfl
   have e2:(ls.map aD)[i+1]?=some (aD (ls.getD (i+1) [])):=by rw [List.getElem?_map,bn (d:=[]) (by trivial)];rfl
   have f1:ls[i]?=some (ls.getD i []):=bn (by trivial)
   have f2:ls[i+1]?=some (ls.getD (i+1) []):=bn (by trivial)
   refine xf (xs:=[.ref o5,.ref o7]) (fun j σ H'=>ml fun (v7:Option V) (zs:List V) (ts:List ah) (t':Int)=>σ=[some (.ref b),some (.int (n:Int)),some (.ref pl),some (.ref L),some (.int (0+(i:Int))),some (.ref o5),some (.ref o7),v7]∧H' L=some (.lst zs)∧aJ ED H' zs (ts.map dG)∧ts.length=2*i+j∧CJ ls ts i j g∧Bx H' b t'∧t4≤t'∧t'≤t4+j∧bh (Eb b) H H'∧(∀a us,K8 a=some (.tup us)→H' a=some (.tup us))) ⟨_,zs,ts,t4,rfl,sJ8.old L _ nL hL,iL.tupS sJ8,lts,ci.cj nd,B8,by trivial,by trivial,sJ.trans sJ8,fun _ _ h=>h⟩ ?_ ?_ ?_
   ·rintro j σ H' _ ⟨v7,zs,ts,t',rfl,_,_,_,_,_,_,_,_,tp⟩
    exact au.of (tp _ _ n8.at')
   ·rintro j x σ H' hx ⟨v7,zs,ts,t',rfl,hL,iL,lts,cj,BJ,hja,hjb,sJ',tp⟩
    obtain ⟨ox,gx,rfl,hox,bx,x0,x1,hj⟩:bz fun ox gx=>x=.ref ox∧H' ox=some (fr gx)∧Bd 63 gx∧(j=0→KM.vl gx=KM.vl g)∧(j=1→KM.vl gx≠KM.vl g)∧j<2:=by
     match j,hx with
     | 0,hx=>cases hx;exact ⟨o5,g,rfl,tp _ _ ho5,bg.mono (by decide),fun _=>rfl,fun z=>absurd z (by decide),by decide⟩
     | 1,hx=>cases hx;exact ⟨o7,wg,rfl,tp _ _ ho7,bw.mono (by decide),fun z=>absurd z (by decide),fun _=>wne,by decide⟩
     | j+2,hx=>cases hx
    have lz:zs.length=ts.length:=by rw [iL.length,List.length_map]
    refine ⟨_,rfl,.inl ⟨rfl,_,aG.of hL⟩,_,rfl,_,rfl,L,_,rfl,.inl (aG.of hL),_,_,rfl,rfl,b,_,t',rfl,BJ,by trivial,yo (by trivial) (by trivial),Int.le_trans T40.1 hja,Int.le_trans hjb (by trivial),fun p t5 M1 p0 p1 h5a h5b m1 BM1=>?_⟩
    have tp1:∀{a:Addr}{us:List V},K8 a=some (.tup us)→M1 a=some (.tup us):=fun h=>m1.tup _ _ (tp _ _ h)
    have hpl1:=tp1 (sJ8.tup _ _ hplJ)
    refine ⟨_,rfl,_,rfl,pl,_,_,_,rfl,rfl,au.of hpl1,by rw [Int.zero_add];exact bH e1,_,rfl,_,rfl,_,_,rfl,rfl,pl,_,_,_,rfl,rfl,au.of hpl1,by rw [Int.zero_add];exact bH (j:=i+1) e2,(by show 2≤10000;decide),fun u2 M2 n2'=>⟨_,rfl,(by show 2≤10000;decide),fun u3 M3 n3'=>⟨(by show 5≤10000;decide),fun o M4 n4'=>?_⟩⟩⟩
    have s14:=(n2'.sm.trans n3'.sm).trans n4'.sm
    have hL4:=s14 _ _ (m1.old L _ nL hL)
    refine ⟨L,zs,p,_,rfl,rfl,hL4,p0,by trivial,by trivial,fun M5 c5=>?_⟩
    obtain ⟨q0,rfl⟩:∃q0:Nat,p=(q0:Int):=⟨p.toNat,by trivial⟩
    rw [Int.toNat_natCast] at c5
    have tp5:∀{a:Addr}{us:List V},M4 a=some (.tup us)→M5 a=some (.tup us):=fun h=>c5.tup h hL4
    have gt:bE ED M4 (.ref o) (dG ⟨ls.getD i [],ls.getD (i+1) [],(1,1),gx,(0,1)⟩):=.tup n4'.at' (.cons (.str _) (.cons (.str _) (.cons (cQ (p:=(1,1)) (n4'.sm _ _ (n3'.sm _ _ n2'.at'))) (.cons (cQ (s14 _ _ (m1.tup _ _ hox))) (.cons (cQ (p:=(0,1)) (n4'.sm _ _ n3'.at')) .nil)))))
    have tg:fA ls ⟨ls.getD i [],ls.getD (i+1) [],(1,1),gx,(0,1)⟩:=⟨List.mem_of_getElem? f1,List.mem_of_getElem? f2,(fun z=>by have z:ls.getD i []=ls.getD (i+1) []:=z;rw [←z] at f2;have:=bI nd f1 f2;trivial),zb,bx.gb (by decide),bx.n1,wq.mono (by decide) (by decide),by show (0:Int)≤1;decide,by show Int.gcd 1 1=1;decide⟩
    refine ⟨_,_,ts.take q0++⟨ls.getD i [],ls.getD (i+1) [],(1,1),gx,(0,1)⟩ :: ts.drop q0,t5,rfl,c5.at',?_,?_,cj.ins nd tg rfl f1 f2 x0 x1 hj,(BM1.same s14).ch c5 (fun z=>nL z.symm),by trivial,by trivial,((sJ'.trans m1).trans s14.toE).ch c5 fL,fun a us h=>tp5 (s14 _ _ (tp1 h))⟩
    ·have i4:aJ ED M4 zs (ts.map dG):=(iL.tupS m1).mono s14.toE
     rw [List.map_append,List.map_cons,List.map_take,List.map_drop]
     exact ((i4.take q0).append (.cons gt (i4.drop q0))).mono ⟨fun _ _ n _=>absurd trivial n,fun _ _ e=>tp5 e⟩
    ·rw [xo,lts];rfl
   ·rintro σ H' ⟨v7,zs,ts,t',rfl,hL,iL,lts,cj,BJ,hja,hjb,sJ',tp⟩
    have lts:ts.length=2*i+2:=lts
    have hjb:t'≤t4+2:=hjb
    exact ⟨_,_,_,_,zs,ts,t',rfl,hL,iL,by trivial,cj.ci,tp _ _ (sJ8.tup _ _ hplJ),BJ,by trivial,by trivial,sJ'⟩
  ·rintro σ J ⟨v4,v5,v6,v7,zs,ts,t',rfl,hL,iL,lts,ci,hplJ,BJ,hja,hjb,sJ⟩
   refine nA _ _ ⟨_,rfl,_,rfl,L,_,rfl,aG.of hL,fun q J1 n1'=>⟨(by show 2≤10000;decide),fun v J2 n2'=>?_⟩⟩
   have s12:=n1'.sm.trans n2'.sm
   refine k v ls ts t' J2 (sJ.trans s12.toE) (.tup n2'.at' (.cons (.tup (s12 _ _ hplJ) (pQ ls)) (.cons (.tup (n2'.sm _ _ n1'.at') (iL.mono s12.toE)) .nil))) nd nc ?_ (by rw [Int.toNat_natCast];exact ll) (by trivial) (BJ.same s12) (by trivial) (by trivial)
   rw [show ls.length - 1=n1 by trivial]
   exact ci
end
end K14
namespace K14
open PySem L2
set_option maxHeartbeats 4000000
theorem Bn (a b c d:List Nat):PyData.eqv (.tuple [.str (S a),.str (S b)]) (.tuple [.str (S c),.str (S d)])=(decide (a=c) && decide (b=d)):=by
 have e:∀x y:List Nat,(S x==S y)=decide (x=y):=fun x y=>by
  by_cases h:x=y
  ·rw [h,decide_eq_true rfl];simp
  ·rw [decide_eq_false h,beq_eq_false_iff_ne];exact fun z=>h (qy z)
 simp only [PyData.eqv,PyData.eqvAll,Bool.and_true,e]
theorem rL (p:KM.Fra):PyData.eqv (cJ p) (cJ p)=true:=by simp [PyData.eqv,PyData.eqvAll]
theorem yK {a b:List Nat} (h:oM a) (k:oM b):Wt (.tuple [.str (S a),.str (S b)]) 3 1:=.tuple (.cons (.str (ue h)) (.cons (.str (ue k)) .nil))
theorem BA {xs:List V}{a b:Nat} (h:a≤b) (k:b≤xs.length):dk xs (some (a:Int)) (some (b:Int))=(xs.drop a).take (b - a):=by
 unfold dk
 rw [HT.sIx_nat,HT.sIx_nat,Nat.min_eq_left k,Nat.min_eq_left (show a≤xs.length by trivial)]
structure zv (ls:List (List Nat)) (ts:List ah) (bs:List Nat):Prop where
 h:∀k b,bs[k]?=some b→∃t,ts[b]?=some t∧ls[k]?=some t.bg∧ls[k+1]?=some t.en∧∀i t',ts[i]?=some t'→t'.bg=t.bg→i=b∨gR t'<gR t
theorem zv.app {ls:List (List Nat)}{ts:List ah}{bs:List Nat}{b:Nat} (h:zv ls ts bs) (k:∃t,ts[b]?=some t∧ls[bs.length]?=some t.bg∧ls[bs.length+1]?=some t.en∧∀i t',ts[i]?=some t'→t'.bg=t.bg→i=b∨gR t'<gR t):zv ls ts (bs++[b]):=by
 refine ⟨fun j c e=>?_⟩
 by_cases q:j<bs.length
 ·rw [List.getElem?_append_left q] at e;exact h.h j c e
 ·have hj:=(List.getElem?_eq_some_iff.mp e).1
  rw [List.length_append,List.length_singleton] at hj
  have:j=bs.length:=by trivial
  subst this
  rw [List.getElem?_append_right (Nat.le_refl _),Nat.sub_self] at e
  cases e
  exact k
theorem CI.pick {ls:List (List Nat)}{ts:List ah}{n i:Nat}{l:List Nat} (nd:ls.Nodup) (h:CI ls ts n) (hi:i<n) (hl:ls[i]?=some l):ml fun i0 j0 x y=>qW (eH l) ts ts.length=[i0,j0]∧ts[i0]?=some x∧ts[j0]?=some y∧gR x≠gR y∧
 (gR y<gR x→∃t,ts[i0]?=some t∧ls[i]?=some t.bg∧ls[i+1]?=some t.en∧∀i t',ts[i]?=some t'→t'.bg=t.bg→i=i0∨gR t'<gR t)∧
 (gR x<gR y→∃t,ts[j0]?=some t∧ls[i]?=some t.bg∧ls[i+1]?=some t.en∧∀i t',ts[i]?=some t'→t'.bg=t.bg→i=j0∨gR t'<gR t):=by
 obtain ⟨x,y,e,ne⟩:=h.two i l hi hl
 have m:=tF (p:=eH l) (xs:=ts) ts.length (Nat.le_refl _)
 rw [List.take_length,e] at m
 obtain ⟨i0,j0,eI⟩:bz fun i0 j0=>qW (eH l) ts ts.length=[i0,j0]:=by
  have ln:=congrArg List.length m
  rw [List.length_map] at ln
  exact fw (P:=fun z=>bz fun i0 j0=>z=[i0,j0]) (fun a b=>⟨a,b,rfl⟩) _ ln
 rw [eI] at m
 simp only [List.map_cons,List.map_nil,List.cons.injEq,and_true] at m
 have mx:x∈ts.filter (eH l):=by rw [e];simp
 have my:y∈ts.filter (eH l):=by rw [e];simp
 have hx:=List.mem_filter.mp mx
 have hy:=List.mem_filter.mp my
 have en:∀{t:ah},t∈ts→t.bg=l→ls[i]?=some t.bg∧ls[i+1]?=some t.en:=fun {t} ht eb=>by
  obtain ⟨_,_,k,_,d1,d2⟩:=h.ok t ht
  rw [eb] at d1 ⊢
  obtain rfl:=bI nd d1 hl
  exact ⟨d1,d2⟩
 have bx:x.bg=l:=of_decide_eq_true hx.2
 have by':y.bg=l:=of_decide_eq_true hy.2
 have only:∀{j:Nat}{t:ah},ts[j]?=some t→t.bg=l→j=i0∨j=j0:=fun {j t} et eb=>by
  have:=Cd (p:=eH l) (List.getElem?_eq_some_iff.mp et).1 et (decide_eq_true eb)
  rw [eI] at this
  simpa using this
 refine ⟨i0,j0,x,y,eI,m.1,m.2,ne,fun lt=>⟨x,m.1,(en hx.1 bx).1,(en hx.1 bx).2,fun j t' et eb=>?_⟩,fun lt=>⟨y,m.2,(en hy.1 by').1,(en hy.1 by').2,fun j t' et eb=>?_⟩⟩
 ·rcases only et (eb.trans bx) with z | z
  ·exact .inl z
  ·right;rw [z,m.2] at et;cases et;exact lt
 ·rcases only et (eb.trans by') with z | z
  ·right;rw [z,m.1] at et;cases et;exact lt
  ·exact .inl z
section
variable {P:Program}{w:World}{K:PySem.W.Frag}{mg:Str→Option Value}{base:Heap}
inductive Ga (vs:List V) (H:Hp) (Q:VK):Prop
 | mk (v:V) (ls:List (List Nat)) (ts:List ah) (h0:vs=[v]) (h1:bE ED H v (eT ls ts)) (h2:ls.Nodup) (h3:(∀l∈ls,oM l)) (h4:CI ls ts (ls.length - 1)) (h5:2≤ls.length) (h6:ls.length≤9) (h7:ts.length≤16) (h8:∀H',aj H H'→Q (.bl true) H')
def G2:Sp:=fun vs H Q _=>Ga  vs H Q
theorem rE (T:Txt K mg):bv P w K mg base CX0 9 T.l_chain_right_.f T.l_chain_right_.d ["_law_net"] G2:=by
 have G_holding_worths:=iB (P:=P) (w:=w) (base:=base) T
 have G_gaining_round:=iU (P:=P) (w:=w) (base:=base) T
 have G_greatest_gain:=mq (P:=P) (w:=w) (base:=base) T
 have G_best_way:=re (P:=P) (w:=w) (base:=base) T
 have G_l_above:=xU (P:=P) (w:=w) (base:=base) T
 have G_l_product:=jt (P:=P) (w:=w) (base:=base) T
 refine T.l_chain_right_.F.ok bf (fun vs H Q E h=>?_) (fun cdv A outer s H vs Q E hr h=>?_)
 ·obtain ⟨v,ls,ts,rfl,_⟩:=h
  rfl
 ·obtain ⟨v,ls,ts,rfl,hv,nd,nc,ci,l2,l9,lt16,k⟩:=h
  obtain ⟨na,pa,ta,ys,rfl,hna,hpa,hta,ity⟩:=gW hv
  have lys:ys.length=ts.length:=by rw [ity.length,List.length_map]
  have tc:∀t∈ts,fA ls t:=fun t ht=>(ci.ok t ht).1
  have tk:∀t∈ts,dR ls t:=fun t ht=>(tc t ht).tok
  refine ⟨_,(@ae _ _ _ _ _ (@jr _ _ (1) (2) _ _ _ _ _ _ _ _ _ _ _ rfl bf.nd rfl rfl (by decide) bD di (@aa _ _ _ _ _ (@aq _ _ _ _ _ _ _ (@aN _ (K) (by rfl)) (@pw _ 0 _ _ (Or.inl aY) (by rfl) (by decide) (by decide)) (@ad _ _ _ _) (fun _ _=>rfl)) (@aa _ _ _ _ _ (@dY _ _ _ _ (@ac _)) (@ac _) rfl) rfl) (by kernel_rfl) (by rfl)) (@ae _ _ _ _ _ (@gm _ _ _ _ _ _ _ _ PassesOwn.never rfl (@Ac _ (K) _ _ _ _ _ _ _ _ pr T.b_zip (@aa _ _ _ _ _ (@pw _ 1 _ _ (Or.inl bD) (by rfl) (by decide) (by decide)) (@aa _ _ _ _ _ (@fk _ _ _ _ _ _ _ _ _ _ (@qr _ (K) (by rfl)) (@pw _ 1 _ _ (Or.inl bD) (by rfl) (by decide) (by decide)) (@dU _ _ _ (@ad _ _ _ _)) (@i5 _)) (@ac _) rfl) rfl) (by rfl) (by rfl) (by rfl)) (@cY _ (K) _ _ _ _ (2) rfl (@aP _ _ _ _ _ (@aw _ _ (3) _ bf.nd rfl (Or.inr mD) (by first | exact .inl rfl | exact .inr rfl | assumption)) (@aP _ _ _ _ _ (@aw _ _ (4) _ bf.nd rfl (Or.inr nS) (by first | exact .inl rfl | exact .inr rfl | assumption)) (@dv _) (by rfl)) (by rfl)) (by rfl) (by rfl) (by rfl)) (@ae _ _ _ _ _ (@iN _ _ _ _ _ _ _ (["_law_k", "_law_tie", "_law_begin", "_law_end"]) (2) ([3,4]) _ _ _ _ (5) _ _ _ bf.nd rfl cp (by kernel_rfl) rfl (by kernel_rfl) (@rF _ (K) _ _ _ _ _ _ _ lE T.b_enumerate (@aa _ _ _ _ _ (@aq _ _ _ _ _ _ _ (@aN _ (K) (by rfl)) (@pw _ 0 _ _ (Or.inl aY) (by rfl) (by decide) (by decide)) (@ad _ _ _ _) (fun _ _=>rfl)) (@ac _) rfl) (by rfl) (by rfl)) (fun _ _ _ _ _ _=>(@cY _ (K) _ _ _ _ (2) rfl (@aP _ _ _ _ _ (@aw _ _ (0) _ (@cG _ (by kernel_rfl)) rfl (Or.inl (by kernel_rfl)) (by first | exact .inl rfl | exact .inr rfl | assumption)) (@aP _ _ _ _ _ (@aw _ _ (1) _ (@cG _ (by kernel_rfl)) rfl (Or.inl (by kernel_rfl)) (by first | exact .inl rfl | exact .inr rfl | assumption)) (@dv _) (by rfl)) (by rfl)) (by rfl) (by rfl) (by rfl))) (fun _ _ _ _ _ _=>(@zX _ _ _ (@bj _ _ _ _ _ _ _ _ (@tf _ hr.units) (@fk _ _ _ _ _ _ _ _ _ _ (@qr _ (K) (by rfl)) (@pw _ 1 _ _ (Or.inl (by kernel_rfl)) (by rfl) (by decide) (by decide)) (@i5 _) (@dU _ _ _ (@ad _ _ _ _))) (@ax _ _ _ _ _ (@aa _ _ _ _ _ (@pw _ 2 _ _ (Or.inr (Or.inl (by kernel_rfl))) (by rfl) (by decide) (by decide)) (@aa _ _ _ _ _ (@pw _ 3 _ _ (Or.inr (Or.inl (by kernel_rfl))) (by rfl) (by decide) (by decide)) (@ac _) rfl) rfl)) (@aZ _ _ (by decide) (by decide))))) (fun _ _ _ _ _ _=>(@pw _ 0 _ _ (Or.inl (by kernel_rfl)) (by rfl) (by decide) (by decide))) (by intro _;rfl)) (@am _ _ _ (@fN _ _ _ _ (@fS _ (K) _ _ _ _ _ _ _ _ _ _ _ PySem.F.plainAttrs_list PySem.F.slot_list_append PySem.F.type_list_append (@jm _) (@pw _ 2 _ _ (Or.inl di) (by rfl) (by decide) (by decide)) (@aa _ _ _ _ _ (@j8 _ _ _ _ _ _ _ _ (@bj _ _ _ _ _ _ _ _ (@mH _) (@ap _ _ _ _ _ _ _ _ _ _ _ _ _ _ _ _ G_l_above (hr.mono (by decide)) ip T.l_above_.m T.l_above_.F.kp T.l_above_.B .nil (@aK _) (@aa _ _ _ _ _ (@aq _ _ _ _ _ _ _ (@aN _ (K) (by rfl)) (@aq _ _ _ _ _ _ _ (@aN _ (K) (by rfl)) (@aq _ _ _ _ _ _ _ (@aN _ (K) (by rfl)) (@pw _ 0 _ _ (Or.inl aY) (by rfl) (by decide) (by decide)) (@ad _ _ _ _) (fun _ _=>rfl)) (@aq _ _ _ _ _ _ _ (@fb _ (K) (by rfl)) (@pw _ 5 _ _ (Or.inl cp) (by rfl) (by decide) (by decide)) (@ad _ _ _ _) (fun _ _=>rfl)) (fun _ _=>rfl)) (@ad _ _ _ _) (fun _ _=>rfl)) (@aa _ _ _ _ _ (@aq _ _ _ _ _ _ _ (@aN _ (K) (by rfl)) (@aq _ _ _ _ _ _ _ (@aN _ (K) (by rfl)) (@aq _ _ _ _ _ _ _ (@aN _ (K) (by rfl)) (@pw _ 0 _ _ (Or.inl aY) (by rfl) (by decide) (by decide)) (@ad _ _ _ _) (fun _ _=>rfl)) (@aq _ _ _ _ _ _ _ (@fb _ (K) (by rfl)) (@pw _ 5 _ _ (Or.inl cp) (by rfl) (by decide) (by decide)) (@ad _ _ _ _) (fun _ _=>rfl)) (fun _ _=>rfl)) (@ad _ _ _ _) (fun _ _=>rfl)) (@ac _) rfl) rfl) (by decide) (by rfl) (by rfl)) (@ad _ _ _ _) (@aZ _ _ (by decide) (by decide))) (@aq _ _ _ _ _ _ _ (@fb _ (K) (by rfl)) (@pw _ 5 _ _ (Or.inl cp) (by rfl) (by decide) (by decide)) (@ad _ _ _ _) (fun _ _=>rfl)) (@aq _ _ _ _ _ _ _ (@fb _ (K) (by rfl)) (@pw _ 5 _ _ (Or.inl cp) (by rfl) (by decide) (by decide)) (@ad _ _ _ _) (fun _ _=>rfl))) (@ac _) rfl) (by rfl) (by rfl) (by rfl) (by rfl) (by rfl) (by rfl)) (by rfl)))) (by intro _;rfl)) (@ae _ _ _ _ _ (@aL _ _ (6) _ _ _ _ bf.nd rfl (Or.inl gX) (@ap _ _ _ _ _ _ _ _ _ _ _ _ _ _ _ _ G_holding_worths (hr.mono (by decide)) jl T.holding_worths_.m T.holding_worths_.F.kp T.holding_worths_.B .nil (@mM _ _ _) (@aa _ _ _ _ _ (@pw _ 0 _ _ (Or.inl aY) (by rfl) (by decide) (by decide)) (@ac _) rfl) (by decide) (by rfl) (by rfl)) (by rfl) (by first | exact .inl rfl | exact .inr rfl | assumption)) (@ae _ _ _ _ _ (@gm _ _ _ _ _ _ _ _ PassesOwn.never rfl (@cz _ _ _ _ _ _ iX T.b_range (@aa _ _ _ _ _ (@be _ _ _ _ _ _ _ _ _ (@ju _ (K) (by rfl)) jM T.b_len (@cq) (@aa _ _ _ _ _ (@pw _ 1 _ _ (Or.inl bD) (by rfl) (by decide) (by decide)) (@ac _) rfl) (by decide) (by decide) (by rfl) (by rfl)) (@ac _) rfl) (by rfl)) (@aw _ _ (7) _ bf.nd rfl (Or.inl cI) (by first | exact .inl rfl | exact .inr rfl | assumption)) (@ae _ _ _ _ _ (@eh _ _ _ _ _ _ (@ax _ _ _ _ _ (@aa _ _ _ _ _ (@ax _ _ _ _ _ (@aa _ _ _ _ _ (@ad _ _ _ _) (@aa _ _ _ _ _ (@ad _ _ _ _) (@ac _) rfl) rfl)) (@aa _ _ _ _ _ (@ax _ _ _ _ _ (@aa _ _ _ _ _ (@ad _ _ _ _) (@aa _ _ _ _ _ (@ad _ _ _ _) (@ac _) rfl) rfl)) (@ac _) rfl) rfl)) (@cY _ (K) _ _ _ _ (2) rfl (@aP _ _ _ _ _ (@aw _ _ (8) _ bf.nd rfl (Or.inl bU) (by first | exact .inl rfl | exact .inr rfl | assumption)) (@aP _ _ _ _ _ (@aw _ _ (9) _ bf.nd rfl (Or.inl cy) (by first | exact .inl rfl | exact .inr rfl | assumption)) (@dv _) (by rfl)) (by rfl)) (by rfl) (by rfl) (by rfl)) (by rfl) (by rfl) (by rfl)) (@ae _ _ _ _ _ (@gm _ _ _ _ _ _ _ _ PassesOwn.never rfl (@za _ _ _ _ _ _ _ iX T.b_range (@aa _ _ _ _ _ (@aB _ _ _ _ _ _ _ _ (@cx _) (@pw _ 7 _ _ (Or.inl cI) (by rfl) (by decide) (by decide)) (@ad _ _ _ _)) (@aa _ _ _ _ _ (@be _ _ _ _ _ _ _ _ _ (@ju _ (K) (by rfl)) jM T.b_len (@cq) (@aa _ _ _ _ _ (@pw _ 1 _ _ (Or.inl bD) (by rfl) (by decide) (by decide)) (@ac _) rfl) (by decide) (by decide) (by rfl) (by rfl)) (@ac _) rfl) rfl) (by rfl) (by rfl)) (@aw _ _ (10) _ bf.nd rfl (Or.inl dM) (by first | exact .inl rfl | exact .inr rfl | assumption)) (@ae _ _ _ _ _ (@aL _ _ (8) _ _ _ _ bf.nd rfl (Or.inl bU) (@ap _ _ _ _ _ _ _ _ _ _ _ _ _ _ _ _ G_l_product (hr.mono (by decide)) lI T.l_product_.m T.l_product_.F.kp T.l_product_.B .nil (@aK _) (@aa _ _ _ _ _ (@pw _ 8 _ _ (Or.inl bU) (by rfl) (by decide) (by decide)) (@aa _ _ _ _ _ (@aq _ _ _ _ _ _ _ (@aN _ (K) (by rfl)) (@aq _ _ _ _ _ _ _ (@aN _ (K) (by rfl)) (@aq _ _ _ _ _ _ _ (@aN _ (K) (by rfl)) (@pw _ 0 _ _ (Or.inl aY) (by rfl) (by decide) (by decide)) (@ad _ _ _ _) (fun _ _=>rfl)) (@aq _ _ _ _ _ _ _ (@fb _ (K) (by rfl)) (@pw _ 2 _ _ (Or.inl di) (by rfl) (by decide) (by decide)) (@aB _ _ _ _ _ _ _ _ (@md _) (@pw _ 10 _ _ (Or.inl dM) (by rfl) (by decide) (by decide)) (@ad _ _ _ _)) (fun _ _=>rfl)) (fun _ _=>rfl)) (@ad _ _ _ _) (fun _ _=>rfl)) (@ac _) rfl) rfl) (by decide) (by rfl) (by rfl)) (by rfl) (by first | exact .inl rfl | exact .inr rfl | assumption)) (@ae _ _ _ _ _ (@aL _ _ (9) _ _ _ _ bf.nd rfl (Or.inl cy) (@j8 _ _ _ _ _ _ _ _ (@bj _ _ _ _ _ _ _ _ (@mH _) (@ap _ _ _ _ _ _ _ _ _ _ _ _ _ _ _ _ G_l_above (hr.mono (by decide)) ip T.l_above_.m T.l_above_.F.kp T.l_above_.B .nil (@aK _) (@aa _ _ _ _ _ (@pw _ 8 _ _ (Or.inl bU) (by rfl) (by decide) (by decide)) (@aa _ _ _ _ _ (@pw _ 9 _ _ (Or.inl cy) (by rfl) (by decide) (by decide)) (@ac _) rfl) rfl) (by decide) (by rfl) (by rfl)) (@ad _ _ _ _) (@aZ _ _ (by decide) (by decide))) (@pw _ 8 _ _ (Or.inl bU) (by rfl) (by decide) (by decide)) (@pw _ 9 _ _ (Or.inl cy) (by rfl) (by decide) (by decide))) (by rfl) (by first | exact .inl rfl | exact .inr rfl | assumption)) (@ae _ _ _ _ _ (@jr _ _ (11) (12) _ _ _ _ _ _ _ _ _ _ _ rfl bf.nd rfl rfl (by decide) cB b9 (@aa _ _ _ _ _ (@aq _ _ _ _ _ _ _ (@aN _ (K) (by rfl)) (@pw _ 1 _ _ (Or.inl bD) (by rfl) (by decide) (by decide)) (@pw _ 7 _ _ (Or.inl cI) (by rfl) (by decide) (by decide)) (fun _ _=>rfl)) (@aa _ _ _ _ _ (@aq _ _ _ _ _ _ _ (@aN _ (K) (by rfl)) (@pw _ 1 _ _ (Or.inl bD) (by rfl) (by decide) (by decide)) (@pw _ 10 _ _ (Or.inl dM) (by rfl) (by decide) (by decide)) (fun _ _=>rfl)) (@ac _) rfl) rfl) (by kernel_rfl) (by rfl)) (@ae _ _ _ _ _ (@cK _ _ _ _ _ _ _ _ (@PW.pt _ _ _ (@mP _ _ _ _ _ _ _ (@bj _ _ _ _ _ _ _ _ (@vQ _ hr.units) (@ap _ _ _ _ _ _ _ _ _ _ _ _ _ _ _ _ G_greatest_gain (hr.mono (by decide)) fz T.greatest_gain_.m T.greatest_gain_.F.kp T.greatest_gain_.B .nil (@mM _ _ _) (@aa _ _ _ _ _ (@pw _ 0 _ _ (Or.inl aY) (by rfl) (by decide) (by decide)) (@aa _ _ _ _ _ (@pw _ 11 _ _ (Or.inl cB) (by rfl) (by decide) (by decide)) (@aa _ _ _ _ _ (@pw _ 12 _ _ (Or.inl b9) (by rfl) (by decide) (by decide)) (@ac _) rfl) rfl) rfl) (by decide) (by rfl) (by rfl)) (@pw _ 8 _ _ (Or.inl bU) (by rfl) (by decide) (by decide)) (@aZ _ _ (by decide) (by decide))) (@km _ _ _ _ (@bj _ _ _ _ _ _ _ _ (@vQ _ hr.units) (@ap _ _ _ _ _ _ _ _ _ _ _ _ _ _ _ _ G_best_way (hr.mono (by decide)) hZ T.best_way_.m T.best_way_.F.kp T.best_way_.B .nil (@mM _ _ _) (@aa _ _ _ _ _ (@pw _ 0 _ _ (Or.inl aY) (by rfl) (by decide) (by decide)) (@aa _ _ _ _ _ (@pw _ 11 _ _ (Or.inl cB) (by rfl) (by decide) (by decide)) (@aa _ _ _ _ _ (@pw _ 12 _ _ (Or.inl b9) (by rfl) (by decide) (by decide)) (@ac _) rfl) rfl) rfl) (by decide) (by rfl) (by rfl)) (@fk _ _ _ _ _ _ _ _ _ _ (@jV _ (K) (by rfl)) (@pw _ 2 _ _ (Or.inl di) (by rfl) (by decide) (by decide)) (@dU _ _ _ (@pw _ 7 _ _ (Or.inl cI) (by rfl) (by decide) (by decide))) (@dU _ _ _ (@pw _ 10 _ _ (Or.inl dM) (by rfl) (by decide) (by decide)))) (@aZ _ _ (by decide) (by decide)))))) (@am _ _ _ (@aM _ _ _ _ (@ig _ _ _ _))) (@bM _)) (@am _ _ _ (@cK _ _ _ _ _ _ _ _ (@PW.pt _ _ _ (@mP _ _ _ _ _ _ _ (@bj _ _ _ _ _ _ _ _ (@qx _) (@ap _ _ _ _ _ _ _ _ _ _ _ _ _ _ _ _ G_greatest_gain (hr.mono (by decide)) fz T.greatest_gain_.m T.greatest_gain_.F.kp T.greatest_gain_.B .nil (@mM _ _ _) (@aa _ _ _ _ _ (@pw _ 0 _ _ (Or.inl aY) (by rfl) (by decide) (by decide)) (@aa _ _ _ _ _ (@pw _ 12 _ _ (Or.inl b9) (by rfl) (by decide) (by decide)) (@aa _ _ _ _ _ (@pw _ 11 _ _ (Or.inl cB) (by rfl) (by decide) (by decide)) (@ac _) rfl) rfl) rfl) (by decide) (by rfl) (by rfl)) (@fK _ _ _) (@aZ _ _ (by decide) (by decide))) (@km _ _ _ _ (@bj _ _ _ _ _ _ _ _ (@qx _) (@ap _ _ _ _ _ _ _ _ _ _ _ _ _ _ _ _ G_best_way (hr.mono (by decide)) hZ T.best_way_.m T.best_way_.F.kp T.best_way_.B .nil (@mM _ _ _) (@aa _ _ _ _ _ (@pw _ 0 _ _ (Or.inl aY) (by rfl) (by decide) (by decide)) (@aa _ _ _ _ _ (@pw _ 12 _ _ (Or.inl b9) (by rfl) (by decide) (by decide)) (@aa _ _ _ _ _ (@pw _ 11 _ _ (Or.inl cB) (by rfl) (by decide) (by decide)) (@ac _) rfl) rfl) rfl) (by decide) (by rfl) (by rfl)) (@fK _ _ _) (@aZ _ _ (by decide) (by decide)))))) (@am _ _ _ (@aM _ _ _ _ (@ig _ _ _ _))) (@bM _))))))) (by intro _;rfl)) (@am _ _ _ (@cK _ _ _ _ _ _ _ _ (@bj _ _ _ _ _ _ _ _ (@vQ _ hr.units) (@aq _ _ _ _ _ _ _ (@fb _ (K) (by rfl)) (@pw _ 6 _ _ (Or.inl gX) (by rfl) (by decide) (by decide)) (@pw _ 7 _ _ (Or.inl cI) (by rfl) (by decide) (by decide)) (fun _ _=>rfl)) (@pw _ 9 _ _ (Or.inl cy) (by rfl) (by decide) (by decide)) (@aZ _ _ (by decide) (by decide))) (@am _ _ _ (@aM _ _ _ _ (@ig _ _ _ _))) (@bM _))))) (by intro _;rfl)) (@am _ _ _ (@aM _ _ _ _ (@cO _ _ _ _ _ _ _ _ (@sX _) (@ap _ _ _ _ _ _ _ _ _ _ _ _ _ _ _ _ G_gaining_round (hr.mono (by decide)) jB T.gaining_round_.m T.gaining_round_.F.kp T.gaining_round_.B .nil (@aK _) (@aa _ _ _ _ _ (@pw _ 0 _ _ (Or.inl aY) (by rfl) (by decide) (by decide)) (@ac _) rfl) (by decide) (by rfl) (by rfl)) (@fK _ _ _) (@aZ _ _ (by decide) (by decide))))))))),?_⟩
  refine tJ fun Q1 nP1=>⟨_,rfl,na,_,_,_,rfl,rfl,au.of hna,rfl,Nat.zero_le _,fun L H1 n1=>nP1 _ _ _ ?_⟩
  have fL:H L=none:=n1.fr
  refine bT fun DA nA=>⟨_,rfl,_,rfl,1,rfl,pa,_,rfl,au.of (n1.sm _ _ hpa),n1.sm _ _ hpa,fun p2 H2 s2 hp2=>?_⟩
  have ed:dk (ls.map aD) (some 1) none=(ls.drop 1).map aD:=by rw [ya,List.map_drop]
  rw [ed] at hp2
  have s02:aj H H2:=n1.sm.trans s2
  refine ⟨pa,p2,false,false,rfl,⟨_,au.of (s02 _ _ hpa)⟩,⟨_,au.of hp2⟩,Cq (xs:=ls.map aD) (ys:=(ls.drop 1).map aD) (n:=ls.length - 1) (fun i σ H'=>ml fun (v3 v4 v5:Option V) (bs:List Nat)=>σ=[some (.ref na),some (.ref pa),some (.ref L),v3,v4,v5,none,none,none,none,none,none,none]∧H' L=some (.lst (bX bs))∧bs.length=i∧zv ls ts bs∧aj H H'∧H' p2=some (.tup ((ls.drop 1).map aD))) (by rw [List.length_map,List.length_map,List.length_drop];trivial) ⟨_,_,_,[],rfl,s2 _ _ n1.at',rfl,⟨fun k b e=>by cases e⟩,s02,hp2⟩ ?_ ?_ ?_⟩
  ·rintro i σ H' _ ⟨v3,v4,v5,bs,rfl,_,_,_,sm,hp2'⟩
   exact ⟨au.of (sm _ _ hpa),au.of hp2'⟩
  ·rintro i x y T' σ J0 hx hy hT ⟨v3,v4,v5,bs,rfl,hL,lb,bst,sm,hp2'⟩
   have nT:Nw J0 T' (.tup [x,y]) (aI J0 T' (.tup [x,y])):=.mk' hT
   generalize aI J0 T' (.tup [x,y])=J1 at nT ⊢
   rw [List.getElem?_map] at hx hy
   obtain ⟨l,hl,rfl⟩:=Option.map_eq_some_iff.mp hx
   obtain ⟨l',hl',rfl⟩:=Option.map_eq_some_iff.mp hy
   rw [List.getElem?_drop,Nat.add_comm] at hl'
   have hi1:=(List.getElem?_eq_some_iff.mp hl').1
   have sm1:aj H J1:=sm.trans nT.sm
   refine ⟨T',_,rfl,au.of nT.at',rfl,_,_,rfl,_,_,rfl,rfl,?_⟩
   dsimp only
   refine bO fun Q2 nA2=>⟨_,rfl,na,_,_,_,rfl,rfl,au.of (sm1 _ _ hna),rfl,ta,false,rfl,⟨ys,au.of (sm1 _ _ hta)⟩,fun D hD=>qf (n:=ys.length) (fun j H' zs=>H' D=some (.lst zs)∧zs=bX (qW (eH l) ts j)∧zs.length≤j∧aj J1 H') (fE (by trivial)) ⟨aC,rfl,Nat.zero_le _,aj.new hD⟩ ?_ ?_ ?_ ?_ ?_⟩
   ·rintro j H' zs ⟨e1,_,e2,_⟩
    exact ⟨e1,e2⟩
   ·rintro j H' zs hj ⟨_,_,_,s3⟩
    exact ⟨ys,ys[j],au.of (s3 _ _ (sm1 _ _ hta)),List.getElem?_eq_getElem hj⟩
   ·rintro H' zs ⟨_,_,_,s3⟩
    exact ⟨ys,au.of (s3 _ _ (sm1 _ _ hta)),rfl⟩
   ·rintro j H' zs x H'' hj ⟨hD',rfl,lz,s3⟩ ⟨T2,y,hT2,rfl,rfl,ex⟩
    have hx:=ex ys (au.of (s3 _ _ (sm1 _ _ hta)))
    obtain ⟨dy,edy,gy⟩:=ity.get hx
    rw [List.getElem?_map] at edy
    obtain ⟨t,et,rfl⟩:=Option.map_eq_some_iff.mp edy
    obtain ⟨o,om,og,op,rfl,ho,hom,hog,hop⟩:=gf gy
    have tt:=tc t (List.mem_of_getElem? et)
    have nT2:Nw H' T2 (.tup [.int (j:Int),.ref o]) (aI H' T2 (.tup [.int (j:Int),.ref o])):=.mk' hT2
    generalize aI H' T2 (.tup [.int (j:Int),.ref o])=J2 at nT2 ⊢
    have sJ2:aj H J2:=(sm1.trans s3).trans nT2.sm
    refine ⟨T2,_,rfl,au.of nT2.at',rfl,_,_,rfl,_,_,rfl,rfl,EQ,?_⟩
    refine ⟨_,rfl,2,rfl,o,_,rfl,au.of (sJ2 _ _ ho),sJ2 _ _ ho,fun c1 J3 m3 hc1=>⟨_,rfl,_,rfl,(by show 2≤10000;decide),fun c2 J4 n4=>?_⟩⟩
    rw [Bk] at hc1
    have eB:PyData.eqv (.tuple [.str (S t.bg),.str (S t.en)]) (.tuple [.str (S l),.str (S l')])=eH l t:=by
     rw [Bn]
     by_cases c:t.bg=l
     ·have q:t.en=l':=by
       obtain ⟨_,_,kk,_,d1,d2⟩:=ci.ok t (List.mem_of_getElem? et)
       rw [c] at d1
       obtain rfl:=bI nd d1 hl
       rw [d2] at hl'
       exact Option.some.inj hl'
      show _=decide _
      rw [decide_eq_true c,decide_eq_true q];rfl
     ·show _=decide _
      rw [decide_eq_false c];rfl
    refine ⟨_,_,ED,ED,_,_,_,_,.tup (n4.sm _ _ hc1) (.cons (.str _) (.cons (.str _) .nil)),.tup (ds:=[.str (S l),.str (S l')]) n4.at' (.cons (.str _) (.cons (.str _) .nil)),yK (nc _ tt.b) (nc _ tt.e),yK (nc _ (List.mem_of_getElem? hl)) (nc _ (List.mem_of_getElem? hl')),by decide,_,rfl,?_⟩
    have s24:=(nT2.sm.trans m3).trans n4.sm
    show if PyData.eqv (.tuple [.str (S t.bg),.str (S t.en)]) (.tuple [.str (S l),.str (S l')])=true then _ else _
    rw [eB]
    have eS:=wf (p:=eH l) et
    by_cases q:eH l t=true
    ·rw [if_pos q]
     rw [if_pos q] at eS
     refine ⟨_,rfl,s24 _ _ hD',aC,?_,by rw [List.length_append];show _+1≤_;trivial,gc hD (s3.trans s24)⟩
     rw [eS]
     simp [bX]
    ·rw [if_neg q]
     rw [if_neg q] at eS
     exact ⟨s24 _ _ hD',by rw [eS],by trivial,s3.trans s24⟩
   rintro J5 zs ⟨eD,rfl,_,s5⟩
   refine nA2 _ _ ?_
   rw [lys] at eD
   obtain ⟨i0,j0,tx,ty,eI,ex,ey,ne,k1,k2⟩:=ci.pick nd (by trivial) hl
   rw [eI] at eD
   have sm5:aj H J5:=sm1.trans s5
   have tie:∀{j:Nat}{t:ah},ts[j]?=some t→ml fun o om og op=>ys[j]?=some (.ref o)∧H o=some (.tup [.str (S t.bg),.str (S t.en),.ref om,.ref og,.ref op])∧H og=some (fr t.gain):=fun {j t} et=>by
    obtain ⟨y,ey⟩:∃y,ys[j]?=some y:=⟨_,List.getElem?_eq_getElem (by rw [lys];exact (List.getElem?_eq_some_iff.mp et).1)⟩
    obtain ⟨dy,edy,gy⟩:=ity.get ey
    rw [List.getElem?_map,et] at edy
    obtain rfl:dG t=dy:=Option.some.inj edy
    obtain ⟨o,om,og,op,rfl,h1,h2,h3,h4⟩:=gf gy
    exact ⟨o,om,og,op,ey,h1,h3⟩
   obtain ⟨ox,_,ogx,_,eyx,hox,hogx⟩:=tie ex
   obtain ⟨oy,_,ogy,_,eyy,hoy,hogy⟩:=tie ey
   have hL5:=s5 _ _ (nT.sm _ _ hL)
   have gx:=tc tx (List.mem_of_getElem? ex)
   have gy:=tc ty (List.mem_of_getElem? ey)
   obtain ⟨x1,x2⟩:=gz gx.fg (by decide) (by decide)
   obtain ⟨y1,y2⟩:=gz gy.fg (by decide) (by decide)
   have done:∀{b:Nat}{J6:Hp}{w:Option V},(∃t,ts[b]?=some t∧ls[i]?=some t.bg∧ls[i+1]?=some t.en∧∀i t',ts[i]?=some t'→t'.bg=t.bg→i=b∨gR t'<gR t)→Ch J5 L (bX bs++[.int (b:Int)]) J6→ml fun (v3 v4 v5:Option V) (bs:List Nat)=>[some (V.ref na),some (.ref pa),some (.ref L),some (aD l),some (aD l'),w,none,none,none,none,none,none,none]=[some (.ref na),some (.ref pa),some (.ref L),v3,v4,v5,none,none,none,none,none,none,none]∧J6 L=some (.lst (bX bs))∧bs.length=i+1∧zv ls ts bs∧aj H J6∧J6 p2=some (.tup ((ls.drop 1).map aD)):=by
    intro b J6 w hb c6
    refine ⟨_,_,_,bs++[b],rfl,by rw [c6.at'];simp [bX],by rw [List.length_append,lb];rfl,bst.app (by rw [lb];exact hb),fun a u h=>c6.ol a u (fun z=>by rw [z,fL] at h;cases h) (sm5 a u h),c6.tup (s5 _ _ (nT.sm _ _ hp2')) hL5⟩
   refine ⟨_,rfl,.inl ⟨rfl,_,aG.of hL5⟩,_,rfl,na,_,_,_,rfl,rfl,au.of (sm5 _ _ hna),rfl,_,rfl,D,_,_,_,rfl,rfl,aG.of eD,rfl,ta,_,_,_,rfl,rfl,au.of (sm5 _ _ hta),bH eyx,ox,_,_,_,rfl,rfl,au.of (sm5 _ _ hox),rfl,?_⟩
   refine ⟨_,rfl,na,_,_,_,rfl,rfl,au.of (sm5 _ _ hna),rfl,_,rfl,D,_,_,_,rfl,rfl,aG.of eD,rfl,ta,_,_,_,rfl,rfl,au.of (sm5 _ _ hta),bH eyy,oy,_,_,_,rfl,rfl,au.of (sm5 _ _ hoy),rfl,?_⟩
   refine ⟨ogx,ogy,_,_,rfl,sm5 _ _ hogx,sm5 _ _ hogy,x1,x2,y1,y2,_,_,rfl,rfl,_,rfl,vL (fun c=>?_) (fun c=>?_)⟩
   ·have c:tx.gain.1*ty.gain.2 - ty.gain.1*tx.gain.2 > 0:=of_decide_eq_true c
    refine ⟨_,rfl,D,_,_,_,rfl,rfl,aG.of eD,rfl,L,_,_,rfl,rfl,hL5,by rw [List.length_map];trivial,fun J6 c6=>done (k1 ?_) c6⟩
    exact (iZ gy.fg.pos gx.fg.pos).mpr (by trivial)
   ·have c:¬tx.gain.1*ty.gain.2 - ty.gain.1*tx.gain.2 > 0:=fun z=>c (decide_eq_true z)
    refine ⟨_,rfl,D,_,_,_,rfl,rfl,aG.of eD,rfl,L,_,_,rfl,rfl,hL5,by rw [List.length_map];trivial,fun J6 c6=>done (k2 ?_) c6⟩
    have le:gR tx≤gR ty:=(pS gx.fg.pos gy.fg.pos).mpr (by trivial)
    exact Rat.not_le.mp fun z=>ne (Rat.le_antisymm le z)
  ·rintro σ J ⟨v3,v4,v5,bs,rfl,hL,lb,bst,sm,_⟩
   refine nA _ _ ?_
   clear nA DA
   have eg:∃g,pL ls ts bs g:=⟨fun k=>((ts[bs.getD k 0]?).map (·.gain)).getD (1,1),nd,by trivial,fun t ht=>⟨(fun z=>by rw [(ci.ok t ht).2.1] at z;cases z),let ⟨_,_,k,_,d⟩:=ci.ok t ht;⟨k,d⟩⟩,fun k b e=>by
    obtain ⟨t,t1,t2,t3,t4⟩:=bst.h k b e
    refine ⟨t,t1,t2,t3,?_,t4⟩
    have:bs.getD k 0=b:=by rw [List.getD_eq_getElem?_getD,e];rfl
    rw [this,t1]
    rfl⟩
   obtain ⟨g,ch⟩:=eg
   have lb':=ch.len
   have gd:=ch.grd l9
   by_cases hx:∃mx,mx<ls.length∧(bN ts (mx+1)).lf=none
   case neg=>
    exact bO fun Q2 nA2=>⟨_,rfl,.ref na,ls,ts,rfl,hv.mono sm.toE,tc,by trivial,by trivial,by trivial,.inr ⟨fun m hm z=>hx ⟨m,hm,z⟩,fun R us a dx r H' ok _ _ _ _ _ _=>(uR gd.dn ok).elim⟩⟩
   obtain ⟨mx,hmx,emx⟩:=hx
   refine bO fun Q2 nA2=>⟨_,rfl,.ref na,ls,ts,rfl,hv.mono sm.toE,tc,by trivial,by trivial,by trivial,.inl ⟨mx,hmx,emx,fun m r xs H3 hm em s3 fr3 hr3 lx vx gx=>nA2 _ _ ?_⟩⟩
   have sm3:=sm.trans s3
   have hL3:=s3 _ _ hL
   have fin:∀{J:Hp},aj H3 J→(cF.rt { nx:=fun _ H'=>Q .non H',rt:=Q } (.bl true) J):=fun {J} sJ=>k J (sm3.trans sJ)
   have eln:(((ls.map aD).length:Nat):Int).toNat=ls.length:=by rw [List.length_map];trivial
   refine bT fun DB nB=>⟨_,rfl,pa,_,rfl,.inr (au.of (sm3 _ _ hpa)),_,rfl,by rw [List.length_map];trivial,by rw [List.length_map];trivial,?_⟩
   rw [eln]
   refine kD (n:=ls.length) (fun i σ H'=>D9 fun (v7 v8 v9 v10 v11 v12:Option V)=>σ=[some (.ref na),some (.ref pa),some (.ref L),v3,v4,v5,some (.ref r),v7,v8,v9,v10,v11,v12]∧aj H3 H') ⟨_,_,_,_,_,_,rfl,aj.refl _⟩ ?_ ?_
   ·rintro i σ J hi ⟨v7,v8,v9,v10,v11,v12,rfl,sJ⟩
    refine bT fun DC nC=>⟨(by show 2≤10000;decide),fun u1 J1 m1=>⟨(by show 2≤10000;decide),fun u2 J2 m2=>⟨(by show 2≤10000;decide),fun T5 J3 m3=>⟨T5,_,rfl,au.of m3.at',rfl,_,_,rfl,_,_,rfl,rfl,nC _ _ ?_⟩⟩⟩⟩
    clear nC DC
    have s13:=((sJ.trans m1.sm).trans m2.sm).trans m3.sm
    have smA:=sm3.trans s13
    refine bT fun DD nD=>⟨_,rfl,_,_,rfl,rfl,_,rfl,pa,_,rfl,.inr (au.of (smA _ _ hpa)),_,_,rfl,⟨by trivial,by trivial,by rw [List.length_map];trivial,by rw [List.length_map];trivial⟩,?_⟩
    obtain ⟨n2,en2,hn2⟩:∃n2:Nat,((((ls.map aD).length:Nat):Int) - (0+(i:Int)+1)).toNat=n2∧i+n2+1=ls.length:=⟨_,rfl,by rw [List.length_map];trivial⟩
    rw [en2]
    refine kD (n:=n2) (fun j σ H'=>Dv fun (v10 v11 v12:Option V) (og od:Addr) (p d:KM.Fra)=>σ=[some (.ref na),some (.ref pa),some (.ref L),v3,v4,v5,some (.ref r),some (.int (0+(i:Int))),some (.ref og),some (.ref od),v10,v11,v12]∧H' og=some (fr p)∧KM.Rd p∧Gb (1+6*j) (1+6*j) p∧KM.vl p=PP (gP g) i j∧H' od=some (fr d)∧KM.Rd d∧Gb (1+6*j) (1+6*j) d∧(∃m,m≤j∧KM.vl d=PP (gP g) i m)∧(∀m,m≤j→PP (gP g) i m≤KM.vl d)∧aj H3 H') ⟨_,_,_,u1,u2,(1,1),(1,1),rfl,m3.sm _ _ (m2.sm _ _ m1.at'),vV.rd,sf,jz,m3.sm _ _ m2.at',vV.rd,sf,⟨0,Nat.le_refl _,jz⟩,(fun m hm=>by obtain rfl:m=0:=Nat.le_zero.mp hm;rw [jz];exact Rat.le_refl),s13⟩ ?_ ?_
    ·rintro j σ M hj ⟨v10,v11,v12,og,od,p,d,rfl,hog,rp,gp,ep,hod,rd,gd',⟨m',hm',em'⟩,hmax,sM⟩
     have smM:=sm3.trans sM
     have hLM:=sM _ _ hL3
     have hij:i+j<bs.length:=by trivial
     have eb:bs[i+j]?=some (bs.getD (i+j) 0):=bn hij
     obtain ⟨t,t1,t2,t3,t4,_⟩:=ch.best _ _ eb
     have tt:=tc t (List.mem_of_getElem? t1)
     obtain ⟨y,ey⟩:∃y,ys[bs.getD (i+j) 0]?=some y:=⟨_,List.getElem?_eq_getElem (by rw [lys];exact (List.getElem?_eq_some_iff.mp t1).1)⟩
     obtain ⟨dy,edy,gy⟩:=ity.get ey
     rw [List.getElem?_map,t1] at edy
     obtain rfl:dG t=dy:=Option.some.inj edy
     obtain ⟨o,om,ogt,op,rfl,ho,_,hogt,_⟩:=gf gy
     have eI:(0:Int)+(i:Int)+1+(j:Int) - 1=((i+j:Nat):Int):=by trivial
     have eN:(bX bs)[i+j]?=some (.int ((bs.getD (i+j) 0:Nat):Int)):=by rw [List.getElem?_map,eb];rfl
     refine bO fun Q5 nA5=>⟨_,rfl,_,rfl,na,_,_,_,rfl,rfl,au.of (smM _ _ hna),rfl,_,rfl,_,rfl,_,_,rfl,rfl,L,_,_,_,rfl,rfl,aG.of hLM,by rw [eI];exact bH eN,ta,_,_,_,rfl,rfl,au.of (smM _ _ hta),bH ey,o,_,_,_,rfl,rfl,au.of (smM _ _ ho),rfl,og,ogt,p,t.gain,_,_,6,6,rfl,hog,smM _ _ hogt,gp,tt.fg,by trivial,by trivial,by decide,by decide,(fun z=>by cases z),fun o2 M1 n1=>nA5 _ _ ?_⟩
     have gp2:Gb (1+6*(j+1)) (1+6*(j+1)) (KM.lTim p t.gain):=gp.tim tt.fg (by trivial) (by trivial)
     have tg2:=tt.fg.pos
     have rp1:=rp.1
     have rp2:KM.Rd (KM.lTim p t.gain):=KM.Rd.low (Int.ne_of_gt (Int.mul_pos (by trivial) (by trivial)))
     have ep2:KM.vl (KM.lTim p t.gain)=PP (gP g) i (j+1):=by
      rw [KM.vl_tim (by trivial) (by trivial),ep,t4]
      rfl
     generalize KM.lTim p t.gain=p2 at n1 gp2 rp2 ep2
     have sM1:=sM.trans n1.sm
     obtain ⟨a1,a2⟩:=gz gp2 (by trivial) (by trivial)
     obtain ⟨b1,b2⟩:=gz gd' (by trivial) (by trivial)
     refine ER (fun v H'=>bz fun od2 d2=>v=.ref od2∧M1=H'∧M1 od2=some (fr d2)∧KM.Rd d2∧Gb (1+6*(j+1)) (1+6*(j+1)) d2∧(∃m,m≤j+1∧KM.vl d2=PP (gP g) i m)∧(∀m,m≤j+1→PP (gP g) i m≤KM.vl d2)) ?_ fun rs=>?_
     rotate_left
     ·refine ⟨_,rfl,_,rfl,o2,od,p2,d,rfl,n1.at',n1.sm _ _ hod,a1,a2,b1,b2,_,_,rfl,rfl,_,rfl,vL (fun c=>?_) (fun c=>?_)⟩
      ·have c:p2.1*d.2 - d.1*p2.2 > 0:=of_decide_eq_true c
       have lt:KM.vl d<KM.vl p2:=(iZ rd.1 rp2.1).mpr (by trivial)
       refine ⟨_,rfl,rs _ _ ⟨o2,p2,rfl,rfl,n1.at',rp2,gp2,⟨j+1,Nat.le_refl _,ep2⟩,fun m hm=>?_⟩⟩
       by_cases q:m=j+1
       ·rw [q,←ep2];exact Rat.le_refl
       ·exact Rat.le_trans (hmax m (by trivial)) (Rat.le_of_lt lt)
      ·have c:¬p2.1*d.2 - d.1*p2.2 > 0:=fun z=>c (decide_eq_true z)
       have le:KM.vl p2≤KM.vl d:=(pS rp2.1 rd.1).mpr (by trivial)
       refine ⟨_,rfl,rs _ _ ⟨od,d,rfl,rfl,n1.sm _ _ hod,rd,gd'.mono (by trivial) (by trivial),⟨m',by trivial,em'⟩,fun m hm=>?_⟩⟩
       by_cases q:m=j+1
       ·rw [q,←ep2];exact le
       ·exact hmax m (by trivial)
     rintro _ _ ⟨od2,d2,rfl,rfl,hod2,rd2,gd2,⟨m2',hm2',em2'⟩,hmax2⟩
     have smM1:=sm3.trans sM1
     have ha:ls[i]?=some (ls.getD i []):=bn hi
     have hb:ls[i+1+j]?=some (ls.getD (i+1+j) []):=bn (by trivial)
     have ha':(ls.map aD)[i]?=some (aD (ls.getD i [])):=by rw [List.getElem?_map,ha];rfl
     have hb':(ls.map aD)[i+1+j]?=some (aD (ls.getD (i+1+j) [])):=by rw [List.getElem?_map,hb];rfl
     have eJ:(0:Int)+(i:Int)+1+(j:Int)=((i+1+j:Nat):Int):=by trivial
     generalize ls.getD i []=la at ha ha'
     generalize ls.getD (i+1+j) []=le at hb hb'
     have mla:=List.mem_of_getElem? ha
     have mle:=List.mem_of_getElem? hb
     refine tJ fun Q6 nP6=>⟨_,rfl,_,rfl,pa,_,_,_,rfl,rfl,au.of (smM1 _ _ hpa),by rw [Int.zero_add];exact bH ha',_,rfl,_,rfl,pa,_,_,_,rfl,rfl,au.of (smM1 _ _ hpa),by rw [eJ];exact bH hb',nP6 _ _ _ ?_⟩
     have hvM:∀{J:Hp},aj M1 J→bE ED J (.ref na) (eT ls ts):=fun {J} sJ=>hv.mono (smM1.trans sJ).toE
     have rkl:∀l,qQ ls l≤9:=EG l9
     refine bT fun DE nE=>⟨_,rfl,_,rfl,_,rfl,.ref na,ls,ts,qQ ls,la,le,rfl,hvM (aj.refl _),tc,by trivial,by trivial,by trivial,gd,mla,fun st M2 rs2 s2=>⟨fun w ow ew how gw=>?_,fun ew=>?_⟩⟩
     ·obtain ⟨w',e1,e2,e3⟩:=(ch.gain l9 tk ha hb rs2).1 (by trivial)
      rw [ew] at e1
      cases e1
      rw [show i+1+j - i=j+1 by trivial] at e3
      obtain rfl:w=p2:=e2.eq rp2 (e3.trans ep2.symm)
      refine ⟨_,rfl,cJ w,cJ w,ED,ED,_,_,_,_,cQ how,cQ (s2 _ _ n1.at'),pU gw (by decide) (by decide),pU gw (by decide) (by decide),by decide,_,rfl,?_⟩
      show if (!PyData.eqv (cJ w) (cJ w))=true then _ else _
      rw [rL]
      refine cm ?_
      refine ⟨_,rfl,_,rfl,_,rfl,.ref na,ls,ts,qQ ls,la,le,rfl,hvM s2,tc,by trivial,by trivial,by trivial,gd,mla,rkl la,fun st2 M3 rs3 s3=>⟨fun w3 R rr ew3 fol lR frr hrr=>?_,fun ew3=>?_⟩⟩
      rotate_left
      ·obtain ⟨w',e1,_⟩:=(ch.gain l9 tk ha hb rs3).1 (by trivial)
       rw [ew3] at e1
       cases e1
      have eR:=ch.way l9 tk hb rs3 fol i ha (by trivial)
      rw [show i+1+j - i=j+1 by trivial] at eR
      refine ⟨_,rfl,_,rfl,_,rfl,_,rfl,_,rfl,L,_,rfl,aG.of (s3 _ _ (s2 _ _ (n1.sm _ _ hLM))),fun q4 M4 n4=>?_⟩
      have eC:dk (bX bs) (some (0+(i:Int))) (some (0+(i:Int)+1+(j:Int)))=bX R:=by
       rw [Int.zero_add,show (i:Int)+1+(j:Int)=((i+1+j:Nat):Int) by trivial,BA (by trivial) (by rw [List.length_map];trivial),eR,show i+1+j - i=j+1 by trivial]
       unfold bX
       rw [List.map_take,List.map_drop]
      have h4:=n4.at'
      rw [eC] at h4
      have mR:∀x∈R,x<1000:=fun x hx=>by
       rw [eR] at hx
       obtain ⟨z,ez⟩:=List.getElem?_of_mem (List.mem_of_mem_drop (List.mem_of_mem_take hx))
       obtain ⟨t9,b1,_⟩:=ch.best _ _ ez
       have:=(List.getElem?_eq_some_iff.mp b1).1
       trivial
      refine ⟨.list (R.map fun i:Nat=>PyData.int (i:Int)),.list (R.map fun i:Nat=>PyData.int (i:Int)),fun _=>False,fun _=>False,_,_,_,_,.lst (n4.sm _ _ hrr) id (lK R),.lst h4 id (lK R),.list (jQ mR),.list (jQ mR),by decide,_,rfl,?_⟩
      show if (!PyData.eqv (.list (R.map fun i:Nat=>PyData.int (i:Int))) (.list (R.map fun i:Nat=>PyData.int (i:Int))))=true then _ else _
      rw [rN]
      refine cm (nE _ _ ?_)
      have s14:=(s2.trans s3).trans n4.sm
      have last:∀{J:Hp},aj M1 J→Dv fun (v10 v11 v12:Option V) (og od:Addr) (p d:KM.Fra)=>[some (V.ref na),some (.ref pa),some (.ref L),v3,v4,v5,some (.ref r),some (.int (0+(i:Int))),some (.ref o2),some (.ref od2),some (.int (0+(i:Int)+1+(j:Int))),some (aD la),some (aD le)]=[some (.ref na),some (.ref pa),some (.ref L),v3,v4,v5,some (.ref r),some (.int (0+(i:Int))),some (.ref og),some (.ref od),v10,v11,v12]∧J og=some (fr p)∧KM.Rd p∧Gb (1+6*(j+1)) (1+6*(j+1)) p∧KM.vl p=PP (gP g) i (j+1)∧J od=some (fr d)∧KM.Rd d∧Gb (1+6*(j+1)) (1+6*(j+1)) d∧(∃m,m≤j+1∧KM.vl d=PP (gP g) i m)∧(∀m,m≤j+1→PP (gP g) i m≤KM.vl d)∧aj H3 J:=fun {J} sJ=>⟨_,_,_,o2,od2,w,d2,rfl,sJ _ _ n1.at',rp2,gp2,ep2,sJ _ _ hod2,rd2,gd2,⟨m2',hm2',em2'⟩,hmax2,sM1.trans sJ⟩
      refine ⟨_,rfl,_,rfl,_,rfl,.ref na,ls,ts,qQ ls,le,la,rfl,hvM s14,tc,by trivial,by trivial,by trivial,gd,mle,fun st5 M5 rs5 s5=>⟨fun w5 ow5 ew5 how5 gw5=>?_,fun ew5=>?_⟩⟩
      ·rw [(ch.gain l9 tk hb ha rs5).2 (by trivial)] at ew5
       cases ew5
      refine ⟨rfl,_,rfl,cm ?_⟩
      refine ⟨_,rfl,_,rfl,_,rfl,.ref na,ls,ts,qQ ls,le,la,rfl,hvM (s14.trans s5),tc,by trivial,by trivial,by trivial,gd,mle,rkl le,fun st6 M6 rs6 s6=>⟨fun w6 R6 r6 ew6 _ _ _ _=>?_,fun ew6=>?_⟩⟩
      ·rw [(ch.gain l9 tk hb ha rs6).2 (by trivial)] at ew6
       cases ew6
      exact ⟨rfl,_,rfl,cm (last ((s14.trans s5).trans s6))⟩
     ·obtain ⟨w',e1,_⟩:=(ch.gain l9 tk ha hb rs2).1 (by trivial)
      rw [ew] at e1
      cases e1
    ·rintro σ M ⟨v10,v11,v12,og,od,p,d,rfl,hog,rp,gp,ep,hod,rd,gd',⟨m',hm',em'⟩,hmax,sM⟩
     refine nD _ _ ?_
     have smM:=sm3.trans sM
     have ha:ls[i]?=some (ls.getD i []):=bn hi
     obtain ⟨ow,e1,e2⟩:=vx i _ ha
     obtain ⟨q1,m2,hm2,em2⟩:=ch.hold tk em hi
     have pv:=vh tk m
     have eq:(bN ts m).ω (ls.getD i [])=d:=by
      refine KM.Rd.eq (pv.pos _ _ rfl).2 rd (Rat.le_antisymm ?_ ?_)
      ·show uW (bN ts m) (ls.getD i [])≤_
       rw [←em2];exact hmax m2 (by trivial)
      ·show _≤uW (bN ts m) (ls.getD i [])
       rw [em'];exact q1 m' (by trivial)
     rw [eq] at e2
     have gw:=(gx _ (List.mem_of_getElem? ha)).1
     rw [eq] at gw
     refine ⟨_,rfl,_,rfl,r,_,_,_,rfl,rfl,aG.of (sM _ _ hr3),by rw [Int.zero_add];exact bH e1,_,rfl,cJ d,cJ d,ED,ED,_,_,_,_,cQ (sM _ _ e2),cQ hod,pU gw (by decide) (by decide),pU gw (by decide) (by decide),by decide,_,rfl,?_⟩
     show if (!PyData.eqv (cJ d) (cJ d))=true then _ else _
     rw [rL]
     exact cm ⟨_,_,_,_,_,_,rfl,sM⟩
   ·rintro σ J ⟨v7,v8,v9,v10,v11,v12,rfl,sJ⟩
    refine nB _ _ ?_
    exact ⟨_,rfl,.ref na,ls,ts,rfl,hv.mono (sm3.trans sJ).toE,tc,by trivial,by trivial,by trivial,.inl ⟨mx,hmx,emx,fun H4 s4=>⟨rfl,fin (sJ.trans s4)⟩⟩⟩
end
end K14
namespace K14
open PySem L2
set_option maxHeartbeats 4000000
def wW (k:Nat):Nat:=([0,1,2,0,3,4]:List Nat).getD k 0
def sY (k:Nat):Nat:=([1,2,5,3,4,5]:List Nat).getD k 0
def tV:List KM.Fra:=[(58,51),(16,13),(37,27),(55,28),(47,31),(38,59)]
def b7:List KM.Fra:=[(58,51),(16,13),(37,27),(28,55),(31,47),(59,38)]
def nj (ls:List (List Nat)) (k:Nat):ah:=⟨ls.getD (wW k) [],ls.getD (sY k) [],(1,1),tV.getD k (1,1),(0,1)⟩
def lv (m:Nat):Nat:=([0,1,2,4,5]:List Nat).getD m 0
def A8 (m:Nat):Nat:=([3,2,1,2,1,0]:List Nat).getD m 0
def vH (m:Nat):Option Rat:=([some (KM.vl (58,51)*(KM.vl (16,13)*(KM.vl (37,27)*1))),some (KM.vl (16,13)*(KM.vl (37,27)*1)),some (KM.vl (37,27)*1),some (KM.vl (47,31)*(KM.vl (38,59)*1)),some (KM.vl (38,59)*1),some 1]:List (Option Rat)).getD m none
theorem vI {k:Nat} (h:k<6):k=0∨k=1∨k=2∨k=3∨k=4∨k=5:=by trivial
theorem G9:∀g∈tV,Bd 63 g:=by
 intro g hg
 unfold tV at hg
 simp only [List.mem_cons,List.not_mem_nil,or_false] at hg
 rcases hg with rfl | rfl | rfl | rfl | rfl | rfl <;> exact ⟨by decide,by decide,by decide,by decide,by decide⟩
theorem Ge:∀g∈b7,Bd 63 g:=by
 intro g hg
 unfold b7 at hg
 simp only [List.mem_cons,List.not_mem_nil,or_false] at hg
 rcases hg with rfl | rfl | rfl | rfl | rfl | rfl <;> exact ⟨by decide,by decide,by decide,by decide,by decide⟩
theorem su {a b:List KM.Fra} (h:a.Perm b):bP a=bP b:=by
 induction h with
 | nil=>rfl
 | cons x _ ih=>show KM.vl x*bP _=KM.vl x*bP _;rw [ih]
 | swap x y l=>show KM.vl y*(KM.vl x*bP l)=KM.vl x*(KM.vl y*bP l);rw [←Rat.mul_assoc,Rat.mul_comm (KM.vl y),Rat.mul_assoc]
 | trans _ _ h1 h2=>exact h1.trans h2
abbrev zW (order:List Nat):List KM.Fra:=order.map fun k=>b7.getD k (1,1)
abbrev Aq (order:List Nat):List KM.Fra:=order.map fun k=>((b7.getD k (1,1)).2,(b7.getD k (1,1)).1)
theorem Ca {order:List Nat} (h:order.Perm (List.range 6)):1<bP (zW order):=by
 rw [su (h.map _)]
 decide +kernel
theorem Cj {order:List Nat} (h:order.Perm (List.range 6)):bP (Aq order)≤1:=by
 rw [su (h.map _)]
 decide +kernel
theorem y3 {order:List Nat} (h:order.Perm (List.range 6)):(∀g∈zW order,Bd 63 g)∧∀g∈Aq order,Bd 63 g:=by
 have q:∀k∈order,Bd 63 (b7.getD k (1,1)):=fun k hk=>by
  have:=List.mem_range.mp (h.mem_iff.mp hk)
  exact Ge _ (List.mem_of_getElem? (bn (d:=(1,1)) this))
 refine ⟨fun g hg=>?_,fun g hg=>?_⟩
 ·obtain ⟨k,hk,rfl⟩:=List.mem_map.mp hg
  exact q k hk
 ·obtain ⟨k,hk,rfl⟩:=List.mem_map.mp hg
  exact (q k hk).inv
section
variable {ls:List (List Nat)}{order:List Nat}
abbrev mK (ls:List (List Nat)) (order:List Nat):List ah:=order.map (nj ls)
theorem oj (h:order.Perm (List.range 6)) {t:ah} (ht:t∈mK ls order):∃k,k<6∧t=nj ls k:=by
 obtain ⟨k,hk,rfl⟩:=List.mem_map.mp ht
 exact ⟨k,List.mem_range.mp (h.mem_iff.mp hk),rfl⟩
theorem zz {k:Nat} (h:k<6):wW k<5:=by rcases vI h with rfl | rfl | rfl | rfl | rfl | rfl <;> decide
theorem EC {k:Nat} (h:k<6):sY k<6:=by rcases vI h with rfl | rfl | rfl | rfl | rfl | rfl <;> decide
theorem qI (hl:ls.length=6) {k:Nat} (h:k<6):ls[wW k]?=some (nj ls k).bg:=bn (by have:=zz h;trivial)
theorem tz (hl:ls.length=6) {k:Nat} (h:k<6):ls[sY k]?=some (nj ls k).en:=bn (by have:=EC h;trivial)
theorem GD (nd:ls.Nodup) (hl:ls.length=6) (h:order.Perm (List.range 6)):∀t∈mK ls order,fA ls t:=fun t ht=>by
 obtain ⟨k,hk,rfl⟩:=oj h ht
 have b1:=qI hl hk
 have e1:=tz hl hk
 have b:=G9 _ (List.mem_of_getElem? (bn (xs:=tV) (k:=k) (d:=(1,1)) hk))
 refine ⟨List.mem_of_getElem? b1,List.mem_of_getElem? e1,fun z=>?_,zb,b.gb (m:=6) (by decide),b.n1,wq.mono (by decide) (by decide),by show (0:Int)≤1;decide,by show Int.gcd 1 1=1;decide⟩
 rw [←z] at e1
 have:=bI nd b1 e1
 rcases vI hk with rfl | rfl | rfl | rfl | rfl | rfl <;> cases this
def wD (ls:List (List Nat)) (l:List Nat):Nat:=A8 (ls.idxOf l)
theorem Ag (nd:ls.Nodup) (hl:ls.length=6) (h:order.Perm (List.range 6)):xn ls (mK ls order) (wD ls):=by
 have q:∀k,k<6→A8 (sY k)<A8 (wW k)∧A8 (sY k)<9:=fun k hk=>by rcases vI hk with rfl | rfl | rfl | rfl | rfl | rfl <;> decide
 refine ⟨fun t ht=>?_,fun t ht=>?_⟩
 ·obtain ⟨k,hk,rfl⟩:=oj h ht
  unfold wD
  rw [dZ nd (qI hl hk),dZ nd (tz hl hk)]
  exact (q k hk).1
 ·obtain ⟨k,hk,rfl⟩:=oj h ht
  unfold wD
  rw [dZ nd (tz hl hk)]
  exact (q k hk).2
def mQ (ls:List (List Nat)) (l:List Nat):Option Rat:=vH (ls.idxOf l)
def Dq (ls:List (List Nat)) (order:List Nat) (l:List Nat):Nat:=order.idxOf (lv (ls.idxOf l))
theorem pY (h:order.Perm (List.range 6)) {k:Nat} (hk:k<6):order[order.idxOf k]?=some k:=by
 have m:k∈order:=h.mem_iff.mpr (List.mem_range.mpr hk)
 have h1:=List.idxOf_lt_length_of_mem m
 rw [List.getElem?_eq_getElem h1,List.getElem_idxOf h1]
theorem C5 (nd:ls.Nodup) (hl:ls.length=6) (h:order.Perm (List.range 6)) {le:List Nat} (hle:ls[5]?=some le):zJ (mK ls order) le (mQ ls) (Dq ls order):=by
 have ndo:order.Nodup:=h.nodup_iff.mpr List.nodup_range
 have ve:∀{k:Nat},k<6→mQ ls (nj ls k).en=vH (sY k):=fun hk=>by unfold mQ;rw [dZ nd (tz hl hk)]
 refine ⟨?_,fun t ht e=>?_,fun l x ne hv=>?_,fun l hv t ht e=>?_⟩
 ·unfold mQ;rw [dZ nd hle];rfl
 ·obtain ⟨k,hk,rfl⟩:=oj h ht
  have b1:=qI hl hk
  rw [e] at b1
  have:=bI nd b1 hle
  have:=zz hk
  trivial
 ·have hm:ls.idxOf l<6:=by
   refine Nat.lt_of_not_le fun z=>?_
   unfold mQ vH at hv
   rw [List.getD_eq_getElem?_getD,List.getElem?_eq_none (by simpa using z)] at hv
   cases hv
  have el:ls[ls.idxOf l]?=some l:=by rw [List.getElem?_eq_getElem (by trivial),List.getElem_idxOf (by trivial)]
  have hm5:ls.idxOf l<5:=by
   refine Nat.lt_of_le_of_ne (by trivial) fun z=>ne ?_
   rw [z,hle] at el
   exact (Option.some.inj el).symm
  unfold mQ at hv
  unfold Dq
  generalize ls.idxOf l=m at hm el hm5 hv ⊢
  have hb6:lv m<6:=by
   obtain rfl | rfl | rfl | rfl | rfl:m=0∨m=1∨m=2∨m=3∨m=4:=by trivial
   all_goals decide
  have hbm:wW (lv m)=m:=by
   obtain rfl | rfl | rfl | rfl | rfl:m=0∨m=1∨m=2∨m=3∨m=4:=by trivial
   all_goals decide
  have eb:(nj ls (lv m)).bg=l:=by
   have:=qI hl hb6
   rw [hbm,el] at this
   exact (Option.some.inj this).symm
  obtain ⟨y,hy,ex⟩:∃y,vH (sY (lv m))=some y∧x=gR (nj ls (lv m))*y:=by
   obtain rfl | rfl | rfl | rfl | rfl:m=0∨m=1∨m=2∨m=3∨m=4:=by trivial
   all_goals (cases hv;exact ⟨_,rfl,rfl⟩)
  refine ⟨nj ls (lv m),y,by rw [List.getElem?_map,pY h hb6];rfl,(by intro z;cases z),eb,by rw [ve hb6];exact hy,ex,fun i t' et' eb'=>?_⟩
  rw [List.getElem?_map] at et'
  obtain ⟨k,ek,rfl⟩:=Option.map_eq_some_iff.mp et'
  have hk:k<6:=List.mem_range.mp (h.mem_iff.mp (List.mem_of_getElem? ek))
  have b1:=qI hl hk
  rw [eb'] at b1
  have hkm:=bI nd b1 el
  by_cases c:k=lv m
  ·left
   rw [c] at ek
   exact bI ndo ek (pY h hb6)
  ·have k3:k=3∧m=0:=by
    obtain rfl | rfl | rfl | rfl | rfl | rfl:=vI hk
    all_goals (subst hkm)
    all_goals first | exact ⟨rfl,rfl⟩ | exact absurd rfl c
   obtain ⟨rfl,rfl⟩:=k3
   refine .inr (.inr ⟨_,by rw [ve (by decide)];rfl,?_⟩)
   cases hv
   show KM.vl (55,28)*(KM.vl (47,31)*(KM.vl (38,59)*1))<KM.vl (58,51)*(KM.vl (16,13)*(KM.vl (37,27)*1))
   decide +kernel
 ·exfalso
  obtain ⟨k,hk,rfl⟩:=oj h ht
  have b1:=qI hl hk
  rw [e] at b1
  unfold mQ at hv
  rw [dZ nd b1] at hv
  obtain rfl | rfl | rfl | rfl | rfl | rfl:=vI hk
  all_goals cases hv
theorem xR (nd:ls.Nodup) (hl:ls.length=6) (h:order.Perm (List.range 6)) {la le:List Nat} (ha:ls[0]?=some la) (hle:ls[5]?=some le) {s:LP} (rs:RS (mK ls order) le s):∃w,s.ω la=some w∧w=[(58,51),(16,13),(37,27)].foldl KM.lTim (1,1):=by
 obtain ⟨w,w1,w2,_⟩:=((C5 nd hl h hle).at (Ag nd hl h) rs _ la (Nat.lt_succ_self _)).2 (KM.vl (58,51)*(KM.vl (16,13)*(KM.vl (37,27)*1))) (by unfold mQ;rw [dZ nd ha];rfl)
 refine ⟨w,w1,(rs.pv.pos la w w1).2.eq ⟨by decide +kernel,by decide +kernel⟩ ?_⟩
 rw [w2]
 decide +kernel
theorem GH (nd:ls.Nodup) (hl:ls.length=6) (h:order.Perm (List.range 6)) {la le:List Nat} (ha:ls[0]?=some la) (hle:ls[5]?=some le) {s:LP} (rs:RS (mK ls order) le s) {R:List Nat} (f:qR (mK ls order) le s.on la R):R=[order.idxOf 0,order.idxOf 1,order.idxOf 2]:=by
 have st:∀{p:List Nat}{m:Nat}{R:List Nat},ls[m]?=some p→m<3→qR (mK ls order) le s.on p R→bz fun R' q=>R=order.idxOf m :: R'∧ls[sY m]?=some q∧qR (mK ls order) le s.on q R':=fun {p m R} hp hm f=>by
  have hb:lv m=m:=by
   obtain rfl | rfl | rfl:m=0∨m=1∨m=2:=by trivial
   all_goals rfl
  cases f with
  | nil=>have:=bI nd hp hle;trivial
  | @cons _ k t R' ne eo et f'=>
   obtain ⟨x,hx⟩:∃x,mQ ls p=some x:=by
    unfold mQ
    rw [dZ nd hp]
    obtain rfl | rfl | rfl:m=0∨m=1∨m=2:=by trivial
    all_goals exact ⟨_,rfl⟩
   obtain ⟨w,_,_,w3⟩:=((C5 nd hl h hle).at (Ag nd hl h) rs _ p (Nat.lt_succ_self _)).2 x hx
   have w4:=w3 ne
   rw [eo] at w4
   have ek:k=order.idxOf m:=by
    rw [Option.some.inj w4]
    unfold Dq
    rw [dZ nd hp,hb]
   subst ek
   rw [List.getElem?_map,pY h (by trivial)] at et
   cases et
   exact ⟨R',_,rfl,tz hl (by trivial),f'⟩
 obtain ⟨R1,q1,rfl,h1,f1⟩:=st ha (by decide) f
 obtain ⟨R2,q2,rfl,h2,f2⟩:=st (m:=1) h1 (by decide) f1
 obtain ⟨R3,q3,rfl,h3,f3⟩:=st (m:=2) h2 (by decide) f2
 have e:q3=le:=by
  have h3:ls[5]?=some q3:=h3
  rw [hle] at h3
  exact (Option.some.inj h3).symm
 subst e
 cases f3 with
 | nil=>rfl
 | cons ne _ _ _=>exact absurd rfl ne
end
end K14
namespace K14
open PySem L2
set_option maxHeartbeats 8000000
theorem sV {α:Type}:∀{rs:List α}{i:Nat}{x:α},rs[i]?=some x→(x :: rs.eraseIdx i).Perm rs
 | [],i,x,h=>by cases h
 | y :: r,0,x,h=>by cases h;exact .refl _
 | y :: r,i+1,x,h=>(List.Perm.swap y x (r.eraseIdx i)).trans (.cons y (sV (rs:=r) h))
theorem yt (rs:List Nat) (i:Nat):(bX rs).eraseIdx i=bX (rs.eraseIdx i):=uI _ rs i
section
variable {P:Program}{w:World}{K:PySem.W.Frag}{mg:Str→Option Value}{base:Heap}
inductive ET (vs:List V) (H:Hp) (Q:VK):Prop
 | mk (b:Addr) (t:Int) (h0:vs=[.ref b]) (h1:Bx H b t) (h2:0≤t) (h3:t≤800000) (h4:∀t' H',bh (Eb b) H H'→Bx H' b t'→t≤t'→t'≤t+30→Q (.bl true) H')
def GI:Sp:=fun vs H Q _=>ET  vs H Q
theorem sj (T:Txt K mg):bv P w K mg base CX0 10 T.l_hairs_right_.f T.l_hairs_right_.d ["_law_box_here"] GI:=by
 have G_l_take:=nM (P:=P) (w:=w) (base:=base) T
 have G_l_names_by:=nu (P:=P) (w:=w) (base:=base) T
 have G_l_product:=jt (P:=P) (w:=w) (base:=base) T
 have G_l_ring_right:=mI (P:=P) (w:=w) (base:=base) T
 have G_greatest_gain:=mq (P:=P) (w:=w) (base:=base) T
 have G_best_way:=re (P:=P) (w:=w) (base:=base) T
 refine T.l_hairs_right_.F.ok aF (fun vs H Q E h=>?_) (fun cdv A outer s H vs Q E hr h=>?_)
 ·obtain ⟨b,t,rfl,_⟩:=h
  rfl
 ·obtain ⟨b,t,rfl,B,ht0,ht1,k⟩:=h
  refine ⟨_,(@ae _ _ _ _ _ (@eh _ _ _ _ _ _ (@ax _ _ _ _ _ (@aa _ _ _ _ _ (@dY _ _ _ _ (@aa _ _ _ _ _ (@ax _ _ _ _ _ (@aa _ _ _ _ _ (@ad _ _ _ _) (@aa _ _ _ _ _ (@ad _ _ _ _) (@ac _) rfl) rfl)) (@aa _ _ _ _ _ (@ax _ _ _ _ _ (@aa _ _ _ _ _ (@ad _ _ _ _) (@aa _ _ _ _ _ (@ad _ _ _ _) (@ac _) rfl) rfl)) (@aa _ _ _ _ _ (@ax _ _ _ _ _ (@aa _ _ _ _ _ (@ad _ _ _ _) (@aa _ _ _ _ _ (@ad _ _ _ _) (@ac _) rfl) rfl)) (@aa _ _ _ _ _ (@ax _ _ _ _ _ (@aa _ _ _ _ _ (@ad _ _ _ _) (@aa _ _ _ _ _ (@ad _ _ _ _) (@ac _) rfl) rfl)) (@aa _ _ _ _ _ (@ax _ _ _ _ _ (@aa _ _ _ _ _ (@ad _ _ _ _) (@aa _ _ _ _ _ (@ad _ _ _ _) (@ac _) rfl) rfl)) (@aa _ _ _ _ _ (@ax _ _ _ _ _ (@aa _ _ _ _ _ (@ad _ _ _ _) (@aa _ _ _ _ _ (@ad _ _ _ _) (@ac _) rfl) rfl)) (@ac _) rfl) rfl) rfl) rfl) rfl) rfl)) (@aa _ _ _ _ _ (@ap _ _ _ _ _ _ _ _ _ _ _ _ _ _ _ _ G_l_names_by (hr.mono (by decide)) kQ T.l_names_by_.m T.l_names_by_.F.kp T.l_names_by_.B .nil (@aK _) (@aa _ _ _ _ _ (@pw _ 0 _ _ (Or.inl gn) (by rfl) (by decide) (by decide)) (@aa _ _ _ _ _ (@ad _ _ _ _) (@ac _) rfl) rfl) (by decide) (by rfl) (by rfl)) (@ac _) rfl) rfl)) (@cY _ (K) _ _ _ _ (2) rfl (@aP _ _ _ _ _ (@aw _ _ (1) _ aF.nd rfl (Or.inr eO) (by first | exact .inl rfl | exact .inr rfl | assumption)) (@aP _ _ _ _ _ (@aw _ _ (2) _ aF.nd rfl (Or.inr cL) (by first | exact .inl rfl | exact .inr rfl | assumption)) (@dv _) (by rfl)) (by rfl)) (by rfl) (by rfl) (by rfl)) (by rfl) (by rfl) (by rfl)) (@ae _ _ _ _ _ (@eh _ _ _ _ _ _ (@ax _ _ _ _ _ (@aa _ _ _ _ _ (@dY _ _ _ _ (@ac _)) (@aa _ _ _ _ _ (@AA _ _ _ _ _ _ _ rfl oU T.b_list (@hV) fM T.b_range (@aa _ _ _ _ _ (@ad _ _ _ _) (@ac _) rfl) (by rfl) (by rfl)) (@ac _) rfl) rfl)) (@cY _ (K) _ _ _ _ (2) rfl (@aP _ _ _ _ _ (@aw _ _ (3) _ aF.nd rfl (Or.inr cR) (by first | exact .inl rfl | exact .inr rfl | assumption)) (@aP _ _ _ _ _ (@aw _ _ (4) _ aF.nd rfl (Or.inl df) (by first | exact .inl rfl | exact .inr rfl | assumption)) (@dv _) (by rfl)) (by rfl)) (by rfl) (by rfl) (by rfl)) (by rfl) (by rfl) (by rfl)) (@ae _ _ _ _ _ (@j6 _ _ _ _ _ _ PassesOwn.never (@bj _ _ _ _ _ _ _ _ (@Ak _ hr.units) (@pw _ 4 _ _ (Or.inl df) (by rfl) (by decide) (by decide)) (@dY _ _ _ _ (@ac _)) (@aZ _ _ (by decide) (by decide))) (@am _ _ _ (@fN _ _ _ _ (@fS _ (K) _ _ _ _ _ _ _ _ _ _ _ PySem.F.plainAttrs_list PySem.F.slot_list_append PySem.F.type_list_append (@jm _) (@pw _ 3 _ _ (Or.inr (Or.inl cR)) (by rfl) (by decide) (by decide)) (@aa _ _ _ _ _ (@fS _ (K) _ _ _ _ _ _ _ _ _ _ _ PySem.F.plainAttrs_list PySem.F.slot_list_pop PySem.F.type_list_pop (@Bo _) (@pw _ 4 _ _ (Or.inl df) (by rfl) (by decide) (by decide)) (@aa _ _ _ _ _ (@ap _ _ _ _ _ _ _ _ _ _ _ _ _ _ _ _ G_l_take (hr.mono (by decide)) mT T.l_take_.m T.l_take_.F.kp T.l_take_.B .nil (@aK _) (@aa _ _ _ _ _ (@pw _ 0 _ _ (Or.inl gn) (by rfl) (by decide) (by decide)) (@aa _ _ _ _ _ (@be _ _ _ _ _ _ _ _ _ (@ju _ (K) (by rfl)) pB T.b_len (@cq) (@aa _ _ _ _ _ (@pw _ 4 _ _ (Or.inl df) (by rfl) (by decide) (by decide)) (@ac _) rfl) (by decide) (by decide) (by rfl) (by rfl)) (@ac _) rfl) rfl) (by decide) (by rfl) (by rfl)) (@ac _) rfl) (by rfl) (by rfl) (by rfl) (by rfl) (by rfl) (by rfl)) (@ac _) rfl) (by rfl) (by rfl) (by rfl) (by rfl) (by rfl) (by rfl)) (by rfl)))) (@ae _ _ _ _ _ (@gm _ _ _ _ _ _ _ _ PassesOwn.never rfl (@jO _ (K) _ _ _ (@ax _ _ _ _ _ (@aa _ _ _ _ _ (@ig _ _ _ _) (@aa _ _ _ _ _ (@ig _ _ _ _) (@ac _) rfl) rfl)) (by rfl)) (@aw _ _ (5) _ aF.nd rfl (Or.inr fB) (by first | exact .inl rfl | exact .inr rfl | assumption)) (@ae _ _ _ _ _ (@aL _ _ (6) _ _ _ _ aF.nd rfl (Or.inr iY) (@ft _ _ _ _ _ _ _ (["_law_k", "_law_gains", "_law_turned_over"]) (1) ([1,5]) _ _ _ _ rfl (by kernel_rfl) (@kh _ (K) _ _ _ (@pw _ 3 _ _ (Or.inr (Or.inl cR)) (by rfl) (by decide) (by decide)) (by rfl)) (fun _ _ _ _ _ _=>(@aw _ _ (0) _ (@cG _ (by kernel_rfl)) rfl (Or.inl (by kernel_rfl)) (by first | exact .inl rfl | exact .inr rfl | assumption))) (fun _ _ _ _ _ _=>@ca _) (fun _ _ _ _ _ _=>(@j8 _ _ _ _ _ _ _ _ (@fh _ _ _ (@pw _ 2 _ _ (Or.inr (Or.inl (by kernel_rfl))) (by rfl) (by decide) (by decide)) (by intro _;rfl)) (@Cz _ _ _ _ _ _ _ (@aq _ _ _ _ _ _ _ (@fb _ (K) (by rfl)) (@pw _ 1 _ _ (Or.inr (Or.inl (by kernel_rfl))) (by rfl) (by decide) (by decide)) (@pw _ 0 _ _ (Or.inl (by kernel_rfl)) (by rfl) (by decide) (by decide)) (fun _ _=>rfl)) (@dU _ _ _ (@vf _ _ _ _ _ _ (@sP _) (@ad _ _ _ _)))) (@aq _ _ _ _ _ _ _ (@fb _ (K) (by rfl)) (@pw _ 1 _ _ (Or.inr (Or.inl (by kernel_rfl))) (by rfl) (by decide) (by decide)) (@pw _ 0 _ _ (Or.inl (by kernel_rfl)) (by rfl) (by decide) (by decide)) (fun _ _=>rfl)))) (by intro _;rfl)) (by rfl) (by first | exact .inl rfl | exact .inr rfl | assumption)) (@ae _ _ _ _ _ (@iN _ _ _ _ _ _ _ (["_law_k", "_law_places", "_law_row"]) (1) ([2,6]) _ _ _ _ (7) _ _ _ aF.nd rfl iF (by kernel_rfl) rfl (by kernel_rfl) (@cz _ _ _ _ _ _ fM T.b_range (@aa _ _ _ _ _ (@ad _ _ _ _) (@ac _) rfl) (by rfl)) (fun _ _ _ _ _ _=>(@aw _ _ (0) _ (@cG _ (by kernel_rfl)) rfl (Or.inl (by kernel_rfl)) (by first | exact .inl rfl | exact .inr rfl | assumption))) (fun _ _ _ _ _ _=>@ca _) (fun _ _ _ _ _ _=>(@ax _ _ _ _ _ (@aa _ _ _ _ _ (@aq _ _ _ _ _ _ _ (@aN _ (K) (by rfl)) (@pw _ 1 _ _ (Or.inr (Or.inl (by kernel_rfl))) (by rfl) (by decide) (by decide)) (@pw _ 0 _ _ (Or.inl (by kernel_rfl)) (by rfl) (by decide) (by decide)) (fun _ _=>rfl)) (@aa _ _ _ _ _ (@aq _ _ _ _ _ _ _ (@aN _ (K) (by rfl)) (@pw _ 1 _ _ (Or.inr (Or.inl (by kernel_rfl))) (by rfl) (by decide) (by decide)) (@aB _ _ _ _ _ _ _ _ (@g9 _) (@aB _ _ _ _ _ _ _ _ (@cx _) (@pw _ 0 _ _ (Or.inl (by kernel_rfl)) (by rfl) (by decide) (by decide)) (@ad _ _ _ _)) (@ad _ _ _ _)) (fun _ _=>rfl)) (@aa _ _ _ _ _ (@ax _ _ _ _ _ (@aa _ _ _ _ _ (@ad _ _ _ _) (@aa _ _ _ _ _ (@ad _ _ _ _) (@ac _) rfl) rfl)) (@aa _ _ _ _ _ (@aq _ _ _ _ _ _ _ (@fb _ (K) (by rfl)) (@pw _ 2 _ _ (Or.inr (Or.inl (by kernel_rfl))) (by rfl) (by decide) (by decide)) (@pw _ 0 _ _ (Or.inl (by kernel_rfl)) (by rfl) (by decide) (by decide)) (fun _ _=>rfl)) (@aa _ _ _ _ _ (@ax _ _ _ _ _ (@aa _ _ _ _ _ (@ad _ _ _ _) (@aa _ _ _ _ _ (@ad _ _ _ _) (@ac _) rfl) rfl)) (@ac _) rfl) rfl) rfl) rfl) rfl))) (by intro _;rfl)) (@am _ _ _ (@cK _ _ _ _ _ _ _ _ (@iI _ _ _ _ (@fh _ _ _ (@ap _ _ _ _ _ _ _ _ _ _ _ _ _ _ _ _ G_l_ring_right (hr.mono (by decide)) jT T.l_ring_right_.m T.l_ring_right_.F.kp T.l_ring_right_.B .nil (@aK _) (@aa _ _ _ _ _ (@ax _ _ _ _ _ (@aa _ _ _ _ _ (@pw _ 2 _ _ (Or.inr (Or.inl cL)) (by rfl) (by decide) (by decide)) (@aa _ _ _ _ _ (@dQ _ _ _ _ _ _ _ _ _ (@dW _ (K) (by rfl)) i8 T.b_tuple (@dE) (@aa _ _ _ _ _ (@pw _ 7 _ _ (Or.inl iF) (by rfl) (by decide) (by decide)) (@ac _) rfl) (by decide) (by decide) (by rfl) (by rfl)) (@ac _) rfl) rfl)) (@aa _ _ _ _ _ (@vA _ _ _ _ (@pw _ 5 _ _ (Or.inr (Or.inl fB)) (by rfl) (by decide) (by decide))) (@ac _) rfl) rfl) (by decide) (by rfl) (by rfl)) (by intro _;rfl))) (@am _ _ _ (@aM _ _ _ _ (@ig _ _ _ _))) (@bM _))))) (by intro _;rfl)) (@ae _ _ _ _ _ (@eh _ _ _ _ _ _ (@pw _ 2 _ _ (Or.inr (Or.inl cL)) (by rfl) (by decide) (by decide)) (@cY _ (K) _ _ _ _ (6) rfl (@aP _ _ _ _ _ (@aw _ _ (8) _ aF.nd rfl (Or.inl cS) (by first | exact .inl rfl | exact .inr rfl | assumption)) (@aP _ _ _ _ _ (@aw _ _ (9) _ aF.nd rfl (Or.inl gC) (by first | exact .inl rfl | exact .inr rfl | assumption)) (@aP _ _ _ _ _ (@aw _ _ (10) _ aF.nd rfl (Or.inl gJ) (by first | exact .inl rfl | exact .inr rfl | assumption)) (@aP _ _ _ _ _ (@aw _ _ (11) _ aF.nd rfl (Or.inl gB) (by first | exact .inl rfl | exact .inr rfl | assumption)) (@aP _ _ _ _ _ (@aw _ _ (12) _ aF.nd rfl (Or.inl gE) (by first | exact .inl rfl | exact .inr rfl | assumption)) (@aP _ _ _ _ _ (@aw _ _ (13) _ aF.nd rfl (Or.inl cU) (by first | exact .inl rfl | exact .inr rfl | assumption)) (@dv _) (by rfl)) (by rfl)) (by rfl)) (by rfl)) (by rfl)) (by rfl)) (by rfl) (by rfl) (by rfl)) (by rfl) (by rfl) (by rfl)) (@ae _ _ _ _ _ (@aL _ _ (14) _ _ _ _ aF.nd rfl (Or.inr mW) (@dY _ _ _ _ (@aa _ _ _ _ _ (@ax _ _ _ _ _ (@aa _ _ _ _ _ (@pw _ 8 _ _ (Or.inl cS) (by rfl) (by decide) (by decide)) (@aa _ _ _ _ _ (@pw _ 9 _ _ (Or.inl gC) (by rfl) (by decide) (by decide)) (@ac _) rfl) rfl)) (@aa _ _ _ _ _ (@ax _ _ _ _ _ (@aa _ _ _ _ _ (@pw _ 9 _ _ (Or.inl gC) (by rfl) (by decide) (by decide)) (@aa _ _ _ _ _ (@pw _ 10 _ _ (Or.inl gJ) (by rfl) (by decide) (by decide)) (@ac _) rfl) rfl)) (@aa _ _ _ _ _ (@ax _ _ _ _ _ (@aa _ _ _ _ _ (@pw _ 10 _ _ (Or.inl gJ) (by rfl) (by decide) (by decide)) (@aa _ _ _ _ _ (@pw _ 13 _ _ (Or.inl cU) (by rfl) (by decide) (by decide)) (@ac _) rfl) rfl)) (@aa _ _ _ _ _ (@ax _ _ _ _ _ (@aa _ _ _ _ _ (@pw _ 8 _ _ (Or.inl cS) (by rfl) (by decide) (by decide)) (@aa _ _ _ _ _ (@pw _ 11 _ _ (Or.inl gB) (by rfl) (by decide) (by decide)) (@ac _) rfl) rfl)) (@aa _ _ _ _ _ (@ax _ _ _ _ _ (@aa _ _ _ _ _ (@pw _ 11 _ _ (Or.inl gB) (by rfl) (by decide) (by decide)) (@aa _ _ _ _ _ (@pw _ 12 _ _ (Or.inl gE) (by rfl) (by decide) (by decide)) (@ac _) rfl) rfl)) (@aa _ _ _ _ _ (@ax _ _ _ _ _ (@aa _ _ _ _ _ (@pw _ 12 _ _ (Or.inl gE) (by rfl) (by decide) (by decide)) (@aa _ _ _ _ _ (@pw _ 13 _ _ (Or.inl cU) (by rfl) (by decide) (by decide)) (@ac _) rfl) rfl)) (@ac _) rfl) rfl) rfl) rfl) rfl) rfl)) (by rfl) (by first | exact .inl rfl | exact .inr rfl | assumption)) (@ae _ _ _ _ _ (@aL _ _ (6) _ _ _ _ aF.nd rfl (Or.inr iY) (@aB _ _ _ _ _ _ _ _ (@xj _) (@fk _ _ _ _ _ _ _ _ _ _ (@jV _ (K) (by rfl)) (@pw _ 1 _ _ (Or.inr (Or.inl eO)) (by rfl) (by decide) (by decide)) (@i5 _) (@dU _ _ _ (@ad _ _ _ _))) (@dY _ _ _ _ (@aa _ _ _ _ _ (@ax _ _ _ _ _ (@aa _ _ _ _ _ (@ad _ _ _ _) (@aa _ _ _ _ _ (@ad _ _ _ _) (@ac _) rfl) rfl)) (@aa _ _ _ _ _ (@ax _ _ _ _ _ (@aa _ _ _ _ _ (@ad _ _ _ _) (@aa _ _ _ _ _ (@ad _ _ _ _) (@ac _) rfl) rfl)) (@aa _ _ _ _ _ (@ax _ _ _ _ _ (@aa _ _ _ _ _ (@ad _ _ _ _) (@aa _ _ _ _ _ (@ad _ _ _ _) (@ac _) rfl) rfl)) (@ac _) rfl) rfl) rfl))) (by rfl) (by first | exact .inl rfl | exact .inr rfl | assumption)) (@ae _ _ _ _ _ (@iN _ _ _ _ _ _ _ (["_law_k", "_law_ends", "_law_row"]) (1) ([14,6]) _ _ _ _ (15) _ _ _ aF.nd rfl il (by kernel_rfl) rfl (by kernel_rfl) (@kh _ (K) _ _ _ (@pw _ 3 _ _ (Or.inr (Or.inl cR)) (by rfl) (by decide) (by decide)) (by rfl)) (fun _ _ _ _ _ _=>(@aw _ _ (0) _ (@cG _ (by kernel_rfl)) rfl (Or.inl (by kernel_rfl)) (by first | exact .inl rfl | exact .inr rfl | assumption))) (fun _ _ _ _ _ _=>@ca _) (fun _ _ _ _ _ _=>(@aB _ _ _ _ _ _ _ _ (@rn _ _ (by rfl)) (@aq _ _ _ _ _ _ _ (@fb _ (K) (by rfl)) (@pw _ 1 _ _ (Or.inr (Or.inl (by kernel_rfl))) (by rfl) (by decide) (by decide)) (@pw _ 0 _ _ (Or.inl (by kernel_rfl)) (by rfl) (by decide) (by decide)) (fun _ _=>rfl)) (@ax _ _ _ _ _ (@aa _ _ _ _ _ (@ax _ _ _ _ _ (@aa _ _ _ _ _ (@ad _ _ _ _) (@aa _ _ _ _ _ (@ad _ _ _ _) (@ac _) rfl) rfl)) (@aa _ _ _ _ _ (@aq _ _ _ _ _ _ _ (@fb _ (K) (by rfl)) (@pw _ 2 _ _ (Or.inr (Or.inl (by kernel_rfl))) (by rfl) (by decide) (by decide)) (@pw _ 0 _ _ (Or.inl (by kernel_rfl)) (by rfl) (by decide) (by decide)) (fun _ _=>rfl)) (@aa _ _ _ _ _ (@ax _ _ _ _ _ (@aa _ _ _ _ _ (@ad _ _ _ _) (@aa _ _ _ _ _ (@ad _ _ _ _) (@ac _) rfl) rfl)) (@ac _) rfl) rfl) rfl)))) (by intro _;rfl)) (@ae _ _ _ _ _ (@jr _ _ (16) (17) _ _ _ _ _ _ _ _ _ _ _ rfl aF.nd rfl rfl (by decide) fH dB (@aa _ _ _ _ _ (@ax _ _ _ _ _ (@aa _ _ _ _ _ (@pw _ 2 _ _ (Or.inr (Or.inl cL)) (by rfl) (by decide) (by decide)) (@aa _ _ _ _ _ (@dQ _ _ _ _ _ _ _ _ _ (@dW _ (K) (by rfl)) i8 T.b_tuple (@dE) (@aa _ _ _ _ _ (@pw _ 15 _ _ (Or.inl il) (by rfl) (by decide) (by decide)) (@ac _) rfl) (by decide) (by decide) (by rfl) (by rfl)) (@ac _) rfl) rfl)) (@aa _ _ _ _ _ (@ax _ _ _ _ _ (@aa _ _ _ _ _ (@ad _ _ _ _) (@aa _ _ _ _ _ (@ad _ _ _ _) (@ac _) rfl) rfl)) (@ac _) rfl) rfl) (by kernel_rfl) (by rfl)) (@ae _ _ _ _ _ (@gm _ _ _ _ _ _ _ _ PassesOwn.never rfl (@kh _ (K) _ _ _ (@fk _ _ _ _ _ _ _ _ _ _ (@jV _ (K) (by rfl)) (@pw _ 1 _ _ (Or.inr (Or.inl eO)) (by rfl) (by decide) (by decide)) (@i5 _) (@dU _ _ _ (@ad _ _ _ _))) (by rfl)) (@aw _ _ (18) _ aF.nd rfl (Or.inl iH) (by first | exact .inl rfl | exact .inr rfl | assumption)) (@am _ _ _ (@aL _ _ (17) _ _ _ _ aF.nd rfl (Or.inl dB) (@ap _ _ _ _ _ _ _ _ _ _ _ _ _ _ _ _ G_l_product (hr.mono (by decide)) lq T.l_product_.m T.l_product_.F.kp T.l_product_.B .nil (@aK _) (@aa _ _ _ _ _ (@pw _ 17 _ _ (Or.inl dB) (by rfl) (by decide) (by decide)) (@aa _ _ _ _ _ (@pw _ 18 _ _ (Or.inl iH) (by rfl) (by decide) (by decide)) (@ac _) rfl) rfl) (by decide) (by rfl) (by rfl)) (by rfl) (by first | exact .inl rfl | exact .inr rfl | assumption))) (by intro _;rfl)) (@am _ _ _ (@aM _ _ _ _ (@kq _ _ _ _ _ _ _ (@cO _ _ _ _ _ _ _ _ (@tf _ hr.units) (@ap _ _ _ _ _ _ _ _ _ _ _ _ _ _ _ _ G_greatest_gain (hr.mono (by decide)) jC T.greatest_gain_.m T.greatest_gain_.F.kp T.greatest_gain_.B .nil (@mM _ _ _) (@aa _ _ _ _ _ (@pw _ 16 _ _ (Or.inl fH) (by rfl) (by decide) (by decide)) (@aa _ _ _ _ _ (@pw _ 8 _ _ (Or.inl cS) (by rfl) (by decide) (by decide)) (@aa _ _ _ _ _ (@pw _ 13 _ _ (Or.inl cU) (by rfl) (by decide) (by decide)) (@ac _) rfl) rfl) rfl) (by decide) (by rfl) (by rfl)) (@pw _ 17 _ _ (Or.inl dB) (by rfl) (by decide) (by decide)) (@aZ _ _ (by decide) (by decide))) (@kI _ _ _ _ _ (@cO _ _ _ _ _ _ _ _ (@tf _ hr.units) (@ap _ _ _ _ _ _ _ _ _ _ _ _ _ _ _ _ G_best_way (hr.mono (by decide)) mz T.best_way_.m T.best_way_.F.kp T.best_way_.B .nil (@mM _ _ _) (@aa _ _ _ _ _ (@pw _ 16 _ _ (Or.inl fH) (by rfl) (by decide) (by decide)) (@aa _ _ _ _ _ (@pw _ 8 _ _ (Or.inl cS) (by rfl) (by decide) (by decide)) (@aa _ _ _ _ _ (@pw _ 13 _ _ (Or.inl cU) (by rfl) (by decide) (by decide)) (@ac _) rfl) rfl) rfl) (by decide) (by rfl) (by rfl)) (@ft _ _ _ _ _ _ _ (["_law_k", "_law_order"]) (1) ([3]) _ _ _ _ rfl (by kernel_rfl) (@cz _ _ _ _ _ _ fM T.b_range (@aa _ _ _ _ _ (@ad _ _ _ _) (@ac _) rfl) (by rfl)) (fun _ _ _ _ _ _=>(@aw _ _ (0) _ (@cG _ (by kernel_rfl)) rfl (Or.inl (by kernel_rfl)) (by first | exact .inl rfl | exact .inr rfl | assumption))) (fun _ _ _ _ _ _=>@ca _) (fun _ _ _ _ _ _=>(@fS _ (K) _ _ _ _ _ _ _ _ _ _ _ PySem.F.plainAttrs_list PySem.F.slot_list_index PySem.F.type_list_index (@yE _) (@pw _ 1 _ _ (Or.inr (Or.inl (by kernel_rfl))) (by rfl) (by decide) (by decide)) (@aa _ _ _ _ _ (@pw _ 0 _ _ (Or.inl (by kernel_rfl)) (by rfl) (by decide) (by decide)) (@ac _) rfl) (by rfl) (by rfl) (by rfl) (by rfl) (by rfl) (by rfl))) (by intro _;rfl)) (@aZ _ _ (by decide) (by decide))))))))))))))))),?_⟩
  refine bT fun DA nA=>⟨(by show 2≤10000;decide),fun u0 H1 m1=>⟨(by show 2≤10000;decide),fun u1 H2 m2=>⟨(by show 2≤10000;decide),fun u2 H3 m3=>⟨(by show 2≤10000;decide),fun u3 H4 m4=>⟨(by show 2≤10000;decide),fun u4 H5 m5=>⟨(by show 2≤10000;decide),fun u5 H6 m6=>⟨(by show 6≤10000;decide),fun G H7 m7=>?_⟩⟩⟩⟩⟩⟩⟩
  have s7:aj H H7:=(((((m1.sm.trans m2.sm).trans m3.sm).trans m4.sm).trans m5.sm).trans m6.sm).trans m7.sm
  have B7:=B.same s7
  have iG7:aJ ED H7 [.ref u0,.ref u1,.ref u2,.ref u3,.ref u4,.ref u5] (b7.map cJ):=.cons (cQ (p:=(58,51)) (m7.sm _ _ (m6.sm _ _ (m5.sm _ _ (m4.sm _ _ (m3.sm _ _ (m2.sm _ _ m1.at'))))))) (.cons (cQ (p:=(16,13)) (m7.sm _ _ (m6.sm _ _ (m5.sm _ _ (m4.sm _ _ (m3.sm _ _ m2.at')))))) (.cons (cQ (p:=(37,27)) (m7.sm _ _ (m6.sm _ _ (m5.sm _ _ (m4.sm _ _ m3.at'))))) (.cons (cQ (p:=(28,55)) (m7.sm _ _ (m6.sm _ _ (m5.sm _ _ m4.at')))) (.cons (cQ (p:=(31,47)) (m7.sm _ _ (m6.sm _ _ m5.at'))) (.cons (cQ (p:=(59,38)) (m7.sm _ _ m6.at')) .nil)))))
  have nG:¬G=b:=fun z=>(B.same (((((m1.sm.trans m2.sm).trans m3.sm).trans m4.sm).trans m5.sm).trans m6.sm)).ne m7.fr z.symm
  have hG7:=m7.at'
  have lG:[V.ref u0,V.ref u1,V.ref u2,V.ref u3,V.ref u4,V.ref u5].length=6:=rfl
  have eG3:dk [V.ref u0,V.ref u1,V.ref u2,V.ref u3,V.ref u4,V.ref u5] none (some 3)=[V.ref u0,V.ref u1,V.ref u2]:=rfl
  generalize eGl:[V.ref u0,V.ref u1,V.ref u2,V.ref u3,V.ref u4,V.ref u5]=gl at hG7 iG7 lG eG3
  refine ⟨_,rfl,b,6,t,rfl,B7,ht0,Int.le_trans ht1 (by decide),by decide,fun pl ls t1 K1 s1 hpl ll nd nc B1 h1a h1b=>⟨(by show 2≤10000;decide),fun T1 K2 n2=>⟨T1,_,rfl,au.of n2.at',rfl,_,_,rfl,_,_,rfl,rfl,nA _ _ ?_⟩⟩⟩
  clear nA DA
  have ll:ls.length=6:=ll
  have hG2:=n2.sm _ _ (s1.old G _ nG hG7)
  have iG2:=(iG7.tupS s1).mono n2.sm.toE
  have s02:bh (Eb b) H K2:=(s7.toE.trans s1).trans n2.sm.toE
  have B2:=B1.same n2.sm
  have hpl2:=n2.sm _ _ hpl
  refine bT fun DA nA=>⟨Nat.zero_le _,fun O K3 n3=>⟨6,rfl,by decide,by decide,fun Rr K4 n4=>⟨(by show 2≤10000;decide),fun T2 K5 n5=>⟨T2,_,rfl,au.of n5.at',rfl,_,_,rfl,_,_,rfl,rfl,nA _ _ ?_⟩⟩⟩⟩
  clear nA DA
  have s35:=(n3.sm.trans n4.sm).trans n5.sm
  have B5:=B2.same s35
  have fO:H O=none:=s02.free B2 n3.fr
  have fR:H Rr=none:=s02.free B2 (n3.sm.free n4.fr)
  have nO:¬O=b:=fun z=>B2.ne n3.fr z.symm
  have nR:¬Rr=b:=fun z=>(B2.same n3.sm).ne n4.fr z.symm
  have nOR:¬O=Rr:=fun z=>by have:=n4.fr;rw [←z,n3.at'] at this;cases this
  have nGO:¬G=O:=fun z=>by have:=n3.fr;rw [←z,hG2] at this;cases this
  have nGR:¬G=Rr:=fun z=>by have:=n4.fr;rw [←z,n3.sm _ _ hG2] at this;cases this
  refine bT fun DA nA=>?_
  refine mG (fun m σ H'=>jq fun (os rs:List Nat) (t':Int)=>σ=[some (.ref b),some (.ref G),some (.ref pl),some (.ref O),some (.ref Rr),none,none,none,none,none,none,none,none,none,none,none,none,none,none]∧m=rs.length∧H' O=some (.lst (bX os))∧H' Rr=some (.lst (bX rs))∧(os++rs).Perm (List.range 6)∧H' G=some (.lst gl)∧Bx H' b t'∧t1≤t'∧t'≤t1+os.length∧bh (Eb b) H H'∧∀a us,K5 a=some (.tup us)→H' a=some (.tup us)) _ ⟨[],List.range 6,t1,rfl,rfl,n5.sm _ _ (n4.sm _ _ n3.at'),n5.sm _ _ n4.at',.refl _,s35 _ _ hG2,B5,by trivial,by trivial,s02.trans s35.toE,fun _ _ h=>h⟩ ?_
  rintro m σ J ⟨os,rs,t',rfl,rfl,hO,hR,pm,hG,BJ,hja,hjb,sJ,tp⟩ Q' D' nD rD qT qF
  have lo:os.length+rs.length=6:=by have:=pm.length_eq;rw [List.length_append,List.length_range] at this;exact this
  refine ⟨_,rfl,Nat.zero_le _,fun e J1 n1=>⟨Rr,e,_,rfl,rfl,n1.sm _ _ hR,n1.at',_,rfl,?_⟩⟩
  have tp1:∀{a:Addr}{us:List V},K5 a=some (.tup us)→J1 a=some (.tup us):=fun h=>n1.sm _ _ (tp _ _ h)
  cases rs with
  | cons r0 r1=>
   refine qT _ ?_
   refine ⟨_,rfl,.inl ⟨rfl,_,aG.of (n1.sm _ _ hO)⟩,_,rfl,.inl ⟨rfl,_,aG.of (n1.sm _ _ hR)⟩,_,rfl,_,rfl,Rr,_,rfl,.inl (aG.of (n1.sm _ _ hR)),b,_,t',rfl,BJ.same n1.sm,by rw [List.length_map];show (0:Int)<((r1.length+1:Nat):Int);trivial,yo (by rw [List.length_map];show (0:Int)<((r1.length+1:Nat):Int);trivial) (by rw [List.length_map];simp only [List.length_cons] at lo ⊢;trivial),by trivial,by trivial,fun p t2 J2 p0 p1 h2a h2b sJ2 BJ2=>?_⟩
   obtain ⟨i,rfl⟩:∃i:Nat,p=(i:Int):=⟨p.toNat,by trivial⟩
   rw [List.length_map] at p1
   have hi:i<(r0 :: r1).length:=by trivial
   generalize r0 :: r1=rs at hR pm lo hi nD
   obtain ⟨x,hx⟩:∃x,rs[i]?=some x:=⟨_,List.getElem?_eq_getElem hi⟩
   have hR2:=sJ2.old Rr _ nR (n1.sm _ _ hR)
   have hO2:=sJ2.old O _ nO (n1.sm _ _ hO)
   refine ⟨Rr,_,i,.int (x:Int),rfl,rfl,hR2,by rw [List.length_map];trivial,by rw [List.getElem?_map,hx];rfl,fun J3 c3=>?_⟩
   have hO3:=c3.ol O _ nOR hO2
   refine ⟨O,_,_,rfl,rfl,hO3,by rw [List.length_map];trivial,fun J4 c4=>?_⟩
   have ep:=sV hx
   refine nD (rs.eraseIdx i).length _ _ ?_ ⟨os++[x],rs.eraseIdx i,t2,rfl,rfl,by rw [c4.at'];simp [bX],?_,?_,?_,(BJ2.ch c3 (fun z=>nR z.symm)).ch c4 (fun z=>nO z.symm),by trivial,by rw [List.length_append];show _≤t1+((os.length+1:Nat):Int);trivial,(((sJ.trans n1.sm.toE).trans sJ2).ch c3 fR).ch c4 fO,fun a us h=>c4.tup (c3.tup (sJ2.tup _ _ (tp1 h)) hR2) hO3⟩
   ·rw [List.length_eraseIdx_of_lt hi];trivial
   ·rw [c4.ol Rr _ (fun z=>nOR z.symm) c3.at',yt]
   ·refine List.Perm.trans ?_ pm
    rw [List.append_assoc]
    exact List.Perm.append_left os ep
   ·exact c4.ol G _ nGO (c3.ol G _ nGR (sJ2.old G _ nG (n1.sm _ _ hG)))
  | nil=>
   refine qF _ (nA _ _ ?_)
   clear nA DA qT qF nD rD
   rw [List.append_nil] at pm
   have sJ1:bh (Eb b) H J1:=sJ.trans n1.sm.toE
   have BJ1:=BJ.same n1.sm
   have hO1:=n1.sm _ _ hO
   have hG1:=n1.sm _ _ hG
   have hpl1:=tp1 (s35 _ _ hpl2)
   have iG1:aJ ED J1 gl (b7.map cJ):=iG2.mono ⟨fun _ _ n _=>absurd trivial n,fun a us h=>tp1 (s35 _ _ h)⟩
   have done:∀{J:Hp},aj J1 J→Q (.bl true) J:=fun {J} s=>k t' J (sJ1.trans s.toE) (BJ1.same s) (by trivial) (by trivial)
   have lo6:os.length=6:=by simpa using lo
   have atO:∀{i:Nat},i<6→os[i]?=some (os.getD i 0)∧os.getD i 0<6:=fun {i} hi=>by
    have e:=bn (xs:=os) (k:=i) (d:=0) (by trivial)
    exact ⟨e,List.mem_range.mp (pm.mem_iff.mp (List.mem_of_getElem? e))⟩
   have atG:∀{J:Hp}{i:Nat},aj J1 J→i<6→∃o,gl[i]?=some (.ref o)∧J o=some (fr (b7.getD i (1,1))):=fun {J i} sJ hi=>by
    obtain ⟨y,ey⟩:∃y,gl[i]?=some y:=⟨_,List.getElem?_eq_getElem (by trivial)⟩
    obtain ⟨dy,edy,gy⟩:=iG1.get ey
    rw [List.getElem?_map,bn (xs:=b7) (d:=(1,1)) hi] at edy
    obtain rfl:cJ (b7.getD i (1,1))=dy:=Option.some.inj edy
    obtain ⟨o,rfl,ho⟩:=jP gy
    exact ⟨o,ey,sJ _ _ ho⟩
   have plat:∀{i:Nat},i<6→(ls.map aD)[i]?=some (aD (ls.getD i [])):=fun {i} hi=>by rw [List.getElem?_map,bn (d:=[]) (by trivial)];rfl
   refine xV fun DA nA rA=>⟨(by show 2≤10000;decide),fun tw J2 n2=>⟨tw,rfl,⟨_,au.of n2.at'⟩,?_⟩⟩
   refine xf (xs:=[.bl false,.bl true]) (fun j σ H'=>jq fun (v5 v6 v7:Option V)=>σ=[some (.ref b),some (.ref G),some (.ref pl),some (.ref O),some (.ref Rr),v5,v6,v7,none,none,none,none,none,none,none,none,none,none,none]∧aj J2 H') ⟨_,_,_,rfl,aj.refl _⟩ ?_ ?_ ?_
   ·rintro j σ H' _ ⟨v5,v6,v7,rfl,sm⟩
    exact au.of (sm _ _ n2.at')
   ·rintro j x σ M hx ⟨v5,v6,v7,rfl,sm⟩
    obtain ⟨ov,rfl⟩:∃ov:Bool,x=.bl ov:=by
     match j,hx with
     | 0,hx=>cases hx;exact ⟨_,rfl⟩
     | 1,hx=>cases hx;exact ⟨_,rfl⟩
     | j+2,hx=>cases hx
    have s1M:=n2.sm.trans sm
    obtain ⟨rw',erw⟩:∃rw':List KM.Fra,rw'=if ov=true then Aq os else zW os:=⟨_,rfl⟩
    refine bO fun Q2 nA2=>⟨_,rfl,O,rfl,⟨_,aG.of (s1M _ _ hO1)⟩,fun D hD=>oJ (n:=6) (fun i=>cJ (rw'.getD i (1,1))) (by decide) hD (fun i H' hi s'=>⟨bX os,.int (os.getD i 0:Nat),aG.of (s' _ _ (s1M _ _ hO1)),by rw [List.getElem?_map,(atO hi).1];rfl⟩) (fun H' s'=>⟨bX os,aG.of (s' _ _ (s1M _ _ hO1)),by rw [List.length_map];trivial⟩) ?_ ?_⟩
    ·rintro i y H' H'' R hi s' ⟨rfl,ex⟩ kk
     have ey:=ex _ (aG.of (s' _ _ (s1M _ _ hO1)))
     rw [List.getElem?_map,(atO hi).1] at ey
     obtain rfl:V.int ((os.getD i 0:Nat):Int)=y:=Option.some.inj ey
     have hk:=(atO hi).2
     have sA:=s1M.trans s'
     obtain ⟨o,eo,ho⟩:=atG sA hk
     refine ⟨fF,_,rfl,_,rfl,?_⟩
     cases ov with
     | true=>
      refine cW ⟨_,rfl,_,rfl,G,_,_,_,rfl,rfl,aG.of (sA _ _ hG1),bH eo,1,rfl,-1,rfl,rfl,.inr ⟨false,o,_,rfl,ho,fun p M1 m1 hp _=>kk _ _ m1 ?_⟩⟩
      have:rw'.getD i (1,1)=((b7.getD (os.getD i 0) (1,1)).2,(b7.getD (os.getD i 0) (1,1)).1):=by
       rw [erw,if_pos rfl,List.getD_eq_getElem?_getD,List.getElem?_map,(atO hi).1];rfl
      rw [this]
      exact cQ (p:=((b7.getD (os.getD i 0) (1,1)).2,(b7.getD (os.getD i 0) (1,1)).1)) hp
     | false=>
      refine cm ⟨_,rfl,_,rfl,G,_,_,_,rfl,rfl,aG.of (sA _ _ hG1),bH eo,kk _ _ (aj.refl _) ?_⟩
      have:rw'.getD i (1,1)=b7.getD (os.getD i 0) (1,1):=by
       rw [erw,if_neg Bool.false_ne_true,List.getD_eq_getElem?_getD,List.getElem?_map,(atO hi).1];rfl
      rw [this]
      exact cQ ho
    intro M2 zs sM2 hD2 iz
    refine nA2 _ _ ?_
    have s1M2:=s1M.trans sM2
    have lrw:rw'.length=6:=by
     rw [erw]
     cases ov with
     | true=>rw [if_pos rfl,List.length_map];exact lo6
     | false=>rw [if_neg Bool.false_ne_true,List.length_map];exact lo6
    have brw:∀g∈rw',Bd 63 g:=by
     rw [erw]
     cases ov with
     | true=>exact (y3 pm).2
     | false=>exact (y3 pm).1
    have py:(!ov)=true→1<bP rw':=fun z=>by
     cases ov with
     | true=>cases z
     | false=>rw [erw,if_neg Bool.false_ne_true];exact Ca pm
    have pn:(!ov)=false→bP rw'≤1:=fun z=>by
     cases ov with
     | true=>rw [erw,if_pos rfl];exact Cj pm
     | false=>cases z
    have zat:∀{i:Nat},i<6→∃o,zs[i]?=some (.ref o)∧M2 o=some (fr (rw'.getD i (1,1))):=fun {i} hi=>by
     obtain ⟨y,ey⟩:∃y,zs[i]?=some y:=⟨_,List.getElem?_eq_getElem (by rw [iz.length,List.length_map,List.length_range];exact hi)⟩
     obtain ⟨dy,edy,gy⟩:=iz.get ey
     rw [List.getElem?_map,List.getElem?_range hi] at edy
     obtain rfl:cJ (rw'.getD i (1,1))=dy:=Option.some.inj edy
     obtain ⟨o,rfl,ho⟩:=jP gy
     exact ⟨o,ey,ho⟩
    refine bO fun Q3 nA3=>⟨6,rfl,by decide,by decide,fun D3 hD3=>oJ (n:=6) (fun k=>dG ⟨ls.getD k [],ls.getD ((k+1) % 6) [],(2,1),rw'.getD k (1,1),(0,1)⟩) (by decide) hD3 (fun i H' hi _=>hi) (fun H' _=>Nat.le_refl _) ?_ ?_⟩
    ·rintro i x H' H'' R hi s' ⟨rfl,rfl⟩ kk
     have eI:((0:Int)+(i:Int)+1) % 6=(((i+1) % 6:Nat):Int):=by trivial
     obtain ⟨og,ey,hog⟩:=zat hi
     have hplA:=s' _ _ (s1M2 _ _ hpl1)
     refine ⟨fF,_,rfl,_,rfl,pl,_,_,_,rfl,rfl,au.of hplA,by rw [Int.zero_add];exact bH (plat hi),?_⟩
     refine ⟨_,rfl,_,rfl,_,_,rfl,rfl,_,_,rfl,rfl,(by show (0:Int)<6;decide),pl,_,_,_,rfl,rfl,au.of hplA,by show ma _ (((0:Int)+(i:Int)+1) % 6)=_;rw [eI];exact bH (plat (Nat.mod_lt _ (by decide))),?_⟩
     refine ⟨(by show 2≤10000;decide),fun u1 J1 m1=>⟨_,rfl,_,rfl,D,_,_,_,rfl,rfl,aG.of (m1.sm _ _ (s' _ _ hD2)),by rw [Int.zero_add];exact bH ey,(by show 2≤10000;decide),fun u2 J2 m2=>⟨(by show 5≤10000;decide),fun o J3 m3=>kk _ _ ((m1.sm.trans m2.sm).trans m3.sm) ?_⟩⟩⟩
     exact .tup m3.at' (.cons (.str _) (.cons (.str _) (.cons (cQ (p:=(2,1)) (m3.sm _ _ (m2.sm _ _ m1.at'))) (.cons (cQ (m3.sm _ _ (m2.sm _ _ (m1.sm _ _ (s' _ _ hog))))) (.cons (cQ (p:=(0,1)) (m3.sm _ _ m2.at')) .nil)))))
    intro M3 ws sM3 hD3' iw
    refine nA3 _ _ ?_
    have ew:(List.range 6).map (fun k=>dG ⟨ls.getD k [],ls.getD ((k+1) % 6) [],(2,1),rw'.getD k (1,1),(0,1)⟩)=(dc ls rw' 6).map dG:=by unfold dc;rw [List.map_map];rfl
    rw [ew] at iw
    obtain ⟨tg,rg⟩:=uN nd ll (by decide) lrw brw (g:=!ov) py pn
    have s1M3:=s1M2.trans sM3
    refine ⟨_,rfl,_,rfl,D3,_,rfl,aG.of hD3',fun tt M4 n4=>⟨(by show 2≤10000;decide),fun net M5 n5=>⟨_,rfl,_,rfl,.ref net,!ov,ls,_,rfl,?_,tg,rg,by trivial,by trivial,fun M6 s6=>⟨_,rfl,cm ?_⟩⟩⟩⟩
    ·have s45:=n4.sm.trans n5.sm
     exact .tup n5.at' (.cons (.tup (s45 _ _ (s1M3 _ _ hpl1)) (pQ ls)) (.cons (.tup (n5.sm _ _ n4.at') (iw.mono s45.toE)) .nil))
    exact ⟨_,_,_,rfl,(((sm.trans sM2).trans sM3).trans (n4.sm.trans n5.sm)).trans s6⟩
   ·rintro σ M ⟨v5,v6,v7,rfl,sm⟩
    refine nA _ _ ?_
    have sM:aj J1 M:=n2.sm.trans sm
    obtain ⟨l0,l1,l2,l3,l4,l5,rfl⟩:=Dh ll
    have hplM:=sM _ _ hpl1
    refine bT fun DB nB=>⟨_,rfl,pl,_,rfl,au.of hplM,rfl,_,_,rfl,_,_,rfl,_,_,rfl,_,_,rfl,_,_,rfl,_,_,rfl,rfl,nB _ _ ?_⟩
    refine bO fun Q4 nA4=>⟨_,rfl,_,rfl,(by show 2≤10000;decide),fun e0 N0 k0=>⟨_,rfl,_,rfl,(by show 2≤10000;decide),fun e1 N1 k1=>⟨_,rfl,_,rfl,(by show 2≤10000;decide),fun e2 N2 k2=>⟨_,rfl,_,rfl,(by show 2≤10000;decide),fun e3 N3 k3=>⟨_,rfl,_,rfl,(by show 2≤10000;decide),fun e4 N4 k4=>⟨_,rfl,_,rfl,(by show 2≤10000;decide),fun e5 N5 k5=>⟨(by show 6≤10000;decide),fun EL N6 k6=>nA4 _ _ ?_⟩⟩⟩⟩⟩⟩⟩
    have endat:∀{J:Hp}{k:Nat},aj N6 J→k<6→∃o,[V.ref e0,V.ref e1,V.ref e2,V.ref e3,V.ref e4,V.ref e5][k]?=some (.ref o)∧J o=some (.tup [aD ([l0,l1,l2,l3,l4,l5].getD (wW k) []),aD ([l0,l1,l2,l3,l4,l5].getD (sY k) [])]):=fun {J k} sJ hk=>by
     obtain rfl | rfl | rfl | rfl | rfl | rfl:=vI hk
     ·exact ⟨e0,rfl,sJ _ _ (k6.sm _ _ (k5.sm _ _ (k4.sm _ _ (k3.sm _ _ (k2.sm _ _ (k1.sm _ _ k0.at'))))))⟩
     ·exact ⟨e1,rfl,sJ _ _ (k6.sm _ _ (k5.sm _ _ (k4.sm _ _ (k3.sm _ _ (k2.sm _ _ k1.at')))))⟩
     ·exact ⟨e2,rfl,sJ _ _ (k6.sm _ _ (k5.sm _ _ (k4.sm _ _ (k3.sm _ _ k2.at'))))⟩
     ·exact ⟨e3,rfl,sJ _ _ (k6.sm _ _ (k5.sm _ _ (k4.sm _ _ k3.at')))⟩
     ·exact ⟨e4,rfl,sJ _ _ (k6.sm _ _ (k5.sm _ _ k4.at'))⟩
     ·exact ⟨e5,rfl,sJ _ _ (k6.sm _ _ k5.at')⟩
    have hEL:=k6.at'
    have sN6:aj J1 N6:=((((((sM.trans k0.sm).trans k1.sm).trans k2.sm).trans k3.sm).trans k4.sm).trans k5.sm).trans k6.sm
    generalize [V.ref e0,V.ref e1,V.ref e2,V.ref e3,V.ref e4,V.ref e5]=el at hEL endat
    have ecut:dk gl none (some 3)=gl.take 3:=uf (by decide)
    refine bO fun Q5 nA5=>⟨_,rfl,3,rfl,G,_,rfl,aG.of (sN6 _ _ hG1),fun g3 N7 k7=>⟨(by show 2≤10000;decide),fun r3 N8 k8=>⟨(by show 2≤10000;decide),fun r4 N9 k9=>⟨(by show 2≤10000;decide),fun r5 NA kA=>⟨(by show 3≤10000;decide),fun lr NB kB=>⟨g3,lr,_,_,rfl,rfl,kB.sm _ _ (kA.sm _ _ (k9.sm _ _ (k8.sm _ _ k7.at'))),kB.at',?_,fun RW NC kC=>nA5 _ _ ?_⟩⟩⟩⟩⟩⟩
    ·rw [ecut,List.length_take];show _+3≤10000;trivial
    have hRW:=kC.at'
    rw [ecut] at hRW
    have s6C:aj N6 NC:=((((k7.sm.trans k8.sm).trans k9.sm).trans kA.sm).trans kB.sm).trans kC.sm
    have sNC:=sN6.trans s6C
    have rowat:∀{J:Hp}{k:Nat},aj NC J→k<6→∃o,(gl.take 3++[V.ref r3,V.ref r4,V.ref r5])[k]?=some (.ref o)∧J o=some (fr (tV.getD k (1,1))):=fun {J k} sJ hk=>by
     have l3:(gl.take 3).length=3:=by rw [List.length_take];trivial
     by_cases c:k<3
     ·obtain ⟨o,eo,ho⟩:=atG (sNC.trans sJ) hk
      refine ⟨o,by rw [List.getElem?_append_left (by trivial),List.getElem?_take_of_lt c];exact eo,?_⟩
      have:b7.getD k (1,1)=tV.getD k (1,1):=by
       obtain rfl | rfl | rfl:k=0∨k=1∨k=2:=by trivial
       all_goals rfl
      rw [←this]
      exact ho
     ·rw [List.getElem?_append_right (by trivial),l3]
      obtain rfl | rfl | rfl:k=3∨k=4∨k=5:=by trivial
      ·exact ⟨r3,rfl,sJ _ _ (kC.sm _ _ (kB.sm _ _ (kA.sm _ _ (k9.sm _ _ k8.at'))))⟩
      ·exact ⟨r4,rfl,sJ _ _ (kC.sm _ _ (kB.sm _ _ (kA.sm _ _ k9.at')))⟩
      ·exact ⟨r5,rfl,sJ _ _ (kC.sm _ _ (kB.sm _ _ kA.at'))⟩
    generalize gl.take 3++[V.ref r3,V.ref r4,V.ref r5]=rl at hRW rowat
    generalize hls:[l0,l1,l2,l3,l4,l5]=ls at nd nc ll hplM endat plat
    refine bO fun Q6 nA6=>⟨_,rfl,O,rfl,⟨_,aG.of (sNC _ _ hO1)⟩,fun D hD=>oJ (n:=6) (fun i=>dG (nj ls (os.getD i 0))) (by decide) hD (fun i H' hi s'=>⟨bX os,.int (os.getD i 0:Nat),aG.of (s' _ _ (sNC _ _ hO1)),by rw [List.getElem?_map,(atO hi).1];rfl⟩) (fun H' s'=>⟨bX os,aG.of (s' _ _ (sNC _ _ hO1)),by rw [List.length_map];trivial⟩) ?_ ?_⟩
    ·rintro i y H' H'' R hi s' ⟨rfl,ex⟩ kk
     have ey:=ex _ (aG.of (s' _ _ (sNC _ _ hO1)))
     rw [List.getElem?_map,(atO hi).1] at ey
     obtain rfl:V.int ((os.getD i 0:Nat):Int)=y:=Option.some.inj ey
     have hk:=(atO hi).2
     obtain ⟨oe,eoe,hoe⟩:=endat (s6C.trans s') hk
     obtain ⟨og,eog,hog⟩:=rowat s' hk
     refine ⟨fF,_,rfl,_,rfl,EL,_,_,_,rfl,rfl,aG.of (s' _ _ (s6C _ _ hEL)),bH eoe,(by show 2≤10000;decide),fun u1 J1 m1=>⟨_,rfl,_,rfl,RW,_,_,_,rfl,rfl,aG.of (m1.sm _ _ (s' _ _ hRW)),bH eog,(by show 2≤10000;decide),fun u2 J2 m2=>⟨(by show 3≤10000;decide),fun w3 J3 m3=>?_⟩⟩⟩
     have s13:=(m1.sm.trans m2.sm).trans m3.sm
     refine ⟨oe,w3,_,_,rfl,rfl,au.of (s13 _ _ hoe),s13 _ _ hoe,au.of m3.at',(by simp),(by show 5≤10000;decide),fun o J4 m4 hp=>kk _ _ (s13.trans m4) ?_⟩
     exact .tup hp (.cons (.str _) (.cons (.str _) (.cons (cQ (p:=(1,1)) (m4 _ _ (m3.sm _ _ (m2.sm _ _ m1.at')))) (.cons (cQ (m4 _ _ (s13 _ _ hog))) (.cons (cQ (p:=(0,1)) (m4 _ _ (m3.sm _ _ m2.at'))) .nil)))))
    intro ND ws sD hDD iw
    refine nA6 _ _ ?_
    have ew:(List.range 6).map (fun i=>dG (nj ls (os.getD i 0)))=(mK ls os).map dG:=by
     apply List.ext_getElem?
     intro i
     rw [List.getElem?_map,List.map_map,List.getElem?_map]
     by_cases hi:i<6
     ·rw [List.getElem?_range hi,(atO hi).1];rfl
     ·rw [List.getElem?_eq_none (by simp;trivial),List.getElem?_eq_none (by trivial)];rfl
    rw [ew] at iw
    have sND:=sNC.trans sD
    refine tJ fun Q7 nP7=>⟨_,rfl,_,rfl,D,_,rfl,aG.of hDD,fun tt NE kE=>⟨(by show 2≤10000;decide),fun net NF kF=>⟨(by show 2≤10000;decide),fun du NG kG=>nP7 _ _ _ ?_⟩⟩⟩
    have sDG:=(kE.sm.trans kF.sm).trans kG.sm
    have hnet:∀{J:Hp},aj NG J→bE ED J (.ref net) (eT ls (mK ls os)):=fun {J} sJ=>by
     have s1:=(kE.sm.trans kF.sm).trans (kG.sm.trans sJ)
     have hp:J pl=some (.tup (ls.map aD)):=by rw [←hls];exact sJ _ _ (sDG _ _ (sND _ _ hpl1))
     exact .tup (sJ _ _ (kG.sm _ _ kF.at')) (.cons (.tup hp (pQ ls)) (.cons (.tup (sJ _ _ (kG.sm _ _ (kF.sm _ _ kE.at'))) (iw.mono s1.toE)) .nil))
    have sNG:=sND.trans sDG
    refine bT fun DC nC=>⟨_,rfl,3,rfl,G,_,rfl,aG.of (sNG _ _ hG1),fun g4 NH kH=>⟨g4,rfl,⟨_,aG.of kH.at'⟩,?_⟩⟩
    have hg4:=kH.at'
    rw [ecut] at hg4
    refine vP (xs:=gl.take 3) (fun i σ H'=>bz fun (v18:Option V) (o:Addr)=>σ=[some (.ref b),some (.ref G),some (.ref pl),some (.ref O),some (.ref Rr),v5,some (.ref RW),v7,some (aD l0),some (aD l1),some (aD l2),some (aD l3),some (aD l4),some (aD l5),some (.ref EL),some (.ref D),some (.ref net),some (.ref o),v18]∧H' o=some (fr ((b7.take i).foldl KM.lTim (1,1)))∧Gb (1+6*i) (1+6*i) ((b7.take i).foldl KM.lTim (1,1))∧aj NH H') ⟨_,du,rfl,kH.sm _ _ kG.at',sf,aj.refl _⟩ ?_ ?_ ?_
    ·rintro i σ H' _ ⟨v18,o,rfl,_,_,s'⟩
     exact aG.of (s' _ _ hg4)
    ·rintro i x σ H' hx ⟨v18,o,rfl,ho,go,s'⟩
     have hi:i<3:=by have:=(List.getElem?_eq_some_iff.mp hx).1;rw [List.length_take] at this;trivial
     rw [List.getElem?_take_of_lt hi] at hx
     obtain ⟨og,eog,hog⟩:=atG ((sNG.trans kH.sm).trans s') (show i<6 by trivial)
     rw [hx] at eog
     cases eog
     have eg:b7[i]?=some (b7.getD i (1,1)):=bn (show i<6 by trivial)
     have bg:=Ge _ (List.mem_of_getElem? eg)
     refine ⟨_,rfl,_,rfl,o,og,_,_,_,_,6,6,rfl,ho,hog,go,bg.gb (by decide),by trivial,by trivial,by decide,by decide,(fun z=>by cases z),fun o' H9 n9=>⟨_,o',rfl,?_,?_,s'.trans n9.sm⟩⟩
     ·rw [List.take_succ,eg,Option.toList_some,List.foldl_append]
      exact n9.at'
     ·rw [List.take_succ,eg,Option.toList_some,List.foldl_append]
      exact go.tim (bg.gb (m:=6) (by decide)) (by trivial) (by trivial)
    rintro σ NI ⟨v18,o,rfl,ho,go,sI⟩
    have l3:(gl.take 3).length=3:=by rw [List.length_take];trivial
    rw [l3] at ho go
    have e3:b7.take 3=[(58,51),(16,13),(37,27)]:=rfl
    rw [e3] at ho go
    refine nC _ _ ?_
    have sGI:aj NG NI:=kH.sm.trans sI
    have h0:ls[0]?=some l0:=by rw [←hls];rfl
    have h5:ls[5]?=some l5:=by rw [←hls];rfl
    have tg:=GD nd ll pm
    have gr:=Ag nd ll pm
    have lt6:(mK ls os).length=6:=by rw [List.length_map];exact lo6
    have rk0:wD ls l0≤9:=by unfold wD;rw [dZ nd h0];decide
    refine ⟨_,rfl,_,rfl,_,rfl,.ref net,ls,mK ls os,wD ls,l0,l5,rfl,hnet sGI,tg,by trivial,by trivial,by trivial,gr,List.mem_of_getElem? h0,fun st M1 rs1 s1=>⟨fun w ow ew how gw=>?_,fun ew=>?_⟩⟩
    rotate_left
    ·obtain ⟨w',e1,_⟩:=xR nd ll pm h0 h5 rs1
     rw [ew] at e1
     cases e1
    obtain ⟨w',e1,e2⟩:=xR nd ll pm h0 h5 rs1
    rw [ew] at e1
    cases e1
    rw [←e2] at ho
    refine ⟨_,rfl,cJ w,cJ w,ED,ED,_,_,_,_,cQ how,cQ (s1 _ _ ho),pU gw (by decide) (by decide),pU gw (by decide) (by decide),by decide,_,rfl,?_⟩
    show if PyData.eqv (cJ w) (cJ w)=true then _ else _
    rw [rL]
    refine cW ?_
    refine ⟨_,rfl,_,rfl,_,rfl,.ref net,ls,mK ls os,wD ls,l0,l5,rfl,hnet (sGI.trans s1),tg,by trivial,by trivial,by trivial,gr,List.mem_of_getElem? h0,rk0,fun st2 M2 rs2 s2=>⟨fun w3 R rr ew3 fol lR frr hrr=>?_,fun ew3=>?_⟩⟩
    rotate_left
    ·obtain ⟨w',e1,_⟩:=xR nd ll pm h0 h5 rs2
     rw [ew3] at e1
     cases e1
    have eR:=GH nd ll pm h0 h5 rs2 fol
    have sO:=((sNG.trans sGI).trans s1).trans s2
    have ndo:os.Nodup:=pm.nodup_iff.mpr List.nodup_range
    refine ⟨3,rfl,by decide,by decide,fun D2 hD2=>jd (n:=3) (fun k=>.int ((os.idxOf k:Nat):Int)) (by decide) hD2 (fun i H' hi _=>hi) (fun H' _=>Nat.le_refl _) ?_ ?_⟩
    ·rintro i x H' H'' R hi s' ⟨rfl,rfl⟩ kk
     have hOA:=s' _ _ (sO _ _ hO1)
     have ei:=pY pm (show i<6 by trivial)
     refine ⟨fF,_,rfl,.inl ⟨rfl,_,aG.of hOA⟩,_,rfl,O,os.map fun i:Nat=>(i:Int),_,os.idxOf i,rfl,rfl,by rw [←sr];exact hOA,by rw [List.length_map];trivial,by rw [List.getElem?_map,ei,Int.zero_add];rfl,fun m hm z=>?_,kk _ (aj.refl _)⟩
     rw [List.getElem?_map,Int.zero_add] at z
     obtain ⟨y,ey,e⟩:=Option.map_eq_some_iff.mp z
     have e:y=i:=by trivial
     subst e
     have:=bI ndo ey ei
     trivial
    intro M3 s3 hD3
    have e3':(List.range 3).map (fun k=>V.int ((os.idxOf k:Nat):Int))=bX R:=by rw [eR];rfl
    rw [e3'] at hD3
    have mR:∀x∈R,x<1000:=fun x hx=>by
     have q:∀k,k<6→os.idxOf k<1000:=fun k hk=>by
      have:=(List.getElem?_eq_some_iff.mp (pY pm hk)).1
      trivial
     rw [eR] at hx
     simp only [List.mem_cons,List.not_mem_nil,or_false] at hx
     rcases hx with rfl | rfl | rfl
     ·exact q 0 (by decide)
     ·exact q 1 (by decide)
     ·exact q 2 (by decide)
    refine ⟨.list (R.map fun i:Nat=>PyData.int (i:Int)),.list (R.map fun i:Nat=>PyData.int (i:Int)),fun _=>False,fun _=>False,_,_,_,_,.lst (s3 _ _ hrr) id (lK R),.lst hD3 id (lK R),.list (jQ mR),.list (jQ mR),by decide,?_⟩
    show Q (.bl (PyData.eqv (.list (R.map fun i:Nat=>PyData.int (i:Int))) (.list (R.map fun i:Nat=>PyData.int (i:Int))))) M3
    rw [rN]
    exact done (sO.trans s3)
end
end K14
namespace K14
open PySem L2
set_option maxHeartbeats 8000000
section
variable {P:Program}{w:World}{K:PySem.W.Frag}{mg:Str→Option Value}{base:Heap}
inductive Dr (K:PySem.W.Frag) (vs:List V) (H:Hp) (Q:VK):Prop
 | mk (a:Addr) (ns:List Int) (h0:vs=[.ref a]) (h1:aG K H a (ns.map V.int)) (h2:ns.length≤63) (h3:∀H',Q (.bl true) H')
def spLaw (K:PySem.W.Frag):Sp:=fun vs H Q _=>Dr K vs H Q
theorem law_start {H:Hp}{a:Addr}{ns:List Int} (hl:ns.length≤63) (_:vD H) (hS:aG K H a (ns.map V.int)):spLaw K [.ref a] H (fun v _=>v=.bl true) fun _ _ _=>False:=
 ⟨a,ns,rfl,hS,hl,fun _=>rfl⟩
theorem law_ok (T:Txt K mg):bv P w K mg base CX0 40 T.law_.f T.law_.d ["_law_script"] (spLaw K):=by
 have G_l_folded:=yV (P:=P) (w:=w) (base:=base) T
 have G_l_box:=EI (P:=P) (w:=w) (base:=base) T
 have G_l_take:=nM (P:=P) (w:=w) (base:=base) T
 have G_l_ring_net:=u9 (P:=P) (w:=w) (base:=base) T
 have G_l_hairs_right:=sj (P:=P) (w:=w) (base:=base) T
 have G_l_ring_right:=mI (P:=P) (w:=w) (base:=base) T
 have G_l_chain_net:=tI (P:=P) (w:=w) (base:=base) T
 have G_l_chain_right:=rE (P:=P) (w:=w) (base:=base) T
 refine T.law_.F.ok nV (fun vs H Q E h=>?_) (fun cdv A outer s H vs Q E hr h=>?_)
 ·obtain ⟨a,ns,rfl,_⟩:=h
  rfl
 ·obtain ⟨a,ns,rfl,hS,hn,k⟩:=h
  refine ⟨_,(@ae _ _ _ _ _ (@aL _ _ (1) _ _ _ _ nV.nd rfl (Or.inl kN) (@ap _ _ _ _ _ _ _ _ _ _ _ _ _ _ _ _ G_l_folded (hr.mono (by decide)) tE T.l_folded_.m T.l_folded_.F.kp T.l_folded_.B .nil (@aK _) (@aa _ _ _ _ _ (@pw _ 0 _ _ (Or.inl tX) (by rfl) (by decide) (by decide)) (@aa _ _ _ _ _ (@ad _ _ _ _) (@ac _) rfl) rfl) (by decide) (by rfl) (by rfl)) (by rfl) (by first | exact .inl rfl | exact .inr rfl | assumption)) (@ae _ _ _ _ _ (@gm _ _ _ _ _ _ _ _ PassesOwn.never rfl (@cz _ _ _ _ _ _ wS T.b_range (@aa _ _ _ _ _ (@be _ _ _ _ _ _ _ _ _ (@y7 _ rfl) yP T.b_max (@yj) (@aa _ _ _ _ _ (@ad _ _ _ _) (@aa _ _ _ _ _ (@be _ _ _ _ _ _ _ _ _ (@ju _ (K) (by rfl)) zh T.b_len (@cq) (@aa _ _ _ _ _ (@pw _ 1 _ _ (Or.inl kN) (by rfl) (by decide) (by decide)) (@ac _) rfl) (by decide) (by decide) (by rfl) (by rfl)) (@ac _) rfl) rfl) (by decide) (by decide) (by rfl) (by rfl)) (@ac _) rfl) (by rfl)) (@aw _ _ (2) _ nV.nd rfl (Or.inl uF) (by first | exact .inl rfl | exact .inr rfl | assumption)) (@ae _ _ _ _ _ (@aL _ _ (3) _ _ _ _ nV.nd rfl (Or.inl da) (@ap _ _ _ _ _ _ _ _ _ _ _ _ _ _ _ _ G_l_box (hr.mono (by decide)) wQ T.l_box_.m T.l_box_.F.kp T.l_box_.B .nil (@aK _) (@aa _ _ _ _ _ (@pw _ 1 _ _ (Or.inl kN) (by rfl) (by decide) (by decide)) (@aa _ _ _ _ _ (@pw _ 2 _ _ (Or.inl uF) (by rfl) (by decide) (by decide)) (@ac _) rfl) rfl) (by decide) (by rfl) (by rfl)) (by rfl) (by first | exact .inl rfl | exact .inr rfl | assumption)) (@ae _ _ _ _ _ (@eh _ _ _ _ _ _ (@ap _ _ _ _ _ _ _ _ _ _ _ _ _ _ _ _ G_l_ring_net (hr.mono (by decide)) rW T.l_ring_net_.m T.l_ring_net_.F.kp T.l_ring_net_.B .nil (@aK _) (@aa _ _ _ _ _ (@pw _ 3 _ _ (Or.inl da) (by rfl) (by decide) (by decide)) (@aa _ _ _ _ _ (@aB _ _ _ _ _ _ _ _ (@cx _) (@ad _ _ _ _) (@ap _ _ _ _ _ _ _ _ _ _ _ _ _ _ _ _ G_l_take (hr.mono (by decide)) pX T.l_take_.m T.l_take_.F.kp T.l_take_.B .nil (@aK _) (@aa _ _ _ _ _ (@pw _ 3 _ _ (Or.inl da) (by rfl) (by decide) (by decide)) (@aa _ _ _ _ _ (@ad _ _ _ _) (@ac _) rfl) rfl) (by decide) (by rfl) (by rfl))) (@ac _) rfl) rfl) (by decide) (by rfl) (by rfl)) (@cY _ (K) _ _ _ _ (2) rfl (@aP _ _ _ _ _ (@aw _ _ (4) _ nV.nd rfl (Or.inl qY) (by first | exact .inl rfl | exact .inr rfl | assumption)) (@aP _ _ _ _ _ (@aw _ _ (5) _ nV.nd rfl (Or.inl o9) (by first | exact .inl rfl | exact .inr rfl | assumption)) (@dv _) (by rfl)) (by rfl)) (by rfl) (by rfl) (by rfl)) (by rfl) (by rfl) (by rfl)) (@ae _ _ _ _ _ (@cK _ _ _ _ _ _ _ _ (@iI _ _ _ _ (@fh _ _ _ (@ap _ _ _ _ _ _ _ _ _ _ _ _ _ _ _ _ G_l_hairs_right (hr.mono (by decide)) pG T.l_hairs_right_.m T.l_hairs_right_.F.kp T.l_hairs_right_.B .nil (@aK _) (@aa _ _ _ _ _ (@pw _ 3 _ _ (Or.inl da) (by rfl) (by decide) (by decide)) (@ac _) rfl) (by decide) (by rfl) (by rfl)) (by intro _;rfl))) (@am _ _ _ (@aM _ _ _ _ (@ig _ _ _ _))) (@bM _)) (@am _ _ _ (@cK _ _ _ _ _ _ _ _ (@PW.pt _ _ _ (@mP _ _ _ _ _ _ _ (@iI _ _ _ _ (@fh _ _ _ (@ap _ _ _ _ _ _ _ _ _ _ _ _ _ _ _ _ G_l_ring_right (hr.mono (by decide)) pW T.l_ring_right_.m T.l_ring_right_.F.kp T.l_ring_right_.B .nil (@aK _) (@aa _ _ _ _ _ (@pw _ 4 _ _ (Or.inl qY) (by rfl) (by decide) (by decide)) (@aa _ _ _ _ _ (@pw _ 5 _ _ (Or.inl o9) (by rfl) (by decide) (by decide)) (@ac _) rfl) rfl) (by decide) (by rfl) (by rfl)) (by intro _;rfl))) (@km _ _ _ _ (@iI _ _ _ _ (@fh _ _ _ (@ap _ _ _ _ _ _ _ _ _ _ _ _ _ _ _ _ G_l_chain_right (hr.mono (by decide)) pE T.l_chain_right_.m T.l_chain_right_.F.kp T.l_chain_right_.B .nil (@aK _) (@aa _ _ _ _ _ (@ap _ _ _ _ _ _ _ _ _ _ _ _ _ _ _ _ G_l_chain_net (hr.mono (by decide)) qO T.l_chain_net_.m T.l_chain_net_.F.kp T.l_chain_net_.B .nil (@aK _) (@aa _ _ _ _ _ (@pw _ 3 _ _ (Or.inl da) (by rfl) (by decide) (by decide)) (@aa _ _ _ _ _ (@aB _ _ _ _ _ _ _ _ (@cx _) (@ad _ _ _ _) (@ap _ _ _ _ _ _ _ _ _ _ _ _ _ _ _ _ G_l_take (hr.mono (by decide)) pX T.l_take_.m T.l_take_.F.kp T.l_take_.B .nil (@aK _) (@aa _ _ _ _ _ (@pw _ 3 _ _ (Or.inl da) (by rfl) (by decide) (by decide)) (@aa _ _ _ _ _ (@ad _ _ _ _) (@ac _) rfl) rfl) (by decide) (by rfl) (by rfl))) (@ac _) rfl) rfl) (by decide) (by rfl) (by rfl)) (@ac _) rfl) (by decide) (by rfl) (by rfl)) (by intro _;rfl)))))) (@am _ _ _ (@aM _ _ _ _ (@ig _ _ _ _))) (@bM _)))))) (by intro _;rfl)) (@am _ _ _ (@aM _ _ _ _ (@ig _ _ _ _))))),?_⟩
  refine bT fun DA nA=>?_
  refine ⟨_,rfl,a,ns,5,rfl,hS,hn,by decide,by decide,fun p ms H1 hp s1 hp1 hm4=>?_⟩
  refine nA _ _ ?_
  have hmx:0≤(if ((ms.map V.int).length:Int) > 2 then ((ms.map V.int).length:Int) else 2)∧(if ((ms.map V.int).length:Int) > 2 then ((ms.map V.int).length:Int) else 2)≤5:=by
   rw [List.length_map]
   split <;> trivial
  refine bT fun DZ nZ=>⟨_,rfl,p,_,rfl,.inl (aG.of hp1),_,_,rfl,_,rfl,by trivial,by trivial,?_⟩
  generalize (if ((ms.map V.int).length:Int) > 2 then ((ms.map V.int).length:Int) else 2)=mx at hmx
  refine kD (fun i σ H'=>ml fun v2 v3 v4 v5=>σ=[some (.ref a),some (.ref p),v2,v3,v4,v5]∧H' p=some (.lst (ms.map V.int))) ⟨_,_,_,_,rfl,hp1⟩ ?_ ?_
  case refine_2=>
   rintro σ H' ⟨v2,v3,v4,v5,rfl,_⟩
   exact nZ _ _ (k _)
  rintro i σ H2 hi ⟨v2,v3,v4,v5,rfl,hp2⟩
  refine E6 (t:=o6 _ _) fun DB nB=>?_
  refine bT fun DC nC=>?_
  refine ⟨_,rfl,_,rfl,p,ms,_,rfl,aG.of hp2,by trivial,by trivial,fun b H3 hb s3 B3=>?_⟩
  refine nC _ _ ?_
  have npb:¬p=b:=fun z=>by rw [z,hb] at hp2;cases hp2
  have hp3:=s3 _ _ hp2
  refine bT fun DD nD=>⟨_,rfl,_,rfl,b,6,0,rfl,B3,by decide,by decide,by trivial,by trivial,fun r t4 H4 r0 r1 h4a h4b s4 B4=>⟨_,_,rfl,rfl,b,2+r,t4,rfl,B4,by trivial,by trivial,by trivial,by trivial,fun q v g ls ts t5 H5 s5 hq hv tc rg ll B5 h5a h5b=>⟨q,_,rfl,au.of hq,rfl,_,_,rfl,_,_,rfl,rfl,nD _ _ ?_⟩⟩⟩
  refine bT fun DE nE=>⟨_,rfl,b,t5,rfl,B5,by trivial,by trivial,fun t6 H6 s6 B6 h6a h6b=>⟨_,rfl,cm (nE _ _ ?_)⟩⟩
  refine ⟨_,rfl,_,rfl,v,g,ls,ts,rfl,hv.mono ⟨fun _ _ n _=>absurd trivial n,s6.tup⟩,tc,rg,by trivial,by trivial,fun H7 s7=>⟨_,rfl,cm ?_⟩⟩
  refine ⟨_,rfl,_,rfl,b,6,t6,rfl,B6.same s7,by decide,by decide,by trivial,by trivial,fun r' t8 H8 r0' r1' h8a h8b s8 B8=>⟨_,_,rfl,rfl,b,2+r',t8,rfl,B8,by trivial,by trivial,by trivial,by trivial,fun q' ls' ts' t9 H9 s9 hv' nd' nc' ci' ll' lt' B9 h9a h9b=>⟨.ref q',ls',ts',rfl,hv',nd',nc',ci',by trivial,by trivial,lt',fun H10 s10=>⟨_,rfl,cm ?_⟩⟩⟩⟩
  have sA:bh (Eb b) H3 H10:=((((s4.trans s5).trans s6).trans s7.toE).trans s8).trans (s9.trans s10.toE)
  exact nB _ _ ⟨_,_,_,_,rfl,sA.old p _ npb hp3⟩
end
end K14
open PySem PySem.W PyProof.Rows
set_option maxRecDepth 100000 in
set_option maxHeartbeats 0 in
theorem PySem.Challenge.cw_gainroads_k14_known_rings_and_chains_holds : PySem.Challenge.rw_gainroads_k14_known_rings_and_chains.Holds := by
 w_on;o_law;k_head;(case hw=>w_witness2)
 k_fill
 refine L2.walk_ofK (l:=PySem.Challenge.rw_gainroads_k14_known_rings_and_chains) (n:=63) (k:=40) (x := "_law_script") (CX:=L2.CX0) (sp:=K14.spLaw) rfl (by decide) rfl ⟨rfl,by decide,by decide,rfl⟩ (fun w h Y=>PySem.W.kIn_of Y) ?F ?S ?C
 case F=>
  intro w mg fa h KX G hmg
  have T:∃T:K14.Txt (L2.KOf KX) mg,∃f,T.law_.f=f∧(∀(s:Shared) (u:Value),BindsTo s T.law_.d ⟨[u],[]⟩ [("_law_script",u)]):=by
   dsimp only [L2.KOf]
   refine' (fun z=>Exists.elim z fun T y=>⟨T,_,y.1,y.2⟩) (K14.txt_mk KX G ?xa0 ?xa1 ?a0 ?l0 ?c0 ?k0 ?a1 ?l1 ?c1 ?k1 ?a2 ?l2 ?c2 ?k2 ?a3 ?l3 ?c3 ?k3 ?a4 ?l4 ?c4 ?k4 ?a5 ?l5 ?c5 ?k5 ?a6 ?l6 ?c6 ?k6 ?a7 ?l7 ?c7 ?k7 ?a8 ?l8 ?c8 ?k8 ?a9 ?l9 ?c9 ?k9 ?a10 ?l10 ?c10 ?k10 ?a11 ?l11 ?c11 ?k11 ?a12 ?l12 ?c12 ?k12 ?a13 ?l13 ?c13 ?k13 ?a14 ?l14 ?c14 ?k14 ?a15 ?l15 ?c15 ?k15 ?a16 ?l16 ?c16 ?k16 ?a17 ?l17 ?c17 ?k17 ?a18 ?l18 ?c18 ?k18 ?a19 ?l19 ?c19 ?k19 ?a20 ?l20 ?c20 ?k20 ?a21 ?l21 ?c21 ?k21 ?a22 ?l22 ?c22 ?k22 ?a23 ?l23 ?c23 ?k23 ?a24 ?l24 ?c24 ?k24 ?a25 ?l25 ?c25 ?k25 ?a26 ?l26 ?c26 ?k26 ?a27 ?l27 ?c27 ?k27 ?a28 ?l28 ?c28 ?k28 ?a29 ?l29 ?c29 ?k29 ?a30 ?l30 ?c30 ?k30 ?a31 ?l31 ?c31 ?k31 ?a32 ?l32 ?c32 ?k32 ?xk0 ?xb0 ?xk1 ?xf1 ?xs1 ?xr1 ?xq1 ?xe0 ?xi ?z0 ?z1 ?z2 ?z3 ?z4 ?z5 ?z6 ?z7 ?z8 ?z9 ?z10 ?z11 ?z12 ?z13 ?z14)
   (case xa0=>k_is)
   (case xa1=>k_is)
   (case a0=>k_is)
   (case l0=>k_is)
   (case c0=>k_is)
   (case k0=>k_is)
   (case a1=>k_is)
   (case l1=>k_is)
   (case c1=>k_is)
   (case k1=>k_is)
   (case a2=>k_is)
   (case l2=>k_is)
   (case c2=>k_is)
   (case k2=>k_is)
   (case a3=>k_is)
   (case l3=>k_is)
   (case c3=>k_is)
   (case k3=>k_is)
   (case a4=>k_is)
   (case l4=>k_is)
   (case c4=>k_is)
   (case k4=>k_is)
   (case a5=>k_is)
   (case l5=>k_is)
   (case c5=>k_is)
   (case k5=>k_is)
   (case a6=>k_is)
   (case l6=>k_is)
   (case c6=>k_is)
   (case k6=>k_is)
   (case a7=>k_is)
   (case l7=>k_is)
   (case c7=>k_is)
   (case k7=>k_is)
   (case a8=>k_is)
   (case l8=>k_is)
   (case c8=>k_is)
   (case k8=>k_is)
   (case a9=>k_is)
   (case l9=>k_is)
   (case c9=>k_is)
   (case k9=>k_is)
   (case a10=>k_is)
   (case l10=>k_is)
   (case c10=>k_is)
   (case k10=>k_is)
   (case a11=>k_is)
   (case l11=>k_is)
   (case c11=>k_is)
   (case k11=>k_is)
   (case a12=>k_is)
   (case l12=>k_is)
   (case c12=>k_is)
   (case k12=>k_is)
   (case a13=>k_is)
   (case l13=>k_is)
   (case c13=>k_is)
   (case k13=>k_is)
   (case a14=>k_is)
   (case l14=>k_is)
   (case c14=>k_is)
   (case k14=>k_is)
   (case a15=>k_is)
   (case l15=>k_is)
   (case c15=>k_is)
   (case k15=>k_is)
   (case a16=>k_is)
   (case l16=>k_is)
   (case c16=>k_is)
   (case k16=>k_is)
   (case a17=>k_is)
   (case l17=>k_is)
   (case c17=>k_is)
   (case k17=>k_is)
   (case a18=>k_is)
   (case l18=>k_is)
   (case c18=>k_is)
   (case k18=>k_is)
   (case a19=>k_is)
   (case l19=>k_is)
   (case c19=>k_is)
   (case k19=>k_is)
   (case a20=>k_is)
   (case l20=>k_is)
   (case c20=>k_is)
   (case k20=>k_is)
   (case a21=>k_is)
   (case l21=>k_is)
   (case c21=>k_is)
   (case k21=>k_is)
   (case a22=>k_is)
   (case l22=>k_is)
   (case c22=>k_is)
   (case k22=>k_is)
   (case a23=>k_is)
   (case l23=>k_is)
   (case c23=>k_is)
   (case k23=>k_is)
   (case a24=>k_is)
   (case l24=>k_is)
   (case c24=>k_is)
   (case k24=>k_is)
   (case a25=>k_is)
   (case l25=>k_is)
   (case c25=>k_is)
   (case k25=>k_is)
   (case a26=>k_is)
   (case l26=>k_is)
   (case c26=>k_is)
   (case k26=>k_is)
   (case a27=>k_is)
   (case l27=>k_is)
   (case c27=>k_is)
   (case k27=>k_is)
   (case a28=>k_is)
   (case l28=>k_is)
   (case c28=>k_is)
   (case k28=>k_is)
   (case a29=>k_is)
   (case l29=>k_is)
   (case c29=>k_is)
   (case k29=>k_is)
   (case a30=>k_is)
   (case l30=>k_is)
   (case c30=>k_is)
   (case k30=>k_is)
   (case a31=>k_is)
   (case l31=>k_is)
   (case c31=>k_is)
   (case k31=>k_is)
   (case a32=>k_is)
   (case l32=>k_is)
   (case c32=>k_is)
   (case k32=>k_is)
   (case xk0=>k_is)
   (case xb0=>kernel_rfl)
   (case xk1=>k_is)
   (case xf1=>k_is)
   (case xs1=>kernel_rfl)
   (case xr1=>kernel_rfl)
   (case xq1=>kernel_rfl)
   (case xe0=>kernel_rfl)
   (case xi=>kernel_rfl)
   (case z0=>k_is)
   (case z1=>k_is)
   (case z2=>k_is)
   (case z3=>k_is)
   (case z4=>k_is)
   (case z5=>k_is)
   (case z6=>k_is)
   (case z7=>k_is)
   (case z8=>k_is)
   (case z9=>k_is)
   (case z10=>k_is)
   (case z11=>k_is)
   (case z12=>k_is)
   (case z13=>k_is)
   (case z14=>k_is)
  obtain ⟨T,f,rfl,hb⟩:=T
  have e0:=hmg.symm.trans T.law_.m
  cases e0
  exact ⟨T.law_.d,hb,fun base kb nb=>K14.law_ok T⟩
 case S=>exact fun K H a ns hl hO hS=>K14.law_start hl hO hS
 case C=>exact fun _ _ _ _ z=>z
