import PyProof.Rows.All
import Wide.All
import OpenK.AllK
import Wide.FinOn
import Lean
import PyProof.EqAt
import PyProof.EqKinds
import PyProof.TupleCall
import PyProof.CompFree
import PyProof.CompMap
import KE.LcSums
import PyProof.ZipIter
import PyProof.Draws
import KE.KRevSl
import KE.KListMore
import PyProof.Rows.StrJoin2
import PyProof.Rows.StrFin3
import PyProof.StrOps2
import PyProof.NeData
import PyProof.P3Eq
import PyProof.StrLawsRepr
import PyProof.ReprLen
import PyProof.Rows.IntBool
import PyProof.SliceStr2
import PyProof.P3In
import PyProof.Rows.StrLen
import KE.KStrOpen
import PyProof.FitsInt
import PyProof.Rows.ReprOcc
import PyProof.ListRange
import PyProof.AttrMissHeap
import PyProof.FactsAll.zip
import PyProof.FactsAll.tuple_3
import KE.KDictOf
import PyProof.SeqRoads2
import PyProof.DictCompW
import PyProof.Rows.StrInSeq3
import PySem.Challenge.RW_gainroads_k10_rounds_that_gain
set_option Elab.async false
set_option linter.all false
set_option maxRecDepth 100000
set_option genSizeOf false
set_option genInjectivity false
namespace L2
inductive Ex2 {α0 α1:Type} (p:α0→α1→Prop):Prop
  | mk (a0:α0) (a1:α1) (h:p a0 a1)
inductive Ex3 {α0 α1 α2:Type} (p:α0→α1→α2→Prop):Prop
  | mk (a0:α0) (a1:α1) (a2:α2) (h:p a0 a1 a2)
inductive Ex4 {α0 α1 α2 α3:Type} (p:α0→α1→α2→α3→Prop):Prop
  | mk (a0:α0) (a1:α1) (a2:α2) (a3:α3) (h:p a0 a1 a2 a3)
inductive Ex5 {α0 α1 α2 α3 α4:Type} (p:α0→α1→α2→α3→α4→Prop):Prop
  | mk (a0:α0) (a1:α1) (a2:α2) (a3:α3) (a4:α4) (h:p a0 a1 a2 a3 a4)
inductive Ex6 {α0 α1 α2 α3 α4 α5:Type} (p:α0→α1→α2→α3→α4→α5→Prop):Prop
  | mk (a0:α0) (a1:α1) (a2:α2) (a3:α3) (a4:α4) (a5:α5) (h:p a0 a1 a2 a3 a4 a5)
inductive Ex7 {α0 α1 α2 α3 α4 α5 α6:Type} (p:α0→α1→α2→α3→α4→α5→α6→Prop):Prop
  | mk (a0:α0) (a1:α1) (a2:α2) (a3:α3) (a4:α4) (a5:α5) (a6:α6) (h:p a0 a1 a2 a3 a4 a5 a6)
inductive Ex9 {α0 α1 α2 α3 α4 α5 α6 α7 α8:Type} (p:α0→α1→α2→α3→α4→α5→α6→α7→α8→Prop):Prop
  | mk (a0:α0) (a1:α1) (a2:α2) (a3:α3) (a4:α4) (a5:α5) (a6:α6) (a7:α7) (a8:α8) (h:p a0 a1 a2 a3 a4 a5 a6 a7 a8)
inductive Ex10 {α0 α1 α2 α3 α4 α5 α6 α7 α8 α9:Type} (p:α0→α1→α2→α3→α4→α5→α6→α7→α8→α9→Prop):Prop
  | mk (a0:α0) (a1:α1) (a2:α2) (a3:α3) (a4:α4) (a5:α5) (a6:α6) (a7:α7) (a8:α8) (a9:α9) (h:p a0 a1 a2 a3 a4 a5 a6 a7 a8 a9)
end L2
set_option genSizeOf true
set_option genInjectivity true
local macro_rules | `(tactic| trivial)=>`(tactic| first | lia | omega)
namespace L2
open PySem PySem.Spec PyProof.Rows
abbrev Key:=Sum Int Str
def keyIs:Key→Value→Bool
  | .inl k,v=>Value.isInt k v
  | .inr x,v=>Value.isStrOf x v
def keyH (w:World):Key→Int
  | .inl k=>hashInt k
  | .inr x=>hashStr w x
theorem keyIs_shape:∀{k:Key}{v:Value},keyIs k v=true→(Ex2 fun i t=>k=Sum.inl i∧v=Value.int i t)∨(Ex2 fun x t=>k=Sum.inr x∧v=Value.str x t)
  | .inl i,v,h=>by
    obtain ⟨t,e⟩:=Value.isInt_shape (k:=i) (v:=v) h
    exact .inl ⟨i,t,rfl,e⟩
  | .inr x,v,h=>by
    obtain ⟨t,e⟩:=Value.isStrOf_shape (x:=x) (v:=v) h
    exact .inr ⟨x,t,rfl,e⟩
theorem keyIs_int (i:Int) (t:Tok):keyIs (.inl i) (.int i t)=true:=by simp [keyIs,Value.isInt]
theorem keyIs_str (x:Str) (t:Tok):keyIs (.inr x) (.str x t)=true:=by simp [keyIs,Value.isStrOf]
theorem key_ll (a b:Int):decide ((Sum.inl a:Key)=Sum.inl b)=(a==b):=by
  by_cases e:a=b
  · subst e;simp
  · have h:¬(Sum.inl a:Key)=Sum.inl b:=fun q=>e (Sum.inl.inj q)
    rw [decide_eq_false h]
    exact (beq_eq_false_iff_ne.mpr e).symm
theorem key_rr (a b:Str):decide ((Sum.inr a:Key)=Sum.inr b)=decide (a=b):=by
  by_cases e:a=b
  · subst e;simp
  · have h:¬(Sum.inr a:Key)=Sum.inr b:=fun q=>e (Sum.inr.inj q)
    rw [decide_eq_false h,decide_eq_false e]
theorem key_lr (a:Int) (b:Str):decide ((Sum.inl a:Key)=Sum.inr b)=false:=decide_eq_false (fun q=>nomatch q)
theorem key_rl (a:Str) (b:Int):decide ((Sum.inr a:Key)=Sum.inl b)=false:=decide_eq_false (fun q=>nomatch q)
def mixKind (prog:Program) (w:World):PySem.KeyKind prog w Key where
  is:=keyIs
  hash:=keyH w
  inj:=fun v a b ha hb=>by
    rcases keyIs_shape ha with ⟨i,t,rfl,rfl⟩ | ⟨x,t,rfl,rfl⟩
    · rcases keyIs_shape hb with ⟨j,u,rfl,e⟩ | ⟨y,u,rfl,e⟩
      · injection e with e1 _;rw [e1]
      · exact nomatch e
    · rcases keyIs_shape hb with ⟨j,u,rfl,e⟩ | ⟨y,u,rfl,e⟩
      · exact nomatch e
      · injection e with e1 _;rw [e1]
  byValue:=fun k v h=>by
    rcases keyIs_shape h with ⟨i,t,rfl,rfl⟩ | ⟨x,t,rfl,rfl⟩ <;> rfl
  pyHash:=fun hv h=>by
    rcases keyIs_shape hv with ⟨i,t,rfl,rfl⟩ | ⟨x,t,rfl,rfl⟩
    · exact wpAny_pyHash_int h
    · exact wpAny_pyHash_str h
  eqBool:=fun hu hv h=>by
    rcases keyIs_shape hu with ⟨i,t,rfl,rfl⟩ | ⟨x,t,rfl,rfl⟩
    · rcases keyIs_shape hv with ⟨j,u,rfl,rfl⟩ | ⟨y,u,rfl,rfl⟩
      · rw [key_ll] at h;exact wpAny_eqBool_int h
      · rw [key_lr] at h;exact SeqAt.EqAt.int_str i t y u _ _ _ _ h
    · rcases keyIs_shape hv with ⟨j,u,rfl,rfl⟩ | ⟨y,u,rfl,rfl⟩
      · rw [key_rl] at h;exact SeqAt.EqAt.str_int x t j u _ _ _ _ h
      · rw [key_rr] at h;exact wpAny_eqBool_str h
  «strs»:=fun k x t v h=>by
    rcases keyIs_shape h with ⟨i,u,rfl,e⟩ | ⟨y,u,rfl,e⟩
    · exact nomatch e
    · injection e with e1 _
      subst e1
      cases v <;> rfl
end L2
namespace L2
open PySem PySem.Spec PyProof.Rows
inductive V where
  | non | bl (b:Bool) | int (i:Int) | str (x:Str) | byt (b:Array UInt8) | flt (b:UInt64) | ref (a:Addr) | ty (n:String)
  deriving DecidableEq
def RelV:V→Value→Prop
  | .non,u=>u=Value.none
  | .bl b,u=>u=Value.bool b
  | .int i,u=>∃t,u=Value.int i t
  | .str x,u=>∃t,u=Value.str x t
  | .byt b,u=>∃t,u=Value.bytes b t
  | .flt b,u=>∃t,u=Value.float b t
  | .ref a,u=>u=Value.ref a
  | .ty n,u=>u=Value.type n
abbrev Vals:List V→List Value→Prop:=Paired RelV
theorem Vals.length {xs:List V}{us:List Value} (r:Vals xs us):xs.length=us.length:=Paired.length r
theorem Vals.get:∀{xs:List V}{us:List Value}{i:Nat}{x:V},Vals xs us→xs[i]?=some x→∃u,us[i]?=some u∧RelV x u
  | _,_,_,_,.nil,e=>by simp at e
  | _,_,0,_,.cons r _,e=>by simp at e;subst e;exact ⟨_,rfl,r⟩
  | _,_,i+1,x,.cons _ t,e=>by
    obtain ⟨u,h1,h2⟩:=Vals.get (i:=i) (x:=x) t (by simpa using e)
    exact ⟨u,by simpa using h1,h2⟩
theorem Vals.set {x:V}{u:Value} (r:RelV x u):∀{xs:List V}{us:List Value} (i:Nat),Vals xs us→Vals (xs.set i x) (us.set i u)
  | _,_,_,.nil=>.nil
  | _,_,0,.cons _ t=>.cons r t
  | _,_,i+1,.cons q t=>.cons q (Vals.set r i t)
theorem Vals.append:∀{xs ys:List V}{us ws:List Value},Vals xs us→Vals ys ws→Vals (xs++ys) (us++ws)
  | _,_,_,_,.nil,s=>s
  | _,_,_,_,.cons r t,s=>.cons r (Vals.append t s)
theorem Vals.take:∀{xs:List V}{us:List Value} (n:Nat),Vals xs us→Vals (xs.take n) (us.take n)
  | _,_,0,_=>.nil
  | _,_,_+1,.nil=>.nil
  | _,_,n+1,.cons r t=>.cons r (Vals.take n t)
theorem Vals.drop:∀{xs:List V}{us:List Value} (n:Nat),Vals xs us→Vals (xs.drop n) (us.drop n)
  | _,_,0,r=>r
  | _,_,_+1,.nil=>.nil
  | _,_,n+1,.cons _ t=>Vals.drop n t
def RelO:Option V→Option Value→Prop
  | some v,some u=>RelV v u
  | none,none=>True
  | _,_=>False
def KV {κ:Type}:List (κ×V)→List (κ×Value)→Prop:=Paired fun (p:κ×V) (q:κ×Value)=>p.1=q.1∧RelV p.2 q.2
def kV:Key→V
  | .inl i=>.int i
  | .inr x=>.str x
inductive HO where
    | lst (xs:List V)
    | tup (xs:List V)
    | dK (kvs:List (Key×V)) | dT (kvs:List (List Key×V))
    | set (S:Int→Bool) (n:Nat)
    | ins (C dx:Addr) (fs:List (Str×V))
    | own (x:Addr)
    | xd (fs:List (Str×V))
    | met (f x:Addr)
    | rng (lo hi:Int)
    | frz (o:Obj) (u:HO)
    | tbl (ps:Array Value)
    | ext (φ:Heap→Prop)
abbrev Hp:=Addr→Option HO
def upd (H:Hp) (a:Addr) (o:HO):Hp:=fun b=>if b=a then some o else H b
theorem upd_same {H:Hp}{a:Addr}{o:HO}:upd H a o a=some o:=by unfold upd;rw [if_pos rfl]
theorem upd_ne {H:Hp}{a b:Addr}{o:HO} (h:b≠a):upd H a o b=H b:=by unfold upd;rw [if_neg h]
theorem ne_of {H:Hp}{a b:Addr}{o u:HO} (h:H a=some o) (h':H b=some u) (d:o≠u):a≠b:=by
  intro e;subst e;rw [h] at h';exact d (Option.some.inj h')
theorem ne_of_none {H:Hp}{a b:Addr}{o:HO} (h:H a=some o) (h':H b=none):a≠b:=by
  intro e;subst e;rw [h] at h';cases h'
section
variable (P:Program) (w:World)
def ObjOk (H:Hp) (h:Heap) (a:Addr):HO→Prop
  | .lst xs=>xs.length≤sizeLine∧Ex2 fun (its:List Value) (n:Nat)=>Vals xs its∧h.get? a=some { cls:=.type "list",data:=.seq its.toArray n }
  | .tup xs=>xs.length≤sizeLine∧∃its:List Value,Vals xs its∧IsTup h a its.toArray∧∃o,h.get? a=some o∧o.dict=none
  | .dK kvs=>kvs.length≤sizeLine∧(a==sysModules)=false∧∃vs,KV kvs vs∧h.DictOf (mixKind P w) a vs
  | .dT kvs=>kvs.length≤sizeLine∧(a==sysModules)=false∧∃xs:List (List Key×Addr×Value),
      Paired (fun (p:List Key×V) (q:List Key×Addr×Value)=>p.1=q.1∧H q.2.1=some (.tup (p.1.map kV))∧RelV p.2 q.2.2) kvs xs∧
      Ex3 fun o es ep=>h.get? a=some o∧o.ExactDict∧o.data=.dict es ep∧es.toList=xs.map (entryOfKey (tupleKind (mixKind P w)))∧(xs.map (·.1)).Nodup
  | .set S n=>h.SetOf (intKind P w) a S n
  | .ins C dx fs=>H dx=some (.own a)∧fs.length≤1000∧dx≠a∧h.get? a=some (PySem.W.instObj C dx)∧
      ∃mA,h.Ns1 dx mA∧(∀f,RelO (fs.lookup f) (mA f))∧PySem.Within mA (fs.map (·.1))
  | .own _=>∃o,h.get? a=some o
  | .xd fs=>∃mA,h.Ns1 a mA∧∀f,RelO (fs.lookup f) (mA f)
  | .rng lo hi=>Ex3 fun t u v=>h.get? a=some { cls:=.type "range",data:=.fields #[.int lo t,.int hi u,.int 1 v] }
  | .frz o u=>h.get? a=some o∧ObjOk H h a u
  | .tbl ps=>h.get? a=some { cls:=.none,data:=.fields ps }
  | .met f x=>h.get? a=some (PySem.W.methodObj (.ref f) (.ref x))
  | .ext φ=>φ h∧(∃o,h.get? a=some o)∧∀h1 h2:Heap,φ h1→(∀o,h1.get? a=some o→h2.get? a=some o)→φ h2
def HOk (H:Hp) (h:Heap):Prop:=∀a o,H a=some o→ObjOk P w H h a o
end
section
variable {P:Program}{w:World}{H H':Hp}{h h':Heap}{a:Addr}{o:HO}
theorem ObjOk.lt (x:ObjOk P w H h a o):a<h.objs.size:=by
  cases o with
  | lst xs=>obtain ⟨_,_,_,_,e⟩:=x;exact Heap.lt_size e
  | tup xs=>obtain ⟨_,_,_,p,_⟩:=x;exact p.lt
  | dK kvs=>obtain ⟨_,_,_,_,o,_,_,e,_⟩:=x;exact Heap.lt_size e
  | dT kvs=>obtain ⟨_,_,_,_,o,_,_,e,_⟩:=x;exact Heap.lt_size e
  | set S n=>obtain ⟨o,_,_,_,e,_⟩:=x;exact Heap.lt_size e
  | ins C dx fs=>obtain ⟨_,_,_,e,_⟩:=x;exact Heap.lt_size e
  | own y=>obtain ⟨_,e⟩:=x;exact Heap.lt_size e
  | xd fs=>obtain ⟨_,⟨_,_,_,e,_⟩,_⟩:=x;exact Heap.lt_size e
  | rng lo hi=>obtain ⟨_,_,_,e⟩:=x;exact Heap.lt_size e
  | frz ob u=>obtain ⟨e,_⟩:=x;exact Heap.lt_size e
  | tbl ps=>exact Heap.lt_size (show h.get? a=some _ from x)
  | met f y=>exact Heap.lt_size (show h.get? a=some _ from x)
  | ext φ=>obtain ⟨_,⟨_,e⟩,_⟩:=x;exact Heap.lt_size e
theorem Paired.mapP {α β:Type}{F G:α→β→Prop}:∀{l₁:List α}{l₂:List β},Paired F l₁ l₂→(∀a b,F a b→G a b)→Paired G l₁ l₂
  | _,_,.nil,_=>.nil
  | _,_,.cons r t,f=>.cons (f _ _ r) (Paired.mapP t f)
theorem ObjOk.stay (x:ObjOk P w H h a o) (k:∀b u,(b=a∨H b=some (.own a))→h.get? b=some u→h'.get? b=some u)
    (ho:∀b,H b=some (.own a)→H' b=some (.own a)) (ht:∀b xs,H b=some (.tup xs)→H' b=some (.tup xs)):ObjOk P w H' h' a o:=by
  induction o with
  | lst xs=>obtain ⟨z,its,n,r,e⟩:=x;exact ⟨z,its,n,r,k _ _ (.inl rfl) e⟩
  | tup xs=>obtain ⟨z,its,r,⟨ob,e,c⟩,od,e',c'⟩:=x;exact ⟨z,its,r,⟨ob,k _ _ (.inl rfl) e,c⟩,od,k _ _ (.inl rfl) e',c'⟩
  | dK kvs=>obtain ⟨z,y,vs,r,ob,es,ep,e,c⟩:=x;exact ⟨z,y,vs,r,ob,es,ep,k _ _ (.inl rfl) e,c⟩
  | dT kvs=>
    obtain ⟨z,y,xs,r,ob,es,ep,e,c⟩:=x
    exact ⟨z,y,xs,Paired.mapP r fun p q z=>⟨z.1,ht _ _ z.2.1,z.2.2⟩,ob,es,ep,k _ _ (.inl rfl) e,c⟩
  | set S n=>obtain ⟨ob,es,ep,t,e,c⟩:=x;exact ⟨ob,es,ep,t,k _ _ (.inl rfl) e,c⟩
  | ins C dx fs=>
    obtain ⟨d,z,ne,e,mA,⟨od,es,ep,e2,c⟩,r⟩:=x
    exact ⟨ho _ d,z,ne,k _ _ (.inl rfl) e,mA,⟨od,es,ep,k _ _ (.inr d) e2,c⟩,r⟩
  | own y=>obtain ⟨ob,e⟩:=x;exact ⟨ob,k _ _ (.inl rfl) e⟩
  | xd fs=>obtain ⟨mA,⟨od,es,ep,e,c⟩,r⟩:=x;exact ⟨mA,⟨od,es,ep,k _ _ (.inl rfl) e,c⟩,r⟩
  | rng lo hi=>obtain ⟨t,u,v,e⟩:=x;exact ⟨t,u,v,k _ _ (.inl rfl) e⟩
  | frz ob u ih=>obtain ⟨e,q⟩:=x;exact ⟨k _ _ (.inl rfl) e,ih q⟩
  | tbl ps=>
    have e:h.get? a=some { cls:=.none,data:=.fields ps }:=x
    show h'.get? a=some { cls:=.none,data:=.fields ps }
    exact k a _ (.inl rfl) e
  | met f y=>
    have e:h.get? a=some (PySem.W.methodObj (.ref f) (.ref y)):=x
    show h'.get? a=some (PySem.W.methodObj (.ref f) (.ref y))
    exact k a _ (.inl rfl) e
  | ext φ=>obtain ⟨p,⟨o,e⟩,st⟩:=x;exact ⟨st _ _ p fun o q=>k _ _ (.inl rfl) q,⟨o,k _ _ (.inl rfl) e⟩,st⟩
theorem HOk.lt (x:HOk P w H h) (e:H a=some o):a<h.objs.size:=(x a o e).lt
theorem HOk.fresh (x:HOk P w H h) (e:h.objs.size≤a):H a=none:=by
  cases q:H a with
  | none=>rfl
  | some u=>exact absurd (Nat.lt_of_lt_of_le (x.lt q) e) (Nat.lt_irrefl _)
theorem HOk.kept (x:HOk P w H h) (k:∀b u,h.get? b=some u→h'.get? b=some u):HOk P w H h':=fun a o e=>
  (x a o e).stay (fun b u _ q=>k b u q) (fun _ q=>q) fun _ _ q=>q
theorem HOk.laid (x:HOk P w H h) (k:∀b u,h.get? b=some u→h'.get? b=some u) (hp:h.objs.size≤a) (new:ObjOk P w (upd H a o) h' a o):HOk P w (upd H a o) h':=fun b u e=>by
  have hn:=x.fresh hp
  by_cases hb:b=a
  · subst hb;rw [upd_same] at e;cases e;exact new
  · rw [upd_ne hb] at e
    exact (x b u e).stay (fun c v _ q=>k c v q) (fun c q=>by rw [upd_ne (ne_of_none q hn)];exact q) fun c xs q=>by rw [upd_ne (ne_of_none q hn)];exact q
end
def Rd (H:Hp) (a:Addr) (u:HO):Prop:=H a=some u∨∃o,H a=some (.frz o u)
theorem Rd.ok {P:Program}{w:World}{H:Hp}{h:Heap}{a:Addr}{u:HO} (r:Rd H a u) (x:HOk P w H h):ObjOk P w H h a u:=by
  rcases r with r | ⟨o,r⟩
  · exact x a u r
  · obtain ⟨_,q⟩:=x a _ r
    exact q
def Mut:Option HO→Prop
  | some (.lst _)=>True
  | some (.dK _)=>True
  | some (.dT _)=>True
  | some (.set _ _)=>True
  | some (.ins _ _ _)=>True
  | some (.ext _)=>True
  | _=>False
section
variable {P:Program}{w:World}{H:Hp}{h h':Heap}{x e:Addr}{o':HO}
theorem HOk.write (ok:HOk P w H h) (mu:Mut (H x)) (he:e=x∨H e=some (.own x)) (k:∀b u,b≠e→h.get? b=some u→h'.get? b=some u) (heo:∃u,h'.get? e=some u)
    (new:ObjOk P w (upd H x o') h' x o'):HOk P w (upd H x o') h':=fun b u q=>by
  have nown:∀c y,H c=some (.own y)→c≠x:=fun c y r z=>by subst z;rw [r] at mu;exact mu
  have ntup:∀c xs,H c=some (.tup xs)→c≠x:=fun c xs r z=>by subst z;rw [r] at mu;exact mu
  by_cases hb:b=x
  · subst hb;rw [upd_same] at q;cases q;exact new
  · rw [upd_ne hb] at q
    by_cases hbe:b=e
    · have q':H b=some (.own x):=by
        rcases he with z | z
        · exact absurd (hbe.trans z) hb
        · rw [hbe];exact z
      rw [q] at q';cases q'
      obtain ⟨v,hv⟩:=heo
      exact ⟨v,by rw [hbe];exact hv⟩
    · refine (ok b u q).stay (fun c v hc r=>k c v ?_ r) (fun c r=>by rw [upd_ne (nown c b r)];exact r) fun c xs r=>by rw [upd_ne (ntup c xs r)];exact r
      rcases hc with rfl | hc
      · exact hbe
      · rintro rfl
        rcases he with z | z
        · exact nown c b hc z
        · rw [hc] at z;cases z;exact hb rfl
end
structure Un (fs ex:List Addr) (H H':Hp) (h h':Heap):Prop where
  keep:∀b o,h.get? b=some o→H b=none→b∉fs→b∉ex→h'.get? b=some o
  slot:∀b o,h.get? b=some o→H b=none→b∈fs→b∉ex→∃sl,h'.get? b=some { o with slots:=sl }
  free:∀b o,h.get? b=some o→H b=none→b∉ex→H' b=none
  there:∀b o,h.get? b=some o→b∉ex→∃o',h'.get? b=some o'
  tups:∀b xs,H b=some (.tup xs)→H' b=some (.tup xs)
  frzs:∀b o u,H b=some (.frz o u)→H' b=some (.frz o u)
  tbls:∀b ps,H b=some (.tbl ps)→∃more,H' b=some (.tbl (ps++more))
section
variable {fs fs' ex ex':List Addr}{H H1 H2:Hp}{h h1 h2 h':Heap}{a x e:Addr}{o:HO}
theorem Un.any (u:Un fs ex H H1 h h1) {b:Addr}{ob:Obj} (q:h.get? b=some ob) (n:H b=none) (hx:b∉ex):∃sl,h1.get? b=some { ob with slots:=sl }:=by
  by_cases hb:b∈fs
  · exact u.slot b ob q n hb hx
  · exact ⟨ob.slots,u.keep b ob q n hb hx⟩
theorem Un.kept (k:∀b u,h.get? b=some u→h'.get? b=some u):Un fs ex H H h h':=
  ⟨fun b ob q _ _ _=>k b ob q,fun b ob q _ _ _=>⟨ob.slots,k b ob q⟩,fun _ _ _ n _=>n,fun b ob q _=>⟨ob,k b ob q⟩,fun _ _ q=>q,fun _ _ _ q=>q,fun _ ps q=>⟨#[],by rw [q];simp⟩⟩
theorem Un.refl:Un fs ex H H h h:=Un.kept fun _ _ q=>q
theorem Un.laid (k:∀b u,h.get? b=some u→h'.get? b=some u) (hp:h.objs.size≤a) (hn:H a=none):Un fs ex H (upd H a o) h h' where
  keep:=fun b u q _ _ _=>k b u q
  slot:=fun b u q _ _ _=>⟨u.slots,k b u q⟩
  free:=fun b u q n _=>by rw [upd_ne (Nat.ne_of_lt (Nat.lt_of_lt_of_le (Heap.lt_size q) hp))];exact n
  there:=fun b u q _=>⟨u,k b u q⟩
  tups:=fun b xs q=>by rw [upd_ne (ne_of_none q hn)];exact q
  frzs:=fun b u xs q=>by rw [upd_ne (ne_of_none q hn)];exact q
  tbls:=fun b ps q=>⟨#[],by rw [upd_ne (ne_of_none q hn),q];simp⟩
theorem Un.write (mu:Mut (H x)) (he:e=x∨H e=some (.own x)) (k:∀b u,b≠e→h.get? b=some u→h'.get? b=some u) (heo:∃u,h'.get? e=some u):Un fs ex H (upd H x o) h h':=by
  have hx:∀b,H b=none→b≠x:=fun b n z=>by subst z;rw [n] at mu;exact mu
  have hb:∀b,H b=none→b≠e:=fun b n z=>by
    subst z
    rcases he with r | r
    · exact hx b n r
    · rw [n] at r;cases r
  have hm:∀b u,H b=some u→¬Mut (some u)→b≠x:=fun b u q nm z=>by subst z;rw [q] at mu;exact nm mu
  refine ⟨fun b u q n _ _=>k b u (hb b n) q,fun b u q n _ _=>⟨u.slots,k b u (hb b n) q⟩,fun b u q n _=>by rw [upd_ne (hx b n)];exact n,fun b u q _=>?_,
    fun b xs q=>by rw [upd_ne (hm b _ q fun z=>z)];exact q,fun b u xs q=>by rw [upd_ne (hm b _ q fun z=>z)];exact q,fun b ps q=>⟨#[],by rw [upd_ne (hm b _ q fun z=>z),q];simp⟩⟩
  by_cases hbe:b=e
  · subst hbe;exact heo
  · exact ⟨u,k b u hbe q⟩
end
def trk (h:Heap) (H:Hp):List Addr:=(List.range h.objs.size).filter fun a=>(H a).isSome
def hidT (h:Heap) (H:Hp):Heap:=PySem.W.hideAll h (trk h H)
theorem hidT_size (h:Heap) (H:Hp):(hidT h H).objs.size=h.objs.size:=PySem.W.hideAll_size _ _
theorem hidT_get {h:Heap}{H:Hp}{b:Addr}{o:Obj} (e:h.get? b=some o) (n:H b=none):(hidT h H).get? b=some o:=
  PySem.W.hideAll_get _ e fun hm=>by
    have q:(H b).isSome=true:=(List.mem_filter.mp hm).2
    rw [n] at q;simp at q
theorem of_hidT {h:Heap}{H:Hp}{b:Addr}{o:Obj} (e:(hidT h H).get? b=some o):h.get? b=some o∧H b=none:=by
  have e':h.get? b=some o:=PySem.W.of_hideAll (trk h H) e
  refine ⟨e',?_⟩
  cases q:H b with
  | none=>rfl
  | some x=>
    have hm:b∈trk h H:=List.mem_filter.mpr ⟨List.mem_range.mpr (Heap.lt_size e'),by simp [q]⟩
    have z:(hidT h H).get? b=none:=PySem.W.hideAll_none (trk h H) hm
    rw [z] at e;cases e
end L2
namespace L2
open PySem PySem.Spec PyProof.Rows
structure Mod (K:PySem.W.Frag) (mg:Str→Option Value) (base:Heap):Prop where
  kin:K.In base
  glob:base.Ns mainGlobals mg
  blt:∃mb,base.Ns builtinsNs mb∧∀x:Str,x≠"__name__"→mb x=bootBuiltins x
  nolimit:base.NoLimit
structure Cx where
  prog:Program
  w:World
  K:PySem.W.Frag
  mg:Str→Option Value
  base:Heap
  A:Around
  N:List Str
  s₀:Shared
  H₀:Hp
  env:Env
  outer:List Env
  stack:List Env
  ex:List Addr
  fn:Str→Bool
  calm:Bool
  pn:List (Addr×Obj)
  xe:Value→Shared→Prop
def frs (l:List Env):List Addr:=l.filterMap (·.frame)
abbrev Cx.fs (X:Cx):List Addr:=frs X.outer
def Vis (sc:Scope) (x:Str):Prop:=sc.names.lookup x=some .local∨sc.names.lookup x=some .cell∨sc.names.lookup x=some .free
def Loc (sc:Scope) (x:Str):Prop:=sc.names.lookup x=some .local∨sc.names.lookup x=some .cell
def Look (env:Env) (h:Heap) (m:Str→Option Value) (x:Str) (u:Value):Prop:=
  (env.kindOf x=some .local∧m x=some u)∨((env.kindOf x=some .cell∨env.kindOf x=some .free)∧∃c,env.cells.lookup x=some c∧h.IsCell c (some u))
structure Cx.Ok (X:Cx):Prop where
  mod:Mod X.K X.mg X.base
  kind:X.env.scope.kind=.function
  glob:X.env.globals=mainGlobals
  blt:X.env.builtins=builtinsNs
  above:X.s₀.heap.objs.size≤X.env.locals
  inj:∀x y c,X.env.cells.lookup x=some c→X.env.cells.lookup y=some c→x=y
  has:∀x,(X.env.kindOf x=some .cell∨X.env.kindOf x=some .free)→∃c,X.env.cells.lookup x=some c
  cab:∀x c,X.fn x=true→X.env.cells.lookup x=some c→X.s₀.heap.objs.size≤c
  hd:X.calm=true→X.A.handled=none
  frames:X.A.frames=some X.stack
  stk:X.stack=X.outer∨(X.stack=X.env :: X.outer∧X.env.frame=some X.env.locals)
  exf:∀b∈X.ex,b≠X.env.locals∧∀x c,X.env.cells.lookup x=some c→c≠b
  bs:∀b o,X.base.get? b=some o→X.s₀.heap.get? b=some o∧X.H₀ b=none
  bsz:X.base.objs.size≤X.s₀.heap.objs.size
  noex:∀b o,X.base.get? b=some o→b∉X.ex
  exfs:∀b∈X.ex,b∉X.fs
  funs:X.s₀.heap.FunFrames X.base X.outer
  frf:∀b∈X.fs,X.H₀ b=none
structure Inv (X:Cx) (pins:List (Addr×Obj)) (σ:List (Option V)) (H:Hp) (s:Shared):Prop where
  ok:X.Ok
  os:s.os=X.s₀.os
  bare:AllBare s.gens
  base:Un X.fs X.ex X.H₀ H X.s₀.heap s.heap
  loc:∃m,s.heap.Ns X.env.locals m∧∀(i:Nat) (x:Str) (v:V),X.N[i]?=some x→σ[i]?=some (some v)→Vis X.env.scope x→∃u,RelV v u∧Look X.env s.heap m x u
  cell:∀x c,X.env.cells.lookup x=some c→∃v,s.heap.IsCell c v
  free:H X.env.locals=none
  freeC:∀x c,X.env.cells.lookup x=some c→H c=none
  pin:∀p∈X.pn++pins,s.heap.get? p.1=some p.2∧H p.1=none∧p.1≠X.env.locals∧p.1∉X.fs∧∀v,p.2.data≠.cell v
  hok:HOk X.prog X.w H s.heap
  len:σ.length=X.N.length
section
variable {X:Cx}{pins:List (Addr×Obj)}{σ:List (Option V)}{H H':Hp}{s:Shared}{h':Heap}
theorem Cx.Ok.nofr (ok:X.Ok) {b:Addr}{o:Obj} (e:X.base.get? b=some o):b∉X.fs:=fun hb=>by
  have:=(ok.funs.mem hb).1
  rw [e] at this;cases this
theorem Inv.bs (I:Inv X pins σ H s):∀b o,X.base.get? b=some o→s.heap.get? b=some o∧H b=none:=fun b o e=>
  ⟨I.base.keep b o (I.ok.bs b o e).1 (I.ok.bs b o e).2 (I.ok.nofr e) (I.ok.noex b o e),I.base.free b o (I.ok.bs b o e).1 (I.ok.bs b o e).2 (I.ok.noex b o e)⟩
theorem Inv.bk (I:Inv X pins σ H s):∀b o,X.base.get? b=some o→s.heap.get? b=some o:=fun b o e=>(I.bs b o e).1
theorem Inv.mod (I:Inv X pins σ H s):Mod X.K X.mg X.base:=I.ok.mod
theorem Inv.kIn (I:Inv X pins σ H s):X.K.In s.heap:=I.ok.mod.kin.keeps I.bk
theorem Inv.lt (I:Inv X pins σ H s):X.env.locals<s.heap.objs.size:=let ⟨_,hn,_⟩:=I.loc;hn.lt
theorem Inv.sz (I:Inv X pins σ H s):X.s₀.heap.objs.size≤s.heap.objs.size:=Nat.le_trans I.ok.above (Nat.le_of_lt I.lt)
theorem Inv.nofs (I:Inv X pins σ H s) {a:Addr} (h:s.heap.objs.size≤a):a∉X.fs:=fun hb=>by
  obtain ⟨_,o,ho,_⟩:=I.ok.funs.mem hb
  exact absurd (Nat.lt_of_lt_of_le (Heap.lt_size ho) (Nat.le_trans I.sz h)) (Nat.lt_irrefl _)
theorem Inv.cne (I:Inv X pins σ H s):∀x c,X.env.cells.lookup x=some c→c≠X.env.locals:=fun x c e z=>by
  obtain ⟨v,o,ho,hd⟩:=I.cell x c e
  obtain ⟨m,⟨o',es,ep,ho',hd',_⟩,_⟩:=I.loc
  rw [z,ho'] at ho;cases ho;rw [hd'] at hd;cases hd
theorem Inv.funs (I:Inv X pins σ H s):s.heap.FunFrames X.base X.outer:=by
  have all:∀(l:List Env),(∀b∈frs l,b∈X.fs)→X.s₀.heap.FunFrames X.base l→s.heap.FunFrames X.base l:=by
    intro l
    induction l with
    | nil=>intro _ _;trivial
    | cons env r ih=>
      intro hs hl
      obtain ⟨hk,⟨L,o,hf,hn,ho,hd⟩,hr⟩:=hl
      have hL:L∈X.fs:=hs L (by unfold frs;rw [List.filterMap_cons,hf];exact List.mem_cons_self)
      obtain ⟨sl,e⟩:=I.base.slot L o ho (I.ok.frf L hL) hL fun z=>I.ok.exfs L z hL
      exact ⟨hk,⟨L,_,hf,hn,e,hd⟩,ih (fun b hb=>hs b (by unfold frs;rw [List.filterMap_cons,hf];exact List.mem_cons_of_mem _ hb)) hr⟩
  exact all X.outer (fun _ hb=>hb) I.ok.funs
theorem Inv.stack (I:Inv X pins σ H s):s.heap.FunFrames X.base X.stack:=by
  rcases I.ok.stk with e | ⟨e,hf⟩
  · rw [e];exact I.funs
  · rw [e]
    obtain ⟨m,hn,_⟩:=I.loc
    refine .cons (by rw [I.ok.kind];decide) hf hn ?_ I.funs
    exact Heap.get?_none_of_le (Nat.le_trans I.ok.bsz I.ok.above)
theorem Inv.stkSub (I:Inv X pins σ H s):∀b∈frs X.stack,b∈X.env.locals :: X.fs:=fun b hb=>by
  rcases I.ok.stk with e | ⟨e,hf⟩
  · rw [e] at hb;exact List.mem_cons_of_mem _ hb
  · rw [e] at hb
    unfold frs at hb
    rw [List.filterMap_cons,hf] at hb
    exact hb
theorem Inv.stkFree (I:Inv X pins σ H s):∀b∈frs X.stack,H b=none:=fun b hb=>by
  rcases List.mem_cons.mp (I.stkSub b hb) with e | hb
  · rw [e];exact I.free
  · obtain ⟨_,o,ho,_⟩:=I.ok.funs.mem hb
    exact I.base.free b o ho (I.ok.frf b hb) fun z=>I.ok.exfs b z hb
theorem Inv.step {g':Array GenState}{t':Nat}{d':Drawn}{ch:List Addr} (I:Inv X pins σ H s)
    (hch:∀b∈ch,(b∈X.ex∨X.s₀.heap.objs.size≤b)∧b≠X.env.locals∧(∀x c,X.env.cells.lookup x=some c→c≠b)∧∀p∈X.pn++pins,p.1≠b)
    (keep:∀b o,b≠X.env.locals→b∉X.fs→b∉ch→s.heap.get? b=some o→H b=none→h'.get? b=some o)
    (slot:∀b o,b≠X.env.locals→b∈X.fs→b∉ch→s.heap.get? b=some o→H b=none→∃sl,h'.get? b=some { o with slots:=sl }) (free:∀b o,b∉ch→s.heap.get? b=some o→H b=none→H' b=none)
    (there:∀b o,b∉ch→s.heap.get? b=some o→∃o',h'.get? b=some o')
    (tups:∀b xs,H b=some (.tup xs)→H' b=some (.tup xs)) (frzs:∀b o u,H b=some (.frz o u)→H' b=some (.frz o u)) (tbls:∀b ps,H b=some (.tbl ps)→∃more,H' b=some (.tbl (ps++more)))
    (ns:∀m,s.heap.Ns X.env.locals m→h'.Ns X.env.locals m) (hok:HOk X.prog X.w H' h') (hg:AllBare g') :
    Inv X pins σ H' { s with heap:=h',gens:=g',drawn:=d',toks:=t' }:=by
  have neL:∀b o,X.s₀.heap.get? b=some o→b≠X.env.locals:=fun b o e=>Nat.ne_of_lt (Nat.lt_of_lt_of_le (Heap.lt_size e) I.ok.above)
  have neC:∀b o,X.s₀.heap.get? b=some o→b∉X.ex→b∉ch:=fun b o e hx hb=>by
    rcases (hch b hb).1 with z | z
    · exact hx z
    · exact absurd (Nat.lt_of_lt_of_le (Heap.lt_size e) z) (Nat.lt_irrefl _)
  have cellK:∀x c,X.env.cells.lookup x=some c→∀v,s.heap.IsCell c v→h'.IsCell c v:=fun x c e v ⟨o,ho,hd⟩=>by
    have nch:c∉ch:=fun z=>(hch c z).2.2.1 x c e rfl
    by_cases hc:c∈X.fs
    · obtain ⟨sl,q⟩:=slot c o (I.cne x c e) hc nch ho (I.freeC x c e)
      exact ⟨_,q,hd⟩
    · exact ⟨o,keep c o (I.cne x c e) hc nch ho (I.freeC x c e),hd⟩
  refine ⟨I.ok,I.os,hg,⟨fun b o e n hb hx=>?_,fun b o e n hb hx=>?_,fun b o e n hx=>?_,fun b o e hx=>?_,fun b xs e=>tups b xs (I.base.tups b xs e),fun b o xs e=>frzs b o xs (I.base.frzs b o xs e),fun b ps e=>?_⟩,?_,fun x c e=>?_,?_,fun x c e=>?_,fun p hp=>?_,hok,I.len⟩
  · exact keep b o (neL b o e) hb (neC b o e hx) (I.base.keep b o e n hb hx) (I.base.free b o e n hx)
  · obtain ⟨sl,e1⟩:=I.base.slot b o e n hb hx
    obtain ⟨sl',e2⟩:=slot b _ (neL b o e) hb (neC b o e hx) e1 (I.base.free b o e n hx)
    exact ⟨sl',e2⟩
  · obtain ⟨o',e1⟩:=I.base.there b o e hx
    exact free b o' (neC b o e hx) e1 (I.base.free b o e n hx)
  · obtain ⟨o',e1⟩:=I.base.there b o e hx
    exact there b o' (neC b o e hx) e1
  · obtain ⟨m1,e1⟩:=I.base.tbls b ps e
    obtain ⟨m2,e2⟩:=tbls b _ e1
    exact ⟨m1++m2,by rw [e2,Array.append_assoc]⟩
  · obtain ⟨m,hn,hl⟩:=I.loc
    refine ⟨m,ns m hn,fun i x v e1 e2 e3=>?_⟩
    obtain ⟨u,r,l⟩:=hl i x v e1 e2 e3
    refine ⟨u,r,?_⟩
    rcases l with l | ⟨k,c,e,z⟩
    · exact .inl l
    · exact .inr ⟨k,c,e,cellK x c e _ z⟩
  · obtain ⟨v,z⟩:=I.cell x c e
    exact ⟨v,cellK x c e v z⟩
  · obtain ⟨m,⟨o,_,_,ho,_⟩,_⟩:=I.loc
    exact free _ o (fun z=>(hch _ z).2.1 rfl) ho I.free
  · obtain ⟨v,o,ho,hd⟩:=I.cell x c e
    exact free c o (fun z=>(hch c z).2.2.1 x c e rfl) ho (I.freeC x c e)
  · obtain ⟨e,n,ne,nf,d⟩:=I.pin p hp
    have nch:p.1∉ch:=fun z=>(hch p.1 z).2.2.2 p hp rfl
    exact ⟨keep p.1 p.2 ne nf nch e n,free p.1 p.2 nch e n,ne,nf,d⟩
theorem Inv.un {t':Nat} (I:Inv X pins σ H s) (u:Un X.fs [] H H' s.heap h') (hok:HOk X.prog X.w H' h'):Inv X pins σ H' { s with heap:=h',toks:=t' }:=by
  obtain ⟨m,⟨o,es,ep,ho,r⟩,_⟩:=id I.loc
  obtain ⟨sl,hL⟩:=u.any ho I.free (by simp)
  exact I.step (g':=s.gens) (d':=s.drawn) (ch:=[]) (fun _ z=>nomatch z) (fun b o _ hb _ e n=>u.keep b o e n hb (by simp)) (fun b o _ hb _ e n=>u.slot b o e n hb (by simp)) (fun b o _ e n=>u.free b o e n (by simp)) (fun b o _ e=>u.there b o e (by simp)) u.tups u.frzs u.tbls (fun m' hm=>by
    obtain ⟨o',es',ep',ho',r'⟩:=hm
    rw [ho] at ho';cases ho'
    exact ⟨_,es',ep',hL,r'⟩) hok I.bare
theorem Inv.call {g':Array GenState}{t':Nat}{d':Drawn}{ch:List Addr} (I:Inv X pins σ H s) (u:Un (frs X.stack) ch H H' s.heap h') (hok:HOk X.prog X.w H' h') (hg:AllBare g')
    (hch:∀b∈ch,(b∈X.ex∨X.s₀.heap.objs.size≤b)∧b≠X.env.locals∧(∀x c,X.env.cells.lookup x=some c→c≠b)∧∀p∈X.pn++pins,p.1≠b) :
    Inv X pins σ H' { s with heap:=h',gens:=g',drawn:=d',toks:=t' }:=by
  obtain ⟨m,⟨o,es,ep,ho,r⟩,_⟩:=id I.loc
  obtain ⟨sl,hL⟩:=u.any ho I.free fun z=>(hch _ z).2.1 rfl
  exact I.step (ch:=ch) hch (fun b o hL hb hc e n=>u.keep b o e n (fun z=>(List.mem_cons.mp (I.stkSub b z)).elim hL hb) hc) (fun b o _ _ hc e n=>u.any e n hc) (fun b o hc e n=>u.free b o e n hc) (fun b o hc e=>u.there b o e hc) u.tups u.frzs u.tbls (fun m' hm=>by
    obtain ⟨o',es',ep',ho',r'⟩:=hm
    rw [ho] at ho';cases ho'
    exact ⟨_,es',ep',hL,r'⟩) hok hg
theorem Inv.turned {t':Nat}{it:Addr} (I:Inv X pins σ H s) (k:∀b o,b≠it→s.heap.get? b=some o→h'.get? b=some o) (hn:H it=none) (hL:it≠X.env.locals)
    (h1:it∈X.ex∨X.s₀.heap.objs.size≤it) (h2:∀x c,X.env.cells.lookup x=some c→c≠it) (h3:∀p∈X.pn++pins,p.1≠it):Inv X pins σ H { s with heap:=h',toks:=t' }:=by
  have nit:∀b u,H b=some u→b≠it:=fun b u e z=>by rw [z,hn] at e;cases e
  refine I.step (g':=s.gens) (d':=s.drawn) (ch:=[it]) (fun b hb=>?_) (fun b o _ _ hc e _=>k b o (fun z=>hc (by simp [z])) e) (fun b o _ _ hc e _=>⟨o.slots,k b o (fun z=>hc (by simp [z])) e⟩) (fun _ _ _ _ n=>n)
    (fun b o hc e=>⟨o,k b o (fun z=>hc (by simp [z])) e⟩) (fun _ _ e=>e) (fun _ _ _ e=>e) (fun b ps e=>⟨#[],by rw [e];simp⟩) (fun m hm=>?_) (fun b u e=>?_) I.bare
  · have e:b=it:=by simpa using hb
    subst e
    exact ⟨h1,hL,h2,h3⟩
  · obtain ⟨o,es,ep,ho,r⟩:=hm
    exact ⟨o,es,ep,k _ o (Ne.symm hL) ho,r⟩
  · refine (I.hok b u e).stay (fun c v hc q=>k c v ?_ q) (fun _ q=>q) fun _ _ q=>q
    rcases hc with z | z
    · rw [z];exact nit b u e
    · exact nit c _ z
theorem Inv.tok (I:Inv X pins σ H s) (t:Nat):Inv X pins σ H { s with toks:=t }:=I.un (h':=s.heap) (t':=t) Un.refl I.hok
theorem Inv.kept {t':Nat} (I:Inv X pins σ H s) (k:∀b u,s.heap.get? b=some u→h'.get? b=some u):Inv X pins σ H { s with heap:=h',toks:=t' }:=I.un (Un.kept k) (I.hok.kept k)
theorem Inv.laid {a:Addr}{o:HO}{t':Nat} (I:Inv X pins σ H s) (k:∀b u,s.heap.get? b=some u→h'.get? b=some u) (hp:s.heap.objs.size≤a) (new:ObjOk X.prog X.w (upd H a o) h' a o) :
    Inv X pins σ (upd H a o) { s with heap:=h',toks:=t' }:=I.un (Un.laid k hp (I.hok.fresh hp)) (I.hok.laid k hp new)
theorem Inv.write {x e:Addr}{o:HO}{t':Nat} (I:Inv X pins σ H s) (mu:Mut (H x)) (he:e=x∨H e=some (.own x)) (k:∀b u,b≠e→s.heap.get? b=some u→h'.get? b=some u) (heo:∃u,h'.get? e=some u)
    (new:ObjOk X.prog X.w (upd H x o) h' x o):Inv X pins σ (upd H x o) { s with heap:=h',toks:=t' }:=I.un (Un.write mu he k heo) (I.hok.write mu he k heo new)
theorem Inv.weak {σ':List (Option V)} (I:Inv X pins σ H s) (hl:σ'.length=σ.length) (w:∀(i:Nat) v,σ'[i]?=some (some v)→σ[i]?=some (some v)):Inv X pins σ' H s:=
  ⟨I.ok,I.os,I.bare,I.base,let ⟨m,hn,hl'⟩:=I.loc;⟨m,hn,fun i x v e1 e2 e3=>hl' i x v e1 (w i v e2) e3⟩,I.cell,I.free,I.freeC,I.pin,I.hok,hl.trans I.len⟩
theorem Inv.pins_of {pins':List (Addr×Obj)} (I:Inv X pins σ H s) (h:∀p∈pins',s.heap.get? p.1=some p.2∧H p.1=none∧p.1≠X.env.locals∧p.1∉X.fs∧∀v,p.2.data≠.cell v):Inv X pins' σ H s:=
  ⟨I.ok,I.os,I.bare,I.base,I.loc,I.cell,I.free,I.freeC,fun p hp=>(List.mem_append.mp hp).elim (fun z=>I.pin p (List.mem_append_left _ z)) (h p),I.hok,I.len⟩
theorem nodup_ix {N:List Str} (hN:N.Nodup) {i j:Nat}{x:Str} (a:N[i]?=some x) (b:N[j]?=some x):i=j:=by
  obtain ⟨h1,e1⟩:=List.getElem?_eq_some_iff.mp a
  obtain ⟨h2,e2⟩:=List.getElem?_eq_some_iff.mp b
  exact (List.getElem_inj hN).mp (e1.trans e2.symm)
theorem store_ok2 {M:Model}{A:Around}{E:Value→Shared→Prop}{i:Nat}{x:Str}{v:V}{u:Value}{Q:Unit→Shared→Prop} (I:Inv X pins σ H s) (hN:X.N.Nodup) (hi:X.N[i]?=some x) (hx:Loc X.env.scope x) (r:RelV v u)
    (h:∀s',Inv X pins (σ.set i (some v)) H s'→(∃a,Heap.SameBut a s.heap s'.heap∧(a=X.env.locals∨X.env.cells.lookup x=some a))→Q () s') (hf:X.fn x=true∨X.env.scope.names.lookup x=some .local:=by first | exact .inl rfl | exact .inr rfl | assumption):wpAny M A (storeName X.env x u) Q E s:=by
  obtain ⟨m,hn,hl⟩:=id I.loc
  have hcls:(X.env.scope.kind==.class || (X.env.scope.kind==.module && X.env.locals != X.env.globals))=false:=by rw [I.ok.kind];rfl
  have hiσ:i<σ.length:=by rw [I.len];exact (List.getElem?_eq_some_iff.mp hi).1
  have cne:=I.cne
  have tracked:∀{a:Addr}{h':Heap},(∃o,s.heap.get? a=some o∧H a=none)→Heap.SameBut a s.heap h'→HOk X.prog X.w H h':=fun {a h'} ha hs b ob e=>by
    obtain ⟨_,_,hfree⟩:=ha
    refine (I.hok b ob e).stay (fun c w' hc q=>(hs.2 c ?_).trans q) (fun _ q=>q) fun _ _ q=>q
    rintro rfl
    rcases hc with rfl | hc
    · rw [hfree] at e;cases e
    · rw [hfree] at hc;cases hc
  rcases hx with hk | hk
  · refine wpAny_storeName_local hk hn (fun h' hn' hs=>?_) hcls
    obtain ⟨oL,_,_,hoL,_⟩:=id hn
    refine h _ ⟨I.ok,I.os,I.bare,⟨fun b o e n hb hx=>?_,fun b o e n hb hx=>?_,I.base.free,fun b o e hx=>?_,I.base.tups,I.base.frzs,I.base.tbls⟩,⟨_,hn',fun j y v' e1 e2 e3=>?_⟩,fun y c e=>?_,I.free,I.freeC,fun p hp=>?_,tracked ⟨oL,hoL,I.free⟩ hs,by simpa using I.len⟩ ⟨_,hs,.inl rfl⟩
    · exact (hs.2 b (Nat.ne_of_lt (Nat.lt_of_lt_of_le (Heap.lt_size e) I.ok.above))).trans (I.base.keep b o e n hb hx)
    · obtain ⟨sl,e1⟩:=I.base.slot b o e n hb hx
      exact ⟨sl,(hs.2 b (Nat.ne_of_lt (Nat.lt_of_lt_of_le (Heap.lt_size e) I.ok.above))).trans e1⟩
    · obtain ⟨o',e1⟩:=I.base.there b o e hx
      exact ⟨o',(hs.2 b (Nat.ne_of_lt (Nat.lt_of_lt_of_le (Heap.lt_size e) I.ok.above))).trans e1⟩
    · by_cases hj:j=i
      · subst hj
        rw [hi] at e1;cases e1
        rw [List.getElem?_set_self hiσ] at e2
        cases e2
        exact ⟨u,r,.inl ⟨hk,by simp⟩⟩
      · rw [List.getElem?_set_ne (Ne.symm hj)] at e2
        obtain ⟨u',r',q⟩:=hl j y v' e1 e2 e3
        refine ⟨u',r',?_⟩
        rcases q with ⟨k,e⟩ | ⟨k,c,e,z⟩
        · refine .inl ⟨k,?_⟩
          have:y≠x:=fun e=>hj (nodup_ix hN e1 (e▸hi))
          simp [this,e]
        · exact .inr ⟨k,c,e,z.sameBut hs (cne y c e)⟩
    · obtain ⟨w',z⟩:=I.cell y c e
      exact ⟨w',z.sameBut hs (cne y c e)⟩
    · obtain ⟨e,n,ne,nf,d⟩:=I.pin p hp
      exact ⟨(hs.2 p.1 ne).trans e,n,ne,nf,d⟩
  · have hfn:X.fn x=true:=by
      rcases hf with z | z
      · exact z
      · rw [z] at hk;cases hk
    obtain ⟨c,hc⟩:=I.ok.has x (.inl hk)
    obtain ⟨w',z⟩:=I.cell x c hc
    refine wpAny_storeName_cell I.ok.kind hk hc z (fun h' hc' hs=>?_)
    obtain ⟨oc,hoc,hocd⟩:=id z
    refine h { s with heap:=h' } ⟨I.ok,I.os,I.bare,⟨fun b o e n hb hx=>?_,fun b o e n hb hx=>?_,I.base.free,fun b o e hx=>?_,I.base.tups,I.base.frzs,I.base.tbls⟩,⟨m,hn.sameBut hs (Ne.symm (cne x c hc)),fun j y v' e1 e2 e3=>?_⟩,fun y c' e=>?_,I.free,I.freeC,fun p hp=>?_,tracked ⟨oc,hoc,I.freeC x c hc⟩ hs,by simpa using I.len⟩ ⟨c,hs,.inr hc⟩
    · exact (hs.2 b (Nat.ne_of_lt (Nat.lt_of_lt_of_le (Heap.lt_size e) (I.ok.cab x c hfn hc)))).trans (I.base.keep b o e n hb hx)
    · obtain ⟨sl,e1⟩:=I.base.slot b o e n hb hx
      exact ⟨sl,(hs.2 b (Nat.ne_of_lt (Nat.lt_of_lt_of_le (Heap.lt_size e) (I.ok.cab x c hfn hc)))).trans e1⟩
    · obtain ⟨o',e1⟩:=I.base.there b o e hx
      exact ⟨o',(hs.2 b (Nat.ne_of_lt (Nat.lt_of_lt_of_le (Heap.lt_size e) (I.ok.cab x c hfn hc)))).trans e1⟩
    · by_cases hj:j=i
      · subst hj
        rw [hi] at e1;cases e1
        rw [List.getElem?_set_self hiσ] at e2
        cases e2
        exact ⟨u,r,.inr ⟨.inl hk,c,hc,hc'⟩⟩
      · rw [List.getElem?_set_ne (Ne.symm hj)] at e2
        obtain ⟨u',r',q⟩:=hl j y v' e1 e2 e3
        refine ⟨u',r',?_⟩
        rcases q with q | ⟨k,c',e,z'⟩
        · exact .inl q
        · refine .inr ⟨k,c',e,z'.sameBut hs ?_⟩
          rintro rfl
          exact hj (nodup_ix hN e1 (I.ok.inj _ _ _ e hc▸hi))
    · by_cases hcc:c'=c
      · subst hcc;exact ⟨_,hc'⟩
      · obtain ⟨w2,z2⟩:=I.cell y c' e
        exact ⟨w2,z2.sameBut hs hcc⟩
    · obtain ⟨e,n,ne,nf,d⟩:=I.pin p hp
      refine ⟨(hs.2 p.1 ?_).trans e,n,ne,nf,d⟩
      intro q
      rw [q,hoc] at e
      have q':oc=p.2:=Option.some.inj e
      exact d w' (by rw [←q'];exact hocd)
theorem store_ok {M:Model}{A:Around}{E:Value→Shared→Prop}{i:Nat}{x:Str}{v:V}{u:Value}{Q:Unit→Shared→Prop} (I:Inv X pins σ H s) (hN:X.N.Nodup) (hi:X.N[i]?=some x) (hx:Loc X.env.scope x) (r:RelV v u)
    (h:∀s',Inv X pins (σ.set i (some v)) H s'→Q () s') (hf:X.fn x=true∨X.env.scope.names.lookup x=some .local:=by first | exact .inl rfl | exact .inr rfl | assumption):wpAny M A (storeName X.env x u) Q E s:=
  store_ok2 I hN hi hx r (fun s' I' _=>h s' I') hf
theorem Inv.call' {s':Shared}{ch:List Addr} (I:Inv X pins σ H s) (ho:s'.os=s.os) (u:Un (frs X.stack) ch H H' s.heap s'.heap) (hok:HOk X.prog X.w H' s'.heap) (hg:AllBare s'.gens)
    (hch:∀b∈ch,(b∈X.ex∨X.s₀.heap.objs.size≤b)∧b≠X.env.locals∧(∀x c,X.env.cells.lookup x=some c→c≠b)∧∀p∈X.pn++pins,p.1≠b):Inv X pins σ H' s':=by
  obtain ⟨h',g',d',t',o'⟩:=s'
  have e:o'=s.os:=ho
  subst e
  exact I.call (g':=g') (t':=t') (d':=d') u hok hg hch
end
abbrev XK:=Value→Option Addr→Hp→Prop
abbrev St:=List (Option V)
abbrev VK:=V→Hp→Prop
abbrev TE:=St→Hp→VK→Prop
abbrev TT:=St→Hp→(Bool→Hp→Prop)→Prop
abbrev TA:=St→Hp→(List V→Hp→Prop)→Prop
structure Ends where
  nx:St→Hp→Prop
  rt:VK
  bk:St→Hp→Prop:=fun _ _=>False
  ct:St→Hp→Prop:=fun _ _=>False
abbrev TS:=Ends→St→Hp→Prop
def EP (X:Cx) (pins:List (Addr×Obj)) (σ:St) (Q:VK) (u:Value) (s':Shared):Prop:=Ex2 fun v H'=>Inv X pins σ H' s'∧RelV v u∧Q v H'
def TP (X:Cx) (pins:List (Addr×Obj)) (σ:St) (Q:Bool→Hp→Prop) (b:Bool) (s':Shared):Prop:=∃H',Inv X pins σ H' s'∧Q b H'
def AP (X:Cx) (pins:List (Addr×Obj)) (σ:St) (Q:List V→Hp→Prop) (us:List Value) (s':Shared):Prop:=Ex2 fun vs H'=>Inv X pins σ H' s'∧Vals vs us∧Q vs H'
def SP (X:Cx) (pins:List (Addr×Obj)) (D:Ends) (f:Flow) (s':Shared):Prop:=
  match f with
  | .next=>∃σ' H',Inv X pins σ' H' s'∧D.nx σ' H'
  | .brk=>∃σ' H',Inv X pins σ' H' s'∧D.bk σ' H'
  | .cont=>∃σ' H',Inv X pins σ' H' s'∧D.ct σ' H'
  | .ret u=>∃v σ' H',Inv X pins σ' H' s'∧RelV v u∧D.rt v H'
def PE (X:Cx) (e:Expr) (t:TE):Prop:=
  ∀(pins:List (Addr×Obj)) (s:Shared) (σ:St) (H:Hp) (Q:VK),Inv X pins σ H s→t σ H Q→wpAny (model X.prog X.w) X.A (eval e X.env) (EP X pins σ Q) X.xe s
def PT (X:Cx) (e:Expr) (t:TT):Prop:=
  ∀(pins:List (Addr×Obj)) (s:Shared) (σ:St) (H:Hp) (Q:Bool→Hp→Prop),Inv X pins σ H s→t σ H Q→wpAny (model X.prog X.w) X.A (isTrue e X.env (eval e X.env)) (TP X pins σ Q) X.xe s
def PW (X:Cx) (e:Expr) (t:TT):Prop:=
  ∀(whole:Sem Value) (pins:List (Addr×Obj)) (s:Shared) (σ:St) (H:Hp) (Q:Bool→Hp→Prop),Inv X pins σ H s→t σ H Q→wpAny (model X.prog X.w) X.A (isTrue e X.env whole) (TP X pins σ Q) X.xe s
theorem PW.pt {X:Cx}{e:Expr}{t:TT} (h:PW X e t):PT X e t:=h _
def PA (X:Cx) (es:List Expr) (t:TA):Prop:=
  ∀(pos:Pos) (pins:List (Addr×Obj)) (s:Shared) (σ:St) (H:Hp) (Q:List V→Hp→Prop),Inv X pins σ H s→t σ H Q→wpAny (model X.prog X.w) X.A (spliced (backTo pos (starEach es X.env))) (AP X pins σ Q) X.xe s
def PS (X:Cx) (st:Stmt) (t:TS):Prop:=
  ∀(pins:List (Addr×Obj)) (s:Shared) (σ:St) (H:Hp) (D:Ends),Inv X pins σ H s→t D σ H→wpAny (model X.prog X.w) X.A (exec st X.env) (SP X pins D) X.xe s
def PSs (X:Cx) (st:List Stmt) (t:TS):Prop:=
  ∀(pins:List (Addr×Obj)) (s:Shared) (σ:St) (H:Hp) (D:Ends),Inv X pins σ H s→t D σ H→wpAny (model X.prog X.w) X.A (execs st X.env) (SP X pins D) X.xe s
theorem thn {α:Type}{t:Sem α}{Q Q':α→Shared→Prop}{M:Model}{A:Around}{E:Value→Shared→Prop}{s:Shared} (h:wpAny M A t Q E s) (hQ:∀a s,Q a s→Q' a s):wpAny M A t Q' E s:=wpAny_mono h hQ fun _ _ x=>x
end L2
namespace L2
open PySem PySem.Spec PyProof.Rows
section
variable {X:Cx}
inductive tVar_ (i:Nat) (σ:St) (H:Hp) (Q:VK):Prop
  | mk (v:_) (h0:σ[i]?=some (some v)) (h1:Q v H)
def tVar (i:Nat):TE:=fun σ H Q=>tVar_ i σ H Q
def tC (v:V):TE:=fun _ H Q=>Q v H
theorem pe_var {i:Nat}{x:Str}{pos:Pos} (hN:X.N[i]?=some x) (hv:Vis X.env.scope x) (hd:(x==("__debug__" : Str))=false:=by decide) (hcd:(x==("__classdict__" : Str))=false:=by decide):PE X (.Name x pos) (tVar i):=by
  intro pins s σ H Q I h
  obtain ⟨v,e,h⟩:=h
  obtain ⟨m,hn,hl⟩:=I.loc
  obtain ⟨u,r,l⟩:=hl i x v hN e hv
  have fin:EP X pins σ Q u s:=⟨v,H,I,r,h⟩
  rcases l with ⟨hk,hm⟩ | ⟨hk,c,hc,hcell⟩
  · exact wpAny_Name (wpAny_loadName_local I.ok.kind hk hn hm fin) hd
  · rcases hk with hk | hk
    · exact wpAny_Name (wpAny_loadName_cell I.ok.kind hk hc hcell fin) hd
    · exact wpAny_Name (wpAny_loadName_free I.ok.kind hk hc hcell fin hcd) hd
theorem pe_int {i j pos}:PE X (.Constant (.int i) j pos) (tC (.int i)):=fun _ _ _ H _ I h=>wpAny_Constant_int ⟨.int i,H,I.tok _,⟨_,rfl⟩,h⟩
theorem pe_bl {b j pos}:PE X (.Constant (.bool b) j pos) (tC (.bl b)):=fun _ _ _ H _ I h=>Constant_bool ⟨.bl b,H,I,rfl,h⟩
theorem pe_non {j pos}:PE X (.Constant .none j pos) (tC .non):=fun _ _ _ H _ I h=>Constant_none ⟨.non,H,I,rfl,h⟩
theorem pe_str {x j pos}:PE X (.Constant (.str x) j pos) (tC (.str x)):=fun _ _ _ H _ I h=>Calls.Constant_str ⟨.str x,H,I.tok _,⟨_,rfl⟩,h⟩
def Gl (X:Cx) (x:Str):Prop:=X.env.kindOf x=some .globalImplicit
theorem ld_glob {E:Value→Shared→Prop}{pins:List (Addr×Obj)}{s:Shared}{σ:St}{H:Hp}{x:Str}{u:Value}{pos:Pos}{Q:Value→Shared→Prop} (I:Inv X pins σ H s) (hg:Gl X x) (hm:X.mg x=some u) (h:Q u s)
    (hd:(x==("__debug__" : Str))=false:=by decide):wpAny (model X.prog X.w) X.A (eval (.Name x pos) X.env) Q E s:=
  Calls.Name_function_global I.ok.kind hg (Calls.loadGlobal_global (by rw [I.ok.glob];exact I.mod.glob.keeps I.bk) hm h) hd
theorem ld_blt {E:Value→Shared→Prop}{pins:List (Addr×Obj)}{s:Shared}{σ:St}{H:Hp}{x:Str}{u:Value}{pos:Pos}{Q:Value→Shared→Prop} (I:Inv X pins σ H s) (hg:Gl X x) (hm:X.mg x=none) (hv:bootBuiltins x=some u) (h:Q u s)
    (hn:x≠"__name__" := by decide) (hd:(x==("__debug__" : Str))=false:=by decide):wpAny (model X.prog X.w) X.A (eval (.Name x pos) X.env) Q E s:=by
  obtain ⟨mb,h1,h2⟩:=I.mod.blt
  exact Calls.Name_function_global I.ok.kind hg (Calls.loadGlobal_builtin (by rw [I.ok.glob];exact I.mod.glob.keeps I.bk) hm (by rw [I.ok.blt];exact h1.keeps I.bk) ((h2 x hn).trans hv) h) hd
theorem pe_bltn {x:Str}{v:V}{u:Value}{pos:Pos} (hg:Gl X x) (hm:X.mg x=none) (hv:bootBuiltins x=some u) (r:RelV v u) (hn:x≠"__name__" := by decide) (hd:(x==("__debug__" : Str))=false:=by decide):PE X (.Name x pos) (tC v):=
  fun _ _ _ H _ I h=>ld_blt I hg hm hv ⟨v,H,I,r,h⟩ hn hd
variable {a b:Expr}{ta tb:TE}{pos:Pos}
inductive IsBl (x:V) (P:Bool→Prop):Prop
  | mk (c:Bool) (e:x=.bl c) (h:P c)
inductive IsIn (x:V) (P:Int→Prop):Prop
  | mk (c:Int) (e:x=.int c) (h:P c)
def tB (t:TE):TT:=fun σ H Q=>t σ H fun x H1=>IsBl x fun c=>Q c H1
theorem pt_val {e:Expr}{t:TE} (h:PE X e t) (he:∀whole,isTrue e X.env whole=(do let v ←whole;standAt e.pos;holding [v] (truthy v)):=by intro _;rfl):PT X e (tB t):=by
  intro pins s σ H Q I hw
  refine isTrue_plain (thn (h pins s σ H _ I hw) fun v s1 ⟨x,H1,I1,r1,q1⟩=>?_) (he _)
  obtain ⟨d,rfl,q⟩:=q1
  cases r1
  exact wpAny_truthy_bool ⟨H1,I1,q⟩
variable {tA tB':TT}{rest:List Expr}
def tAnd (t u:TT):TT:=fun σ H Q=>t σ H fun c H1=>if c=true then u σ H1 Q else Q false H1
def tOr (t u:TT):TT:=fun σ H Q=>t σ H fun c H1=>if c=true then Q true H1 else u σ H1 Q
def tNot (t:TT):TT:=fun σ H Q=>t σ H fun c H1=>Q (!c) H1
theorem pw_and1 (ha:PT X a tA):PW X (.BoolOp .And [a] pos) tA:=by
  intro wh pins s σ H Q I h
  refine isTrue_and (thn (ha pins s σ H Q I h) fun c s1 e=>?_)
  cases c with
  | true=>exact isTrue_and_nil e
  | false=>exact e
theorem pw_or1 (ha:PT X a tA):PW X (.BoolOp .Or [a] pos) tA:=by
  intro wh pins s σ H Q I h
  refine isTrue_or (thn (ha pins s σ H Q I h) fun c s1 e=>?_)
  cases c with
  | false=>exact isTrue_or_nil e
  | true=>exact e
theorem pw_and (ha:PT X a tA) (hb:PW X (.BoolOp .And (b :: rest) pos) tB'):PW X (.BoolOp .And (a :: b :: rest) pos) (tAnd tA tB'):=by
  intro wh pins s σ H Q I h
  refine isTrue_and (thn (ha pins s σ H _ I h) fun c s1 ⟨H1,I1,q1⟩=>?_)
  cases c with
  | true=>exact hb wh pins s1 σ H1 Q I1 q1
  | false=>exact ⟨H1,I1,q1⟩
theorem pw_or (ha:PT X a tA) (hb:PW X (.BoolOp .Or (b :: rest) pos) tB'):PW X (.BoolOp .Or (a :: b :: rest) pos) (tOr tA tB'):=by
  intro wh pins s σ H Q I h
  refine isTrue_or (thn (ha pins s σ H _ I h) fun c s1 ⟨H1,I1,q1⟩=>?_)
  cases c with
  | true=>exact ⟨H1,I1,q1⟩
  | false=>exact hb wh pins s1 σ H1 Q I1 q1
theorem pt_not (ha:PT X a tA):PT X (.UnaryOp .Not a pos) (tNot tA):=by
  intro pins s σ H Q I h
  exact isTrue_not (ha pins s σ H (fun c H1=>Q (!c) H1) I h)
def tNotV (ta:TE):TE:=fun σ H Q=>ta σ H fun x H1=>IsBl x fun c=>Q (.bl (!c)) H1
theorem pe_not (ha:PE X a ta):PE X (.UnaryOp .Not a pos) (tNotV ta):=by
  intro pins s σ H Q I h
  refine UnaryOp_ (thn (ha pins s σ H _ I h) fun v s1 ⟨x,H1,I1,r1,q1⟩=>?_)
  obtain ⟨c,rfl,q1⟩:=q1
  cases r1
  exact not_of (wpAny_truthy_bool ⟨.bl (!c),H1,I1,rfl,q1⟩)
def tIf (t:TT) (ta tb:TE):TE:=fun σ H Q=>t σ H fun c H1=>if c=true then ta σ H1 Q else tb σ H1 Q
theorem pe_ifExp {c:Expr} (hc:PT X c tA) (ha:PE X a ta) (hb:PE X b tb):PE X (.IfExp c a b pos) (tIf tA ta tb):=by
  intro pins s σ H Q I h
  refine wpAny_IfExp (thn (hc pins s σ H _ I h) fun d s1 ⟨H1,I1,q1⟩=>?_)
  cases d with
  | true=>exact ha pins s1 σ H1 Q I1 q1
  | false=>exact hb pins s1 σ H1 Q I1 q1
end
end L2
namespace L2
open PySem PySem.Spec PyProof.Rows
def SqL (K:PySem.W.Frag) (H:Hp) (a:Addr) (xs:List V):Prop:=
  Rd H a (.lst xs)∨
    Ex3 fun (o:Obj) (its:Array Value) (n:Nat)=>K.lookup a=some o∧o.cls=.type "list"∧o.dict=none∧o.data=.seq its n∧its.size≤sizeLine∧Vals xs its.toList
def SqT (K:PySem.W.Frag) (H:Hp) (a:Addr) (xs:List V):Prop:=
  Rd H a (.tup xs)∨
    Ex3 fun (o:Obj) (its:Array Value) (n:Nat)=>K.lookup a=some o∧o.cls=.type "tuple"∧o.data=.seq its n∧its.size≤sizeLine∧Vals xs its.toList
def absV:Value→Option V
  | .none=>some .non
  | .bool b=>some (.bl b)
  | .int i _=>some (.int i)
  | .str x _=>some (.str x)
  | .bytes b _=>some (.byt b)
  | .float b _=>some (.flt b)
  | .ref a=>some (.ref a)
  | .type n=>some (.ty n)
  | _=>none
theorem RelV.abs {x:V}{u:Value} (r:RelV x u):absV u=some x:=by
  cases x with
  | non=>cases r;rfl
  | bl _=>cases r;rfl
  | int _=>obtain ⟨t,rfl⟩:=r;rfl
  | str _=>obtain ⟨t,rfl⟩:=r;rfl
  | byt _=>obtain ⟨t,rfl⟩:=r;rfl
  | flt _=>obtain ⟨t,rfl⟩:=r;rfl
  | ref _=>cases r;rfl
  | ty _=>cases r;rfl
theorem RelV.inj {x y:V}{u:Value} (r:RelV x u) (q:RelV y u):x=y:=Option.some.inj (r.abs.symm.trans q.abs)
theorem Vals.inj:∀{xs ys:List V}{us:List Value},Vals xs us→Vals ys us→xs=ys
  | _,_,_,.nil,.nil=>rfl
  | _,_,_,.cons r t,.cons r' t'=>by rw [r.inj r',Vals.inj t t']
section
variable {X:Cx}{pins:List (Addr×Obj)}{σ:St}{H:Hp}{s:Shared}{a:Addr}{xs ys:List V}
theorem SqL.of {K:PySem.W.Frag} (h:H a=some (.lst xs)):SqL K H a xs:=.inl (.inl h)
theorem SqT.of {K:PySem.W.Frag} (h:H a=some (.tup xs)):SqT K H a xs:=.inl (.inl h)
theorem Inv.list (I:Inv X pins σ H s) (h:SqL X.K H a xs):∃its:List Value,Vals xs its∧PlainL s.heap a its.toArray∧xs.length≤sizeLine:=by
  rcases h with h | ⟨o,its,n,hk,hc,hd,hs,hz,r⟩
  · obtain ⟨z,its,n,r,e⟩:=h.ok I.hok
    exact ⟨its,r,⟨_,n,e,rfl,rfl,rfl⟩,z⟩
  · refine ⟨its.toList,r,⟨o,n,I.kIn a o hk,hc,hd,by simpa using hs⟩,?_⟩
    have e:=r.length
    simp only [Array.length_toList] at e
    trivial
theorem Inv.tuple (I:Inv X pins σ H s) (h:SqT X.K H a xs):∃its:List Value,Vals xs its∧IsTup s.heap a its.toArray∧xs.length≤sizeLine:=by
  rcases h with h | ⟨o,its,n,hk,hc,hs,hz,r⟩
  · obtain ⟨z,its,r,p,_⟩:=h.ok I.hok
    exact ⟨its,r,p,z⟩
  · refine ⟨its.toList,r,⟨o,I.kIn a o hk,hc,n,by simpa using hs⟩,?_⟩
    have e:=r.length
    simp only [Array.length_toList] at e
    trivial
theorem Inv.list_inj (I:Inv X pins σ H s) (h:SqL X.K H a xs) (h':SqL X.K H a ys):xs=ys:=by
  obtain ⟨its,r,⟨o,n,e,_,_,d⟩,_⟩:=I.list h
  obtain ⟨its',r',⟨o',n',e',_,_,d'⟩,_⟩:=I.list h'
  rw [e] at e';cases e'
  rw [d] at d'
  injection d' with d1 _
  have:its=its':=by simpa using congrArg Array.toList d1
  subst this
  exact r.inj r'
theorem Inv.tuple_inj (I:Inv X pins σ H s) (h:SqT X.K H a xs) (h':SqT X.K H a ys):xs=ys:=by
  obtain ⟨its,r,⟨o,e,_,n,d⟩,_⟩:=I.tuple h
  obtain ⟨its',r',⟨o',e',_,n',d'⟩,_⟩:=I.tuple h'
  rw [e] at e';cases e'
  rw [d] at d'
  injection d' with d1 _
  have:its=its':=by simpa using congrArg Array.toList d1
  subst this
  exact r.inj r'
end
abbrev Cx.wish (X:Cx) (E:Value→Shared→Prop):Cx:={ X with xe:=E }
abbrev Cx.nox (X:Cx):Cx:=X.wish fun _ _=>False
theorem Cx.Ok.wish {X:Cx} (ok:X.Ok) (E:Value→Shared→Prop):(X.wish E).Ok:=
  ⟨ok.mod,ok.kind,ok.glob,ok.blt,ok.above,ok.inj,ok.has,ok.cab,ok.hd,ok.frames,ok.stk,ok.exf,ok.bs,ok.bsz,ok.noex,ok.exfs,ok.funs,ok.frf⟩
theorem Cx.Ok.unwish {X:Cx}{E:Value→Shared→Prop} (ok:(X.wish E).Ok):X.Ok:=
  ⟨ok.mod,ok.kind,ok.glob,ok.blt,ok.above,ok.inj,ok.has,ok.cab,ok.hd,ok.frames,ok.stk,ok.exf,ok.bs,ok.bsz,ok.noex,ok.exfs,ok.funs,ok.frf⟩
section
variable {X:Cx}{pins:List (Addr×Obj)}{σ:St}{H:Hp}{s:Shared}{E:Value→Shared→Prop}
theorem Inv.wish (I:Inv X pins σ H s) (E:Value→Shared→Prop):Inv (X.wish E) pins σ H s:=⟨I.ok.wish E,I.os,I.bare,I.base,I.loc,I.cell,I.free,I.freeC,I.pin,I.hok,I.len⟩
theorem Inv.unwish (I:Inv (X.wish E) pins σ H s):Inv X pins σ H s:=⟨I.ok.unwish,I.os,I.bare,I.base,I.loc,I.cell,I.free,I.freeC,I.pin,I.hok,I.len⟩
theorem SP.unwish {D:Ends}{f:Flow}{s':Shared} (h:SP (X.wish E) pins D f s'):SP X pins D f s':=by
  cases f with
  | next=>obtain ⟨σ',H',I,q⟩:=h;exact ⟨σ',H',I.unwish,q⟩
  | brk=>obtain ⟨σ',H',I,q⟩:=h;exact ⟨σ',H',I.unwish,q⟩
  | cont=>obtain ⟨σ',H',I,q⟩:=h;exact ⟨σ',H',I.unwish,q⟩
  | ret u=>obtain ⟨v,σ',H',I,r,q⟩:=h;exact ⟨v,σ',H',I.unwish,r,q⟩
theorem PSs.nox {st:List Stmt}{t:TS} (h:PSs X.nox st t):PSs X st t:=fun pins s σ H D I hw=>
  wpAny_mono (h pins s σ H D (I.wish _) hw) (fun _ _ q=>q.unwish) fun _ _ z=>False.elim z
end
section
variable {X:Cx}{st:Stmt}{rest:List Stmt}{t u:TS}{e:Expr}{te:TE}{pos:Pos}
def tNext:TS:=fun D σ H=>D.nx σ H
def tSeq (t u:TS):TS:=fun D σ H=>t { D with nx:=u D } σ H
theorem pss_nil:PSs X [] tNext:=fun _ _ σ H _ I h=>wpAny_execs_nil ⟨σ,H,I,h⟩
theorem pss_cons (h1:PS X st t) (h2:PSs X rest u):PSs X (st :: rest) (tSeq t u):=by
  intro pins s σ H D I h
  refine wpAny_execs_cons (thn (h1 pins s σ H { D with nx:=u D } I h) fun f s1 q=>?_)
  cases f with
  | next=>
    obtain ⟨σ',H',I',q⟩:=q
    exact h2 pins s1 σ' H' D I' q
  | ret v=>exact q
  | brk=>exact q
  | cont=>exact q
theorem pss_one (h1:PS X st t):PSs X [st] t:=by
  intro pins s σ H D I h
  refine wpAny_execs_cons (thn (h1 pins s σ H D I h) fun f s1 q=>?_)
  cases f with
  | next=>exact wpAny_execs_nil q
  | ret v=>exact q
  | brk=>exact q
  | cont=>exact q
def tCont:TS:=fun D σ H=>D.ct σ H
theorem ps_pass:PS X (.Pass pos) tNext:=fun _ _ σ H _ I h=>wpAny_Pass ⟨σ,H,I,h⟩
theorem ps_continue:PS X (.Continue pos) tCont:=fun _ _ σ H _ I h=>wpAny_Continue ⟨σ,H,I,h⟩
theorem Inv.quiet {pins:List (Addr×Obj)}{σ:St}{H:Hp}{s:Shared} (I:Inv X pins σ H s):interactive X.env=false:=by simp [interactive,I.ok.kind]
def tDrop (te:TE):TS:=fun D σ H=>te σ H fun _ H1=>D.nx σ H1
theorem ps_expr (he:PE X e te) (hs:swapsWith e none pos.line X.env=pure false:=by rfl):PS X (.Expr e pos) (tDrop te):=by
  intro pins s σ H D I h
  exact wpAny_Expr_any (thn (he pins s σ H _ I h) fun v s1 ⟨x,H1,I1,r1,q1⟩=>⟨σ,H1,I1,q1⟩) I.quiet hs
def tRet (te:TE):TS:=fun D σ H=>te σ H D.rt
theorem ps_ret (he:PE X e te):PS X (.Return (some e) pos) (tRet te):=by
  intro pins s σ H D I h
  exact wpAny_Return_some (thn (he pins s σ H _ I h) fun v s1 ⟨x,H1,I1,r1,q1⟩=>⟨x,σ,H1,I1,r1,q1⟩)
def tIfS (c:TT) (t u:TS):TS:=fun D σ H=>c σ H fun b H1=>if b=true then t D σ H1 else u D σ H1
theorem ps_if {c:Expr}{a b:List Stmt}{tc:TT} (hc:PT X c tc) (ha:PSs X a t) (hb:PSs X b u):PS X (.If c a b pos) (tIfS tc t u):=by
  intro pins s σ H D I h
  refine wpAny_If (thn (hc pins s σ H _ I h) fun d s1 ⟨H1,I1,q1⟩=>?_)
  cases d with
  | true=>exact ha pins s1 σ H1 D I1 q1
  | false=>exact hb pins s1 σ H1 D I1 q1
end
abbrev TG:=V→St→Hp→(St→Hp→Prop)→Prop
abbrev TGs:=List V→St→Hp→(St→Hp→Prop)→Prop
def PG (X:Cx) (target:Expr) (t:TG):Prop:=
  ∀(pins:List (Addr×Obj)) (s:Shared) (σ:St) (H:Hp) (v:V) (u:Value) (Q:St→Hp→Prop),Inv X pins σ H s→RelV v u→t v σ H Q→
    wpAny (model X.prog X.w) X.A (assign target X.env u) (fun _ s'=>∃σ' H',Inv X pins σ' H' s'∧Q σ' H') X.xe s
def PGs (X:Cx) (ts:List Expr) (t:TGs):Prop:=
  ∀(pins:List (Addr×Obj)) (s:Shared) (σ:St) (H:Hp) (vs:List V) (us:List Value) (Q:St→Hp→Prop),Inv X pins σ H s→Vals vs us→t vs σ H Q→
    wpAny (model X.prog X.w) X.A (assignInOrder ((assignEach ts X.env).map (·.2)) us) (fun _ s'=>∃σ' H',Inv X pins σ' H' s'∧Q σ' H') X.xe s
abbrev TSet:=V→V→V→Hp→(Hp→Prop)→Prop
def PSet (X:Cx) (t:TSet):Prop:=
  ∀(pins:List (Addr×Obj)) (s:Shared) (σ:St) (H:Hp) (o i v:V) (ov iv u:Value) (Q:Hp→Prop),Inv X pins σ H s→RelV o ov→RelV i iv→RelV v u→t o i v H Q→
    wpAny (model X.prog X.w) X.A (setItem ov iv u) (fun _ s'=>∃H',Inv X pins σ H' s'∧Q H') X.xe s
section
variable {X:Cx}{pos:Pos}
def gName (i:Nat):TG:=fun v σ H Q=>Q (σ.set i (some v)) H
theorem pg_name {i:Nat}{x:Str} (hN:X.N.Nodup) (hi:X.N[i]?=some x) (hx:Loc X.env.scope x) (hf:X.fn x=true∨X.env.scope.names.lookup x=some .local:=by first | exact .inl rfl | exact .inr rfl | assumption):PG X (.Name x pos) (gName i):=by
  intro pins s σ H v u Q I r h
  exact wpAny_assign_Name (store_ok I hN hi hx r (fun s' I'=>⟨_,H,I',h⟩) hf)
def gNil:TGs:=fun vs σ H Q=>vs=[]∧Q σ H
inductive gCons_ (t:TG) (u:TGs) (vs:List V) (σ:St) (H:Hp) (Q:St→Hp→Prop):Prop
  | mk (v:_) (r:_) (h0:vs=v :: r) (h1:t v σ H fun σ' H'=>u r σ' H' Q)
def gCons (t:TG) (u:TGs):TGs:=fun vs σ H Q=>gCons_ t u vs σ H Q
theorem pgs_nil:PGs X [] gNil:=by
  intro pins s σ H vs us Q I r h
  obtain ⟨e,h⟩:=h
  subst e
  cases r
  exact assignInOrder_nil ⟨σ,H,I,h⟩
theorem pgs_cons {e:Expr}{es:List Expr}{t:TG}{u:TGs} (h1:PG X e t) (h2:PGs X es u)
    (hs:(assignEach (e :: es) X.env).map (·.2)=assign e X.env :: (assignEach es X.env).map (·.2):=by rfl):PGs X (e :: es) (gCons t u):=by
  intro pins s σ H vs us Q I r h
  obtain ⟨v,vr,e1,h⟩:=h
  subst e1
  cases r with
  | cons r rr=>
    rw [hs]
    refine assignInOrder_cons (thn (h1 pins s σ H _ _ _ I r h) fun _ s1 ⟨σ1,H1,I1,q1⟩=>?_)
    exact h2 pins s1 σ1 H1 _ _ Q I1 rr q1
inductive gTup_ (K:PySem.W.Frag) (n:Nat) (t:TGs) (v:V) (σ:St) (H:Hp) (Q:St→Hp→Prop):Prop
  | mk (a:_) (xs:_) (h0:v=.ref a) (h1:SqT K H a xs) (h2:xs.length=n) (h3:t xs σ H Q)
def gTup (K:PySem.W.Frag) (n:Nat) (t:TGs):TG:=fun v σ H Q=>gTup_ K n t v σ H Q
theorem pg_tup {es:List Expr}{k:Nat}{t:TGs}{n:Nat} (hc:X.calm=true) (h:PGs X es t)
    (hn:(assignEach es X.env).length=n:=by rfl) (hst:(assignEach es X.env).findIdx? (·.1)=none:=by rfl):PG X (.Tuple es k pos) (gTup X.K n t):=by
  intro pins s σ H v u Q I r hw
  obtain ⟨a,xs,e1,hq,hl,hw⟩:=hw
  subst e1
  cases r
  obtain ⟨its,rv,ht,hz⟩:=I.tuple hq
  refine assign_Tuple_tuple (I.ok.hd hc) ht (by simp [hn,←hl,rv.length]) hst fun h' hx=>?_
  have I1:Inv X pins σ H { s with heap:=h' }:=I.kept (t':=s.toks) fun b o e=>hx b o (Nat.ne_of_lt (Heap.lt_size e)) e
  exact h pins _ σ H xs _ Q I1 (by simpa using rv) hw
def gSub (to ti:TE) (t:TSet):TG:=fun v σ H Q=>to σ H fun o H1=>ti σ H1 fun i H2=>t o i v H2 fun H3=>Q σ H3
theorem pg_sub {o i:Expr}{to ti:TE}{t:TSet} (ho:PE X o to) (hi:PE X i ti) (hs:PSet X t)
    (ha:∀v,assign (.Subscript o i pos) X.env v=(do
      let ov ←holding [v] (eval o X.env)
      let iv ←holding [v,ov] (eval i X.env)
      standAt pos
      holding [v,ov,iv] (setItem ov iv v)
      release [v,ov,iv] []):=by intro _;rfl):PG X (.Subscript o i pos) (gSub to ti t):=by
  intro pins s σ H v u Q I r h
  rw [ha]
  refine wpAny_bind (wpAny_holding (thn (ho pins s σ H _ I h) fun ov s1 ⟨x,H1,I1,r1,q1⟩=>?_))
  refine wpAny_bind (wpAny_holding (thn (hi pins s1 σ H1 _ I1 q1) fun iv s2 ⟨y,H2,I2,r2,q2⟩=>?_))
  refine wpAny_bind (wpAny_standAt (wpAny_bind (wpAny_holding (thn (hs pins s2 σ H2 x y v ov iv u _ I2 r1 r2 r q2) fun _ s3 ⟨H3,I3,q3⟩=>?_))))
  exact wpAny_release ⟨σ,H3,I3,q3⟩
def tAsg (te:TE) (g:TG):TS:=fun D σ H=>te σ H fun x H1=>g x σ H1 D.nx
theorem ps_asg {tg e:Expr}{te:TE}{g:TG} (he:PE X e te) (hg:PG X tg g) (hs:swapsWithSole [tg] e pos.line X.env=pure false:=by rfl) (hw:swappedStores [tg] e X.env=pure none:=by rfl)
    (h1:(assignEach [tg] X.env).map (·.2)=[assign tg X.env]:=by rfl):PS X (.Assign [tg] e pos) (tAsg te g):=by
  intro pins s σ H D I h
  refine wpAny_Assign_stores (thn (he pins s σ H _ I h) fun v s1 ⟨x,H1,I1,r1,q1⟩=>?_) hs hw
  rw [h1]
  exact thn (hg pins s1 σ H1 x v _ I1 r1 q1) fun _ s2 q=>q
theorem ps_set {i:Nat}{x:Str}{e:Expr}{te:TE}{pos':Pos} (hN:X.N.Nodup) (hi:X.N[i]?=some x) (hx:Loc X.env.scope x) (he:PE X e te) (hs:swapsWith e (some (.Name x pos')) pos.line X.env=pure false:=by rfl) (hf:X.fn x=true∨X.env.scope.names.lookup x=some .local:=by first | exact .inl rfl | exact .inr rfl | assumption) :
    PS X (.Assign [.Name x pos'] e pos) (tAsg te (gName i)):=by
  intro pins s σ H D I h
  refine wpAny_Assign_Name (thn (he pins s σ H _ I h) fun v s1 ⟨y,H1,I1,r1,q1⟩=>?_) hs
  exact store_ok I1 hN hi hx r1 (fun s2 I2=>⟨_,H1,I2,q1⟩) hf
def tPar (i j:Nat) (ta:TA):TS:=fun D σ H=>ta σ H fun vs H1=>Ex2 fun v w=>vs=[v,w]∧D.nx ((σ.set i (some v)).set j (some w)) H1
theorem ps_par {i j:Nat}{x y:Str}{a b:Expr}{ta:TA}{px py pt:Pos}{kt k2 pt2} (hc:X.calm=true) (hN:X.N.Nodup) (hi:X.N[i]?=some x) (hj:X.N[j]?=some y) (hij:i≠j)
    (hx:X.env.scope.names.lookup x=some .local) (hy:X.env.scope.names.lookup y=some .local) (ha:PA X [a,b] ta)
    (hw:swappedStores [.Tuple [.Name x px,.Name y py] kt pt] (.Tuple [a,b] k2 pt2) X.env=pure (some [x,y]))
    (hs:swapsWithSole [.Tuple [.Name x px,.Name y py] kt pt] (.Tuple [a,b] k2 pt2) pos.line X.env=pure false:=by rfl) :
    PS X (.Assign [.Tuple [.Name x px,.Name y py] kt pt] (.Tuple [a,b] k2 pt2) pos) (tPar i j ta):=by
  intro pins s σ H D I h
  rw [exec_Assign_arm]
  refine wpAny_bind (wpAny_standAt ?_)
  rw [hs]
  refine wpAny_bind (wpAny_pure ?_)
  rw [if_neg (by decide)]
  refine wpAny_bind (Tuple_ (thn (ha _ pins s σ H _ I h) fun us s1 ⟨vs,H1,I1,r1,q1⟩=>?_))
  obtain ⟨v,w,e1,q1⟩:=q1
  subst e1
  obtain ⟨u1,u2,rfl,rv,rw'⟩:Ex2 fun u1 u2=>us=[u1,u2]∧RelV v u1∧RelV w u2:=by
    cases r1 with
    | cons p q=>
      cases q with
      | cons p' q'=>
        cases q'
        exact ⟨_,_,rfl,p,p'⟩
  refine wpAny_newObj_type ?_ (by show 2≤sizeLine;decide)
  have I2:Inv X pins σ H1 { s1 with heap:=s1.heap.push { cls:=.type "tuple",data:=.seq [u1,u2].toArray } }:=I1.kept (t':=s1.toks) fun b o e=>Heap.get?_push_of_some _ e
  rw [hw]
  refine wpAny_bind (wpAny_pure ?_)
  show wpAny (model X.prog X.w) X.A (do rule "assign.swapped-stores";let items ←unpackItems (.ref s1.heap.objs.size) 2 none;assignInOrder [fun v=>bindName X.env y v,fun v=>bindName X.env x v] items.reverse;pure Flow.next) _ _ _
  refine wpAny_bind (wpAny_rule (wpAny_bind (unpackItems_tuple (items:=#[u1,u2]) (I.ok.hd hc) (IsTup.new s1.heap _) fun h' hx'=>?_)))
  have I3:=I2.kept (h':=h') (t':=s1.toks) fun b o e=>hx' b o (Nat.ne_of_lt (Heap.lt_size e)) e
  show wpAny _ _ (assignInOrder [fun v=>bindName X.env y v,fun v=>bindName X.env x v] [u2,u1] >>= fun _=>pure Flow.next) _ _ _
  refine wpAny_bind (assignInOrder_cons (wpAny_bindName (store_ok I3 hN hj (.inl hy) rw' (fun s2 I4=>?_) (.inr hy))))
  refine assignInOrder_cons (wpAny_bindName (store_ok I4 hN hi (.inl hx) rv (fun s3 I5=>assignInOrder_nil (wpAny_pure ?_)) (.inr hx)))
  rw [List.set_comm _ _ (Ne.symm hij)] at I5
  exact ⟨_,H1,I5,q1⟩
end
section
variable {X:Cx}{pos:Pos}
def tWhile (c:TT) (tb:TS):TS:=fun D σ H=>∃W:Nat→St→Hp→Prop,(∃m,W m σ H)∧∀m σ H,W m σ H→
  c σ H fun b H1=>if b=true then ∃N:St→Hp→Prop,(∀σ' H',N σ' H'→∃m',m'<m∧W m' σ' H')∧tb { D with nx:=N,ct:=N,bk:=D.nx } σ H1 else D.nx σ H1
theorem ps_while {c:Expr}{body:List Stmt}{tc:TT}{tb:TS} (hp:PassesOwn (model X.prog X.w) X.A X.env X.xe) (hc:PT X c tc) (hb:PSs X body tb):PS X (.While c body [] pos) (tWhile tc tb):=by
  intro pins s σ H D I h
  obtain ⟨W,⟨m0,w0⟩,turn⟩:=h
  refine wpAny_While (codeAny_whileLoop (fun n s'=>∃σ' H',Inv X pins σ' H' s'∧W n σ' H') ?_ m0 ⟨σ,H,I,w0⟩)
  rintro n s1 ⟨σ1,H1,I1,w1⟩
  refine wpAny_passesOwn hp (thn (hc pins s1 σ1 H1 _ I1 (turn n σ1 H1 w1)) fun b s2 ⟨H2,I2,q2⟩=>?_)
  cases b with
  | true=>
    obtain ⟨N,hN,q2⟩:=q2
    rw [if_pos rfl]
    refine wpAny_passesOwn hp (thn (hb pins s2 σ1 H2 _ I2 q2) fun f s3 q3=>?_)
    cases f with
    | next=>
      obtain ⟨σ3,H3,I3,n3⟩:=q3
      obtain ⟨m',hm,w3⟩:=hN σ3 H3 n3
      exact ⟨m',hm,σ3,H3,I3,w3⟩
    | cont=>
      obtain ⟨σ3,H3,I3,n3⟩:=q3
      obtain ⟨m',hm,w3⟩:=hN σ3 H3 n3
      exact ⟨m',hm,σ3,H3,I3,w3⟩
    | brk=>exact q3
    | ret v=>exact q3
  | false=>
    rw [if_neg Bool.false_ne_true]
    exact wpAny_execs_nil ⟨σ1,H2,I2,q2⟩
end
structure It where
  go:Nat→Hp→Prop
  yld:Nat→Hp→V→Hp→Prop
  stop:Nat→Hp→Prop
def FpOk (X:Cx) (pins:List (Addr×Obj)) (H:Hp) (b:Addr):Prop:=
  H b=none∧b≠X.env.locals∧b∉X.fs∧(b∈X.ex∨X.s₀.heap.objs.size≤b)∧(∀x c,X.env.cells.lookup x=some c→c≠b)∧∀p∈X.pn++pins,p.1≠b
theorem Inv.fpOk {X:Cx}{pins:List (Addr×Obj)}{σ:St}{H H':Hp}{s:Shared}{b:Addr} (I:Inv X pins σ H s) (hb:s.heap.objs.size≤b) (hn:H' b=none):FpOk X pins H' b:=by
  refine ⟨hn,Nat.ne_of_gt (Nat.lt_of_lt_of_le I.lt hb),I.nofs hb,.inr (Nat.le_trans I.sz hb),fun x c e z=>?_,fun p hp z=>?_⟩
  · obtain ⟨v,q⟩:=I.cell x c e
    exact absurd (Nat.lt_of_lt_of_le q.lt (by rw [z];exact hb)) (Nat.lt_irrefl _)
  · exact absurd (Nat.lt_of_lt_of_le (Heap.lt_size (I.pin p hp).1) (by rw [z];exact hb)) (Nat.lt_irrefl _)
structure Turn (P:Program) (w:World) (K:PySem.W.Frag) (tg:Expr) (J:It) (fp:List Addr) (it:Addr) (tn:Nat→Heap→Prop):Prop where
  mem:it∈fp
  obj:∀i h,tn i h→∀b∈fp,∃o,h.get? b=some o∧∀v,o.data≠.cell v
  keep:∀i h h',tn i h→(∀b∈fp,∀o,h.get? b=some o→h'.get? b=some o)→tn i h'
  item:∀(X:Cx),X.prog=P→X.w=w→X.K=K→X.calm=true→∀(i:Nat) (pins:List (Addr×Obj)) (s:Shared) (σ:St) (H:Hp) (E:Value→Shared→Prop),Inv X pins σ H s→(∀b∈fp,FpOk X pins H b)→tn i s.heap→J.go i H→
    wpAny (model P w) X.A (pyNext (.ref it)) (fun r s1=>∃u,r=some u∧
      wpAny (model P w) X.A (letOwnedTupleGo tg (.ref it) u) (fun _ s2=>Ex2 fun x H'=>Inv X pins σ H' s2∧RelV x u∧J.yld i H x H'∧tn (i+1) s2.heap∧∀b∈fp,H' b=none) E s1) E s
  done:∀(X:Cx),X.prog=P→X.w=w→X.K=K→X.calm=true→∀(i:Nat) (pins:List (Addr×Obj)) (s:Shared) (σ:St) (H:Hp) (E:Value→Shared→Prop),Inv X pins σ H s→(∀b∈fp,FpOk X pins H b)→tn i s.heap→J.stop i H→
    wpAny (model P w) X.A (pyNext (.ref it)) (fun r s1=>r=none∧Inv X pins σ H s1) E s
  self:∀(A:Around) (i:Nat) (s:Shared) (Q:Value→Shared→Prop) (E:Value→Shared→Prop),tn i s.heap→Q (.ref it) s→wpAny (model P w) A (pyIter (.ref it)) Q E s
abbrev TI:=St→Hp→(It→Hp→Prop)→Prop
def PIE (X:Cx) (pins:List (Addr×Obj)) (σ:St) (tg:Expr) (R:It→Hp→Prop) (itv:Value) (s2:Shared):Prop:=
  Ex5 fun (it:Addr) (fp:List Addr) (tn:Nat→Heap→Prop) (J:It) (H':Hp)=>itv=.ref it∧Inv X pins σ H' s2∧Turn X.prog X.w X.K tg J fp it tn∧tn 0 s2.heap∧(∀b∈fp,FpOk X pins H' b)∧R J H'
def PI (X:Cx) (tg iter:Expr) (wi:TI):Prop:=
  ∀(pins:List (Addr×Obj)) (s:Shared) (σ:St) (H:Hp) (R:It→Hp→Prop),Inv X pins σ H s→wi σ H R→
    wpAny (model X.prog X.w) X.A (eval iter X.env) (fun v s1=>wpAny (model X.prog X.w) X.A (pyIter v) (PIE X pins σ tg R) X.xe s1) X.xe s
theorem go_of {M:Model}{A:Around}{E:Value→Shared→Prop}{s:Shared}{tg:Expr}{it:Addr}{u:Value}{o:Obj}{n:String}{vs:Array Value}{Q:Unit→Shared→Prop} (ho:s.heap.get? it=some o) (hc:o.cls=.type n) (hd:o.data=.fields vs)
    (hn:["enumerate", "zip", "dict_itemiterator", "dict_reverseitemiterator", "odict_iterator", "itertools.zip_longest", "itertools.pairwise"].contains n=false) (hQ:Q () s):wpAny M A (letOwnedTupleGo tg (.ref it) u) Q E s:=by
  unfold letOwnedTupleGo
  cases tg <;> first
    | exact wpAny_pure hQ
    | (cases u <;> first
        | exact wpAny_pure hQ
        | (refine wpAny_bind (wpAny_load ho ?_)
           rw [hc,hd]
           show wpAny M A (if (["enumerate", "zip", "dict_itemiterator", "dict_reverseitemiterator", "odict_iterator", "itertools.zip_longest", "itertools.pairwise"].contains n && vs[0]?==some (rawInt _))=true then _ else _) Q E s
           rw [if_neg (by intro h;rw [hn,Bool.false_and] at h;cases h)]
           exact wpAny_pure hQ))
def Itl (K:PySem.W.Frag) (a:Addr):It:=
  ⟨fun i H=>Ex2 fun xs x=>SqL K H a xs∧xs[i]?=some x,fun i H x H'=>H'=H∧∀xs,SqL K H a xs→xs[i]?=some x,fun i H=>∃xs,SqL K H a xs∧xs.length≤i⟩
def Itt (K:PySem.W.Frag) (a:Addr):It:=
  ⟨fun i H=>Ex2 fun xs x=>SqT K H a xs∧xs[i]?=some x,fun i H x H'=>H'=H∧∀xs,SqT K H a xs→xs[i]?=some x,fun i H=>∃xs,SqT K H a xs∧xs.length≤i⟩
def Itr (lo:Int) (n:Nat):It:=⟨fun i _=>i<n,fun i H x H'=>H'=H∧x=.int (lo+i),fun i _=>n≤i⟩
theorem turn_list {P:Program}{w:World}{K:PySem.W.Frag}{tg:Expr} (a it:Addr):Turn P w K tg (Itl K a) [it] it (fun i h=>h.IsListIter it a i) where
  mem:=by simp
  obj:=fun i h st b hb=>by
    have e:b=it:=by simpa using hb
    subst e
    obtain ⟨o,e,c,d⟩:=st
    exact ⟨o,e,fun v z=>by rw [d] at z;cases z⟩
  keep:=fun i h h' st k=>st.at fun o e=>k it (by simp) o e
  item:=by
    intro X hP hw hK hc i pins s σ H E I hf st hg
    subst hP hw hK
    obtain ⟨xs,x,hq,hx⟩:=hg
    obtain ⟨its,rv,p,hz⟩:=I.list hq
    obtain ⟨u,hu,ru⟩:=rv.get hx
    obtain ⟨f0,f1,f2,f3,f4,f5⟩:=hf it (by simp)
    refine wpAny_pyNext_list_item st p.isList (x:=u) (by simpa using hu) fun h' st' sb=>?_
    have I1:Inv X pins σ H { s with heap:=h' }:=I.turned (t':=s.toks) (fun b o hb e=>(sb.2 b hb).trans e) f0 f1 f3 f4 f5
    obtain ⟨o,e,c,d⟩:=id st'
    exact ⟨u,rfl,go_of (s:={ s with heap:=h' }) e c d (by decide) ⟨x,H,I1,ru,⟨rfl,fun ys hy=>by rw [I.list_inj hy hq];exact hx⟩,st',fun b hb=>(hf b hb).1⟩⟩
  done:=by
    intro X hP hw hK hc i pins s σ H E I hf st hg
    subst hP hw hK
    obtain ⟨xs,hq,hx⟩:=hg
    obtain ⟨its,rv,p,hz⟩:=I.list hq
    obtain ⟨f0,f1,f2,f3,f4,f5⟩:=hf it (by simp)
    have hl:=rv.length
    exact wpAny_pyNext_list_end (I.ok.hd hc) st p.isList (by simp;trivial) fun h' eb=>⟨rfl,I.turned (t':=s.toks) (fun b o hb e=>eb b o hb e) f0 f1 f3 f4 f5⟩
  self:=fun _ _ _ _ _ st h=>wpAny_pyIter_listiter st h
theorem turn_tuple {P:Program}{w:World}{K:PySem.W.Frag}{tg:Expr} (a it:Addr):Turn P w K tg (Itt K a) [it] it (fun i h=>h.IsTupleIter it a i) where
  mem:=by simp
  obj:=fun i h st b hb=>by
    have e:b=it:=by simpa using hb
    subst e
    obtain ⟨o,e,c,d⟩:=st
    exact ⟨o,e,fun v z=>by rw [d] at z;cases z⟩
  keep:=fun i h h' st k=>st.at fun o e=>k it (by simp) o e
  item:=by
    intro X hP hw hK hc i pins s σ H E I hf st hg
    subst hP hw hK
    obtain ⟨xs,x,hq,hx⟩:=hg
    obtain ⟨its,rv,p,hz⟩:=I.tuple hq
    obtain ⟨u,hu,ru⟩:=rv.get hx
    obtain ⟨f0,f1,f2,f3,f4,f5⟩:=hf it (by simp)
    refine wpAny_pyNext_tuple_item st (show s.heap.IsTuple a its.toArray from p) (x:=u) (by simpa using hu) fun h' st' sb=>?_
    have I1:Inv X pins σ H { s with heap:=h' }:=I.turned (t':=s.toks) (fun b o hb e=>(sb.2 b hb).trans e) f0 f1 f3 f4 f5
    obtain ⟨o,e,c,d⟩:=id st'
    exact ⟨u,rfl,go_of (s:={ s with heap:=h' }) e c d (by decide) ⟨x,H,I1,ru,⟨rfl,fun ys hy=>by rw [I.tuple_inj hy hq];exact hx⟩,st',fun b hb=>(hf b hb).1⟩⟩
  done:=by
    intro X hP hw hK hc i pins s σ H E I hf st hg
    subst hP hw hK
    obtain ⟨xs,hq,hx⟩:=hg
    obtain ⟨its,rv,p,hz⟩:=I.tuple hq
    obtain ⟨f0,f1,f2,f3,f4,f5⟩:=hf it (by simp)
    have hl:=rv.length
    exact wpAny_pyNext_tuple_end (I.ok.hd hc) st (show s.heap.IsTuple a its.toArray from p) (by simp;trivial) fun h' eb=>⟨rfl,I.turned (t':=s.toks) (fun b o hb e=>eb b o hb e) f0 f1 f3 f4 f5⟩
  self:=fun _ _ _ _ _ st h=>wpAny_pyIter_tupleiter st h
theorem turn_range {P:Program}{w:World}{K:PySem.W.Frag}{tg:Expr} (it:Addr) (lo:Int) (n:Nat):Turn P w K tg (Itr lo n) [it] it (fun i h=>IsRangeIter h it (lo+(i:Nat)*1) ((n:Int) - (i:Nat)) 1) where
  mem:=by simp
  obj:=fun i h st b hb=>by
    have e:b=it:=by simpa using hb
    subst e
    exact ⟨_,st,fun v z=>by
      have z':Data.fields _=Data.cell v:=z
      cases z'⟩
  keep:=fun i h h' st k=>k it (by simp) _ st
  item:=by
    intro X hP hw hK hc i pins s σ H E I hf st hg
    subst hP hw hK
    obtain ⟨f0,f1,f2,f3,f4,f5⟩:=hf it (by simp)
    have W:=Walks.range (prog:=X.prog) (w:=X.w) (I.ok.hd hc) it lo 1 n
    refine W.item i s _ _ hg st fun v h' tk hv st' kk=>?_
    obtain ⟨t,rfl⟩:=hv
    have I1:Inv X pins σ H { s with heap:=h',toks:=tk }:=I.turned (fun b o hb e=>kk b o (by simpa using hb) e) f0 f1 f3 f4 f5
    refine ⟨_,rfl,go_of (s:={ s with heap:=h',toks:=tk }) (n := "range_iterator") st' rfl rfl (by decide) ⟨.int (lo+i),H,I1,⟨t,?_⟩,⟨rfl,rfl⟩,st',fun b hb=>(hf b hb).1⟩⟩
    rw [Int.mul_one]
  done:=by
    intro X hP hw hK hc i pins s σ H E I hf st hg
    subst hP hw hK
    obtain ⟨f0,f1,f2,f3,f4,f5⟩:=hf it (by simp)
    exact wpAny_pyNext_range_end (I.ok.hd hc) st (by have:n≤i:=hg;trivial) fun h' eb=>⟨rfl,I.turned (t':=s.toks) (fun b o hb e=>eb b o hb e) f0 f1 f3 f4 f5⟩
  self:=fun _ _ _ _ _ st h=>wpAny_pyIter_rangeiter st h
end L2
namespace L2
open PySem PySem.Spec PyProof.Rows
section
variable {X:Cx}{tg:Expr}
def iList (K:PySem.W.Frag) (tl:TE):TI:=fun σ H R=>tl σ H fun x H1=>∃a,x=.ref a∧(∃xs,SqL K H1 a xs)∧R (Itl K a) H1
def iTup (K:PySem.W.Frag) (tl:TE):TI:=fun σ H R=>tl σ H fun x H1=>∃a,x=.ref a∧(∃xs,SqT K H1 a xs)∧R (Itt K a) H1
theorem pi_list {l:Expr}{tl:TE} (hl:PE X l tl):PI X tg l (iList X.K tl):=by
  intro pins s σ H R I h
  refine thn (hl pins s σ H _ I h) fun v s1 ⟨x,H1,I1,r1,q1⟩=>?_
  obtain ⟨a,e,⟨xs,hq⟩,q⟩:=q1
  subst e
  cases r1
  obtain ⟨its,rv,p,hz⟩:=I1.list hq
  refine wpAny_pyIter_list p.isList ?_
  refine ⟨s1.heap.objs.size,[s1.heap.objs.size],_,_,H1,rfl,I1.kept (t':=s1.toks) fun b o e=>Heap.get?_push_of_some _ e,turn_list a _,⟨_,Heap.get?_push_size _ rfl,rfl,rfl⟩,fun b hb=>?_,q⟩
  have e:b=s1.heap.objs.size:=by simpa using hb
  subst e
  exact I1.fpOk (Nat.le_refl _) (I1.hok.fresh (Nat.le_refl _))
theorem pi_tup {l:Expr}{tl:TE} (hl:PE X l tl):PI X tg l (iTup X.K tl):=by
  intro pins s σ H R I h
  refine thn (hl pins s σ H _ I h) fun v s1 ⟨x,H1,I1,r1,q1⟩=>?_
  obtain ⟨a,e,⟨xs,hq⟩,q⟩:=q1
  subst e
  cases r1
  obtain ⟨its,rv,p,hz⟩:=I1.tuple hq
  refine wpAny_pyIter_tuple (show s1.heap.IsTuple a its.toArray from p) ?_
  refine ⟨s1.heap.objs.size,[s1.heap.objs.size],_,_,H1,rfl,I1.kept (t':=s1.toks) fun b o e=>Heap.get?_push_of_some _ e,turn_tuple a _,⟨_,Heap.get?_push_size _ rfl,rfl,rfl⟩,fun b hb=>?_,q⟩
  have e:b=s1.heap.objs.size:=by simpa using hb
  subst e
  exact I1.fpOk (Nat.le_refl _) (I1.hok.fresh (Nat.le_refl _))
theorem range_it {pins:List (Addr×Obj)}{σ:St}{H:Hp}{s:Shared}{R:It→Hp→Prop}{E:Value→Shared→Prop}{lo hi:Int}{t u v:Tok}{tk:Nat} (I:Inv X pins σ H s) (h1:-(2 ^ 62)≤lo) (h2:lo<2 ^ 62) (h3:-(2 ^ 62)≤hi) (h4:hi<2 ^ 62)
    (q:R (Itr lo (hi - lo).toNat) H):wpAny (model X.prog X.w) X.A (pyIter (.ref s.heap.objs.size)) (PIE X pins σ tg R) E { s with heap:=s.heap.push { cls:=.type "range",data:=.fields #[.int lo t,.int hi u,.int 1 v] },toks:=tk }:=by
  refine wpAny_pyIter_range (IsRange.new ..) (small_one h1 h2 h3 h4) ?_
  have I1:Inv X pins σ H { s with heap:=s.heap.push { cls:=.type "range",data:=.fields #[.int lo t,.int hi u,.int 1 v] },toks:=tk }:=I.kept fun b o e=>Heap.get?_push_of_some _ e
  refine ⟨(s.heap.push { cls:=.type "range",data:=.fields #[.int lo t,.int hi u,.int 1 v] }).objs.size,[(s.heap.push { cls:=.type "range",data:=.fields #[.int lo t,.int hi u,.int 1 v] }).objs.size],_,_,H,rfl,
    I1.kept (t':=tk) fun b o e=>Heap.get?_push_of_some _ e,turn_range _ lo (hi - lo).toNat,?_,fun b hb=>?_,q⟩
  · have e1:lo+((0:Nat):Int)*1=lo:=by simp
    have e2:(((hi - lo).toNat:Nat):Int) - ((0:Nat):Int)=Builtin.Range.rangeSize lo hi 1:=by rw [rangeSize_one];split <;> trivial
    show IsRangeIter _ _ (lo+((0:Nat):Int)*1) ((((hi - lo).toNat:Nat):Int) - ((0:Nat):Int)) 1
    rw [e1,e2]
    exact Heap.get?_push_size _ rfl
  · have e:b=(s.heap.push { cls:=.type "range",data:=.fields #[.int lo t,.int hi u,.int 1 v] }).objs.size:=by simpa using hb
    subst e
    exact I1.fpOk (Nat.le_refl _) (I1.hok.fresh (Nat.le_refl _))
def iRng1 (ta:TA):TI:=fun σ H R=>ta σ H fun vs H1=>∃j:Int,vs=[.int j]∧-(2 ^ 62)≤j∧j<2 ^ 62∧R (Itr 0 j.toNat) H1
theorem pi_range1 {a:Expr}{ta:TA}{p pos:Pos} (hg:Gl X "range") (hm:X.mg "range" = none) (ha:PA X [a] ta) (hs:starEach [a] X.env=[(false,eval a X.env)]:=by rfl):PI X tg (.Call (.Name "range" p) [a] [] pos) (iRng1 ta):=by
  intro pins s σ H R I h
  refine Call_ (ld_blt I hg hm boot_range (PyProof.Rows.callWith_type1 (thn (ha pos pins s σ H _ I h) fun us s1 ⟨vs,H1,I1,r1,q1⟩=>?_) hs rfl))
  obtain ⟨j,e,q1,q2,q⟩:=q1
  subst e
  cases r1 with
  | cons r rr=>
    cases rr
    obtain ⟨t,rfl⟩:=r
    exact call_range_1 (range_it I1 (by trivial) (by trivial) q1 q2 (by simpa using q))
def tFor (wi:TI) (g:TG) (tb:TS):TS:=fun D σ H=>wi σ H fun J H1=>∃W:Nat→Nat→St→Hp→Prop,(∃m,W 0 m σ H1)∧∀i m σ H,W i m σ H→
  (J.stop i H∧D.nx σ H)∨(J.go i H∧∃N:St→Hp→Prop,(∀σ' H',N σ' H'→∃m',m'<m∧W (i+1) m' σ' H')∧∀x H',J.yld i H x H'→g x σ H' fun σ2 H2=>tb { D with nx:=N,ct:=N,bk:=D.nx } σ2 H2)
def pinsAt (fp:List Addr) (h:Heap):List (Addr×Obj):=fp.filterMap fun b=>(h.get? b).map fun o=>(b,o)
theorem mem_pinsAt {fp:List Addr}{h:Heap}{b:Addr}{o:Obj} (hb:b∈fp) (e:h.get? b=some o):(b,o)∈pinsAt fp h:=List.mem_filterMap.mpr ⟨b,hb,by rw [e];rfl⟩
theorem of_pinsAt {fp:List Addr}{h:Heap}{p:Addr×Obj} (hp:p∈pinsAt fp h):p.1∈fp∧h.get? p.1=some p.2:=by
  obtain ⟨b,hb,e⟩:=List.mem_filterMap.mp hp
  cases q:h.get? b with
  | none=>rw [q] at e;cases e
  | some o=>
    rw [q] at e
    have e':(b,o)=p:=Option.some.inj e
    subst e'
    exact ⟨hb,q⟩
theorem Inv.pinned {pins:List (Addr×Obj)}{σ:St}{H:Hp}{s:Shared}{fp:List Addr} (I:Inv X pins σ H s) (hf:∀b∈fp,FpOk X pins H b) (ho:∀b∈fp,∃o,s.heap.get? b=some o∧∀v,o.data≠.cell v):Inv X (pins++pinsAt fp s.heap) σ H s:=
  I.pins_of fun p hp=>(List.mem_append.mp hp).elim (fun z=>I.pin p (List.mem_append_right _ z)) fun z=>by
    obtain ⟨hb,e⟩:=of_pinsAt z
    obtain ⟨f0,f1,f2,_⟩:=hf p.1 hb
    obtain ⟨o,e',d⟩:=ho p.1 hb
    rw [e] at e';cases e'
    exact ⟨e,f0,f1,f2,d⟩
theorem Inv.unpinned {pins pl:List (Addr×Obj)}{σ:St}{H:Hp}{s:Shared} (I:Inv X (pins++pl) σ H s):Inv X pins σ H s:=I.pins_of fun p hp=>I.pin p (List.mem_append_right _ (List.mem_append_left _ hp))
theorem ps_for {iter:Expr}{body:List Stmt}{wi:TI}{g:TG}{tb:TS}{pos:Pos} (hp:PassesOwn (model X.prog X.w) X.A X.env X.xe) (hc:X.calm=true) (hi:PI X tg iter wi) (hg:PG X tg g) (hb:PSs X body tb)
    (hs:∀x,foldedSetIterable iter X.env x=pure x:=by intro _;rfl):PS X (.For tg iter body [] pos) (tFor wi g tb):=by
  intro pins s σ H D I h
  refine wpAny_For (thn (hi pins s σ H _ I h) fun v s1 h1=>thn h1 fun itv s2 h2=>?_) hs
  obtain ⟨it,fp,tn,J,H2,e,I2,T,st2,f2,W,⟨m0,w0⟩,turn⟩:=h2
  subst e
  have stat:∀{H':Hp},(∀b∈fp,H' b=none)→∀b∈fp,FpOk X pins H' b:=fun hn b hb=>⟨hn b hb,(f2 b hb).2⟩
  refine codeAny_forLoop_any (fun n s'=>∃i σ' H',Inv X pins σ' H' s'∧tn i s'.heap∧(∀b∈fp,H' b=none)∧W i n σ' H') ?_ m0 ⟨0,σ,H2,I2,st2,fun b hb=>(f2 b hb).1,w0⟩
  rintro n s3 ⟨i,σ3,H3,I3,st3,fr3,w3⟩
  rcases turn i n σ3 H3 w3 with ⟨stop,qn⟩ | ⟨go,N,hN,step⟩
  · refine wpAny_passesOwn hp (thn (T.done X rfl rfl rfl hc i pins s3 σ3 H3 X.xe I3 (stat fr3) st3 stop) fun r s4 ⟨hr,I4⟩=>?_)
    subst hr
    exact wpAny_execs_nil ⟨σ3,H3,I4,qn⟩
  · refine wpAny_passesOwn hp (thn (T.item X rfl rfl rfl hc i pins s3 σ3 H3 X.xe I3 (stat fr3) st3 go) fun r s4 ⟨u,hr,h4⟩=>?_)
    subst hr
    refine wpAny_passesOwn hp (thn h4 fun _ s5 ⟨x,H5,I5,r5,y5,st5,fr5⟩=>?_)
    have I5':=I5.pinned (stat fr5) (T.obj _ _ st5)
    refine wpAny_passesOwn hp (thn (hg _ s5 σ3 H5 x u _ I5' r5 (step x H5 y5)) fun _ s6 ⟨σ6,H6,I6,q6⟩=>?_)
    refine wpAny_passesOwn hp (thn (hb _ s6 σ6 H6 _ I6 q6) fun f s7 q7=>?_)
    have again:∀{σ7:St}{H7:Hp},Inv X (pins++pinsAt fp s5.heap) σ7 H7 s7→N σ7 H7→∃m,m<n∧∃i σ' H',Inv X pins σ' H' s7∧tn i s7.heap∧(∀b∈fp,H' b=none)∧W i m σ' H':=fun {σ7 H7} I7 n7=>by
      obtain ⟨m',hm,w7⟩:=hN σ7 H7 n7
      refine ⟨m',hm,i+1,σ7,H7,I7.unpinned,T.keep _ _ _ st5 fun b hb o e=>(I7.pin (b,o) (List.mem_append_right _ (List.mem_append_right _ (mem_pinsAt hb e)))).1,fun b hb=>?_,w7⟩
      obtain ⟨o,e,d⟩:=T.obj _ _ st5 b hb
      exact (I7.pin (b,o) (List.mem_append_right _ (List.mem_append_right _ (mem_pinsAt hb e)))).2.1
    cases f with
    | next=>obtain ⟨σ7,H7,I7,n7⟩:=q7;exact again I7 n7
    | cont=>obtain ⟨σ7,H7,I7,n7⟩:=q7;exact again I7 n7
    | brk=>obtain ⟨σ7,H7,I7,q7⟩:=q7;exact ⟨σ7,H7,I7.unpinned,q7⟩
    | ret v=>obtain ⟨x7,σ7,H7,I7,r7,q7⟩:=q7;exact ⟨x7,σ7,H7,I7.unpinned,r7,q7⟩
end
theorem for_list {K:PySem.W.Frag}{a:Addr}{xs:List V}{g:TG}{tb:TS}{D:Ends}{σ:St}{H:Hp} (Pv:Nat→St→Hp→Prop) (h0:Pv 0 σ H) (hl:∀i σ H,i≤xs.length→Pv i σ H→SqL K H a xs)
    (hs:∀i x σ H,xs[i]?=some x→Pv i σ H→g x σ H fun σ2 H2=>tb { D with nx:=Pv (i+1),ct:=Pv (i+1),bk:=D.nx } σ2 H2) (hd:∀σ H,Pv xs.length σ H→D.nx σ H) :
    ∃W:Nat→Nat→St→Hp→Prop,(∃m,W 0 m σ H)∧∀i m σ H,W i m σ H→
      ((Itl K a).stop i H∧D.nx σ H)∨((Itl K a).go i H∧∃N:St→Hp→Prop,(∀σ' H',N σ' H'→∃m',m'<m∧W (i+1) m' σ' H')∧∀x H',(Itl K a).yld i H x H'→g x σ H' fun σ2 H2=>tb { D with nx:=N,ct:=N,bk:=D.nx } σ2 H2):=by
  refine ⟨fun i m σ H=>m=xs.length - i∧i≤xs.length∧Pv i σ H,⟨xs.length,by simp,Nat.zero_le _,h0⟩,?_⟩
  rintro i m σ H ⟨rfl,hi,p⟩
  have q:=hl i σ H hi p
  by_cases hlt:i<xs.length
  · refine .inr ⟨⟨xs,xs[i],q,by simp [hlt]⟩,Pv (i+1),fun σ' H' p'=>⟨xs.length - (i+1),by trivial,rfl,hlt,p'⟩,fun x H' y=>?_⟩
    obtain ⟨e,y⟩:=y
    subst e
    exact hs i x σ _ (y xs q) p
  · have e:i=xs.length:=by trivial
    subst e
    exact .inl ⟨⟨xs,q,Nat.le_refl _⟩,hd σ H p⟩
theorem for_tup {K:PySem.W.Frag}{a:Addr}{xs:List V}{g:TG}{tb:TS}{D:Ends}{σ:St}{H:Hp} (Pv:Nat→St→Hp→Prop) (h0:Pv 0 σ H) (hl:∀i σ H,i≤xs.length→Pv i σ H→SqT K H a xs)
    (hs:∀i x σ H,xs[i]?=some x→Pv i σ H→g x σ H fun σ2 H2=>tb { D with nx:=Pv (i+1),ct:=Pv (i+1),bk:=D.nx } σ2 H2) (hd:∀σ H,Pv xs.length σ H→D.nx σ H) :
    ∃W:Nat→Nat→St→Hp→Prop,(∃m,W 0 m σ H)∧∀i m σ H,W i m σ H→
      ((Itt K a).stop i H∧D.nx σ H)∨((Itt K a).go i H∧∃N:St→Hp→Prop,(∀σ' H',N σ' H'→∃m',m'<m∧W (i+1) m' σ' H')∧∀x H',(Itt K a).yld i H x H'→g x σ H' fun σ2 H2=>tb { D with nx:=N,ct:=N,bk:=D.nx } σ2 H2):=by
  refine ⟨fun i m σ H=>m=xs.length - i∧i≤xs.length∧Pv i σ H,⟨xs.length,by simp,Nat.zero_le _,h0⟩,?_⟩
  rintro i m σ H ⟨rfl,hi,p⟩
  have q:=hl i σ H hi p
  by_cases hlt:i<xs.length
  · refine .inr ⟨⟨xs,xs[i],q,by simp [hlt]⟩,Pv (i+1),fun σ' H' p'=>⟨xs.length - (i+1),by trivial,rfl,hlt,p'⟩,fun x H' y=>?_⟩
    obtain ⟨e,y⟩:=y
    subst e
    exact hs i x σ _ (y xs q) p
  · have e:i=xs.length:=by trivial
    subst e
    exact .inl ⟨⟨xs,q,Nat.le_refl _⟩,hd σ H p⟩
theorem for_range {lo:Int}{n:Nat}{g:TG}{tb:TS}{D:Ends}{σ:St}{H:Hp} (Pv:Nat→St→Hp→Prop) (h0:Pv 0 σ H)
    (hs:∀i σ H,i<n→Pv i σ H→g (.int (lo+i)) σ H fun σ2 H2=>tb { D with nx:=Pv (i+1),ct:=Pv (i+1),bk:=D.nx } σ2 H2) (hd:∀σ H,Pv n σ H→D.nx σ H) :
    ∃W:Nat→Nat→St→Hp→Prop,(∃m,W 0 m σ H)∧∀i m σ H,W i m σ H→
      ((Itr lo n).stop i H∧D.nx σ H)∨((Itr lo n).go i H∧∃N:St→Hp→Prop,(∀σ' H',N σ' H'→∃m',m'<m∧W (i+1) m' σ' H')∧∀x H',(Itr lo n).yld i H x H'→g x σ H' fun σ2 H2=>tb { D with nx:=N,ct:=N,bk:=D.nx } σ2 H2):=by
  refine ⟨fun i m σ H=>m=n - i∧i≤n∧Pv i σ H,⟨n,by simp,Nat.zero_le _,h0⟩,?_⟩
  rintro i m σ H ⟨rfl,hi,p⟩
  by_cases hlt:i<n
  · refine .inr ⟨hlt,Pv (i+1),fun σ' H' p'=>⟨n - (i+1),by trivial,rfl,hlt,p'⟩,fun x H' y=>?_⟩
    obtain ⟨e,y⟩:=y
    subst e y
    exact hs i σ _ hlt p
  · have e:i=n:=by trivial
    subst e
    exact .inl ⟨Nat.le_refl _,hd σ H p⟩
end L2
namespace L2
open PySem PySem.Spec PyProof.Rows
abbrev R2:=V→V→Hp→VK→Prop
def OpR (X:Cx) (f:Value→Value→Sem Value) (r:R2):Prop:=
  ∀(pins:List (Addr×Obj)) (s:Shared) (σ:St) (H:Hp) (x y:V) (v u:Value) (Q:VK),Inv X pins σ H s→RelV x v→RelV y u→r x y H Q→
    wpAny (model X.prog X.w) X.A (f v u) (EP X pins σ Q) X.xe s
def UnR (X:Cx) (f:Value→Sem Value) (r:V→Hp→VK→Prop):Prop:=
  ∀(pins:List (Addr×Obj)) (s:Shared) (σ:St) (H:Hp) (x:V) (v:Value) (Q:VK),Inv X pins σ H s→RelV x v→r x H Q→
    wpAny (model X.prog X.w) X.A (f v) (EP X pins σ Q) X.xe s
def CallR (X:Cx) (f:Value) (r:List V→Hp→VK→Prop):Prop:=
  ∀(pins:List (Addr×Obj)) (s:Shared) (σ:St) (H:Hp) (xs:List V) (us:List Value) (Q:VK),Inv X pins σ H s→Vals xs us→r xs H Q→
    wpAny (model X.prog X.w) X.A (call f us) (EP X pins σ Q) X.xe s
def tOp (r:R2) (ta tb:TE):TE:=fun σ H Q=>ta σ H fun x H1=>tb σ H1 fun y H2=>r x y H2 Q
def tUn (r:V→Hp→VK→Prop) (ta:TE):TE:=fun σ H Q=>ta σ H fun x H1=>r x H1 Q
inductive rI_ (C:Int→Int→Prop) (g:Int→Int→V) (x:V) (y:V) (H:Hp) (Q:VK):Prop
  | mk (i:_) (j:_) (h0:x=.int i) (h1:y=.int j) (h2:C i j) (h3:Q (g i j) H)
def rI (C:Int→Int→Prop) (g:Int→Int→V):R2:=fun x y H Q=>rI_ C g x y H Q
inductive rI0_ (g:Int→Int→V) (x:V) (y:V) (H:Hp) (Q:VK):Prop
  | mk (i:_) (j:_) (h0:x=.int i) (h1:y=.int j) (h2:Q (g i j) H)
def rI0 (g:Int→Int→V):R2:=fun x y H Q=>rI0_ g x y H Q
def rU (g:Int→V):V→Hp→VK→Prop:=fun x H Q=>IsIn x fun i=>Q (g i) H
section
variable {X:Cx}{a b c:Expr}{ta tb tc:TE}{pos:Pos}
theorem binT (ha:PE X a ta) (hb:PE X b tb) {pins:List (Addr×Obj)}{s:Shared}{σ:St}{H:Hp}{R:V→V→Hp→Prop} (I:Inv X pins σ H s)
    (h:ta σ H fun x H1=>tb σ H1 fun y H2=>R x y H2) {Q:Value→Shared→Prop}{f:Value→Value→Sem Value}
    (hf:∀v u s2 x y H2,Inv X pins σ H2 s2→RelV x v→RelV y u→R x y H2→wpAny (model X.prog X.w) X.A (f v u) Q X.xe s2) :
    wpAny (model X.prog X.w) X.A (eval a X.env) (fun v s₁=>wpAny (model X.prog X.w) X.A (eval b X.env) (fun u s₂=>wpAny (model X.prog X.w) X.A (f v u) Q X.xe s₂) X.xe s₁) X.xe s:=by
  refine thn (ha pins s σ H _ I h) fun v s1 ⟨x,H1,I1,r1,q1⟩=>?_
  refine thn (hb pins s1 σ H1 _ I1 q1) fun u s2 ⟨y,H2,I2,r2,q2⟩=>?_
  exact hf v u s2 x y H2 I2 r1 r2 q2
theorem pe_op {op:Operator}{r:R2} (ho:OpR X (binaryOp op) r) (ha:PE X a ta) (hb:PE X b tb):PE X (.BinOp a op b pos) (tOp r ta tb):=by
  intro pins s σ H Q I h
  exact wpAny_BinOp (binT ha hb I h fun v u s2 x y H2 I2 rx ry q=>ho pins s2 σ H2 x y v u Q I2 rx ry q)
theorem pe_un {op:UnaryOp}{r:V→Hp→VK→Prop} (ho:UnR X (unaryOp op) r) (ha:PE X a ta):PE X (.UnaryOp op a pos) (tUn r ta):=by
  intro pins s σ H Q I h
  exact UnaryOp_ (thn (ha pins s σ H _ I h) fun v s1 ⟨x,H1,I1,r1,q1⟩=>ho pins s1 σ H1 x v Q I1 r1 q1)
theorem opI {f:Value→Value→Sem Value}{C:Int→Int→Prop}{g:Int→Int→Int}
    (rule:∀(i j:Int) (t u:Tok) (s:Shared) (Q:Value→Shared→Prop) (E:Value→Shared→Prop),C i j→Q (.int (g i j) s.toks) { s with toks:=s.toks+1 }→wpAny (model X.prog X.w) X.A (f (.int i t) (.int j u)) Q E s) :
    OpR X f (rI C fun i j=>.int (g i j)):=by
  intro pins s σ H x y v u Q I rx ry h
  obtain ⟨i,j,rfl,rfl,hc,q⟩:=h
  obtain ⟨t,rfl⟩:=rx
  obtain ⟨t',rfl⟩:=ry
  exact rule i j t t' s _ _ hc ⟨.int (g i j),H,I.tok _,⟨_,rfl⟩,q⟩
theorem opI0 {f:Value→Value→Sem Value}{g:Int→Int→Int}
    (rule:∀(i j:Int) (t u:Tok) (s:Shared) (Q:Value→Shared→Prop) (E:Value→Shared→Prop),Q (.int (g i j) s.toks) { s with toks:=s.toks+1 }→wpAny (model X.prog X.w) X.A (f (.int i t) (.int j u)) Q E s) :
    OpR X f (rI0 fun i j=>.int (g i j)):=by
  intro pins s σ H x y v u Q I rx ry h
  obtain ⟨i,j,rfl,rfl,q⟩:=h
  obtain ⟨t,rfl⟩:=rx
  obtain ⟨t',rfl⟩:=ry
  exact rule i j t t' s _ _ ⟨.int (g i j),H,I.tok _,⟨_,rfl⟩,q⟩
theorem opB0 {f:Value→Value→Sem Value}{g:Int→Int→Bool}
    (rule:∀(i j:Int) (t u:Tok) (s:Shared) (Q:Value→Shared→Prop) (E:Value→Shared→Prop),Q (.bool (g i j)) s→wpAny (model X.prog X.w) X.A (f (.int i t) (.int j u)) Q E s) :
    OpR X f (rI0 fun i j=>.bl (g i j)):=by
  intro pins s σ H x y v u Q I rx ry h
  obtain ⟨i,j,rfl,rfl,q⟩:=h
  obtain ⟨t,rfl⟩:=rx
  obtain ⟨t',rfl⟩:=ry
  exact rule i j t t' s _ _ ⟨.bl (g i j),H,I,rfl,q⟩
def CDiv (i j:Int):Prop:=0<j∧j<1073741824
def CPow (i j:Int):Prop:=0≤j∧j≤1000000∧i.natAbs<2 ^ 64
def CMul (i j:Int):Prop:=(-(2 ^ 64)<i∧i<2 ^ 64)∨(-(2 ^ 64)<j∧j<2 ^ 64)
theorem CMul.ok {i j:Int} (h:CMul i j):IntMulOk i j:=by
  rcases h with ⟨h1,h2⟩ | ⟨h1,h2⟩
  · exact .of_left (intBits_le_64 h1 h2)
  · exact .of_right (intBits_le_64 h1 h2)
theorem op_add:OpR X (binaryOp .Add) (rI0 fun i j=>.int (i+j)):=opI0 fun _ _ _ _ _ _ _ q=>add_int q
theorem op_sub:OpR X (binaryOp .Sub) (rI0 fun i j=>.int (i - j)):=opI0 fun _ _ _ _ _ _ _ q=>sub_int q
theorem op_mul:OpR X (binaryOp .Mult) (rI CMul fun i j=>.int (i*j)):=opI fun _ _ _ _ _ _ _ hc q=>mul_int q hc.ok
theorem op_fdiv:OpR X (binaryOp .FloorDiv) (rI CDiv fun i j=>.int (i / j)):=opI fun i j _ _ _ _ _ hc q=>by
  have h1:(0:Int)<j:=hc.1
  have h2:j<1073741824:=hc.2
  exact floordiv_int (by trivial) (by rw [Int.fdiv_eq_ediv_of_nonneg i (by trivial)];exact q) (.inl (PyProof.noPylong_small (by trivial)))
theorem op_mod:OpR X (binaryOp .Mod) (rI (fun _ j=>0<j) fun i j=>.int (i % j)):=opI fun i j _ _ _ _ _ hc q=>by
  have h1:(0:Int)<j:=hc
  exact mod_int' (by trivial) (by rw [Int.fmod_eq_emod_of_nonneg i (by trivial)];exact q)
theorem op_modN:OpR X (binaryOp .Mod) (rI (fun _ j=>j≠0) fun i j=>.int (i.fmod j)):=opI fun _ _ _ _ _ _ _ hc q=>mod_int' hc q
theorem op_pow:OpR X (binaryOp .Pow) (rI CPow fun i j=>.int (i ^ j.toNat)):=opI fun _ _ _ _ _ _ _ hc q=>pow_int_small hc.1 hc.2.1 hc.2.2 q
theorem unI {f:Value→Sem Value}{g:Int→Int}
    (rule:∀(i:Int) (t:Tok) (s:Shared) (Q:Value→Shared→Prop) (E:Value→Shared→Prop),Q (.int (g i) s.toks) { s with toks:=s.toks+1 }→wpAny (model X.prog X.w) X.A (f (.int i t)) Q E s) :
    UnR X f (rU fun i=>.int (g i)):=by
  intro pins s σ H x v Q I rx h
  obtain ⟨i,rfl,q⟩:=h
  obtain ⟨t,rfl⟩:=rx
  exact rule i t s _ _ ⟨.int (g i),H,I.tok _,⟨_,rfl⟩,q⟩
theorem un_neg:UnR X (unaryOp .USub) (rU fun i=>.int (-i)):=unI fun _ _ _ _ _ q=>neg_int q
end
def scal:V→V→Bool
  | .non,.non=>true | .non,.int _=>true | .int _,.non=>true | .non,.bl _=>true | .bl _,.non=>true | .non,.str _=>true | .str _,.non=>true
  | .int _,.int _=>true | .bl _,.bl _=>true | .str _,.str _=>true | .byt _,.byt _=>true
  | .int _,.str _=>true | .str _,.int _=>true | .bl _,.str _=>true | .str _,.bl _=>true
  | _,_=>false
def rEq:R2:=fun x y H Q=>scal x y=true∧Q (.bl (decide (x=y))) H
def rNe:R2:=fun x y H Q=>scal x y=true∧Q (.bl (!decide (x=y))) H
theorem dec_int {i j:Int}:decide (V.int i=V.int j)=(i==j):=by
  rw [Bool.eq_iff_iff]
  simp
theorem dec_bl {i j:Bool}:decide (V.bl i=V.bl j)=(i==j):=by
  rw [Bool.eq_iff_iff]
  simp
theorem dec_str {i j:Str}:decide (V.str i=V.str j)=(i==j):=by
  rw [Bool.eq_iff_iff]
  simp
theorem dec_byt {i j:Array UInt8}:decide (V.byt i=V.byt j)=(i.toList==j.toList):=by
  rw [Bool.eq_iff_iff]
  cases i
  cases j
  simp
section
variable {X:Cx}{a b c:Expr}{ta tb tc:TE}{pos:Pos}
theorem fin_bl {pins:List (Addr×Obj)}{σ:St}{H:Hp}{s:Shared}{Q:VK}{k k':Bool} (I:Inv X pins σ H s) (q:Q (.bl k) H) (e:k=k'):EP X pins σ Q (.bool k') s:=by
  subst e
  exact ⟨.bl k,H,I,rfl,q⟩
theorem op_eq:OpR X (compareOp .Eq) rEq:=by
  intro pins s σ H x y v u Q I rx ry h
  obtain ⟨hs,q⟩:=h
  cases x with
  | non=>
    cases rx
    cases y with
    | non=>cases ry;exact PySem.EqNone.eq_none_none (fin_bl I q (by simp))
    | bl j=>cases ry;exact PySem.EqNone.eq_none_bool (fin_bl I q (by simp))
    | int j=>obtain ⟨t',rfl⟩:=ry;exact PySem.EqNone.eq_none_int (fin_bl I q (by simp))
    | str j=>obtain ⟨t',rfl⟩:=ry;exact PySem.EqNone.eq_none_str (fin_bl I q (by simp))
    | _=>exact absurd (show false=true from hs) Bool.false_ne_true
  | bl i=>
    cases rx
    cases y with
    | non=>cases ry;exact PySem.EqNone.eq_bool_none (fin_bl I q (by simp))
    | bl j=>cases ry;exact eq_bool (fin_bl I q dec_bl)
    | str j=>obtain ⟨t',rfl⟩:=ry;exact PySem.EqMixed.eq_bool_str (fin_bl I q (by simp))
    | _=>exact absurd (show false=true from hs) Bool.false_ne_true
  | int i=>
    obtain ⟨t,rfl⟩:=rx
    cases y with
    | non=>cases ry;exact PySem.EqNone.eq_int_none (fin_bl I q (by simp))
    | int j=>obtain ⟨t',rfl⟩:=ry;exact eq_int (fin_bl I q dec_int)
    | str j=>obtain ⟨t',rfl⟩:=ry;exact PySem.EqMixed.eq_int_str (fin_bl I q (by simp))
    | _=>exact absurd (show false=true from hs) Bool.false_ne_true
  | str i=>
    obtain ⟨t,rfl⟩:=rx
    cases y with
    | non=>cases ry;exact PySem.EqNone.eq_str_none (fin_bl I q (by simp))
    | bl j=>cases ry;exact PySem.EqMixed.eq_str_bool (fin_bl I q (by simp))
    | int j=>obtain ⟨t',rfl⟩:=ry;exact PySem.EqMixed.eq_str_int (fin_bl I q (by simp))
    | str j=>obtain ⟨t',rfl⟩:=ry;exact eq_str (fin_bl I q dec_str)
    | _=>exact absurd (show false=true from hs) Bool.false_ne_true
  | byt i=>
    obtain ⟨t,rfl⟩:=rx
    cases y with
    | byt j=>obtain ⟨t',rfl⟩:=ry;exact PySem.W.eq_bytes (fin_bl I q dec_byt)
    | _=>exact absurd (show false=true from hs) Bool.false_ne_true
  | _=>cases y <;> exact absurd (show false=true from hs) Bool.false_ne_true
theorem op_ne:OpR X (compareOp .NotEq) rNe:=by
  intro pins s σ H x y v u Q I rx ry h
  obtain ⟨hs,q⟩:=h
  cases x with
  | non=>
    cases rx
    cases y with
    | non=>cases ry;exact PySem.EqNone.ne_none_none (fin_bl I q (by simp))
    | bl j=>cases ry;exact PySem.EqNone.ne_none_bool (fin_bl I q (by simp))
    | int j=>obtain ⟨t',rfl⟩:=ry;exact PySem.EqNone.ne_none_int (fin_bl I q (by simp))
    | str j=>obtain ⟨t',rfl⟩:=ry;exact PySem.EqNone.ne_none_str (fin_bl I q (by simp))
    | _=>exact absurd (show false=true from hs) Bool.false_ne_true
  | bl i=>
    cases rx
    cases y with
    | non=>cases ry;exact PySem.EqNone.ne_bool_none (fin_bl I q (by simp))
    | bl j=>cases ry;exact ne_bool (fin_bl I q (congrArg not dec_bl))
    | str j=>obtain ⟨t',rfl⟩:=ry;exact PySem.EqMixed.ne_bool_str (fin_bl I q (by simp))
    | _=>exact absurd (show false=true from hs) Bool.false_ne_true
  | int i=>
    obtain ⟨t,rfl⟩:=rx
    cases y with
    | non=>cases ry;exact PySem.EqNone.ne_int_none (fin_bl I q (by simp))
    | int j=>obtain ⟨t',rfl⟩:=ry;exact ne_int (fin_bl I q (congrArg not dec_int))
    | str j=>obtain ⟨t',rfl⟩:=ry;exact PySem.EqMixed.ne_int_str (fin_bl I q (by simp))
    | _=>exact absurd (show false=true from hs) Bool.false_ne_true
  | str i=>
    obtain ⟨t,rfl⟩:=rx
    cases y with
    | non=>cases ry;exact PySem.EqNone.ne_str_none (fin_bl I q (by simp))
    | bl j=>cases ry;exact PySem.EqMixed.ne_str_bool (fin_bl I q (by simp))
    | int j=>obtain ⟨t',rfl⟩:=ry;exact PySem.EqMixed.ne_str_int (fin_bl I q (by simp))
    | str j=>obtain ⟨t',rfl⟩:=ry;exact ne_str (fin_bl I q (congrArg not dec_str))
    | _=>exact absurd (show false=true from hs) Bool.false_ne_true
  | byt i=>
    obtain ⟨t,rfl⟩:=rx
    cases y with
    | byt j=>obtain ⟨t',rfl⟩:=ry;exact PySem.W.ne_bytes (fin_bl I q (congrArg not dec_byt))
    | _=>exact absurd (show false=true from hs) Bool.false_ne_true
  | _=>cases y <;> exact absurd (show false=true from hs) Bool.false_ne_true
theorem op_lt:OpR X (compareOp .Lt) (rI0 fun i j=>.bl (decide (i<j))):=opB0 fun _ _ _ _ _ _ _ q=>lt_int q
theorem op_le:OpR X (compareOp .LtE) (rI0 fun i j=>.bl (decide (i≤j))):=opB0 fun _ _ _ _ _ _ _ q=>le_int q
theorem op_gt:OpR X (compareOp .Gt) (rI0 fun i j=>.bl (decide (j<i))):=opB0 fun _ _ _ _ _ _ _ q=>gt_int q
theorem op_ge:OpR X (compareOp .GtE) (rI0 fun i j=>.bl (decide (j≤i))):=opB0 fun _ _ _ _ _ _ _ q=>ge_int q
theorem op_isN:OpR X (compareOp .Is) (fun x y H Q=>y=.non∧Q (.bl (decide (x=.non))) H):=by
  intro pins s σ H x y v u Q I rx ry h
  obtain ⟨rfl,q⟩:=h
  cases ry
  refine is_none_gen (fin_bl I q ?_)
  cases x <;> first
    | (cases rx;rfl)
    | (obtain ⟨t,rfl⟩:=rx;rfl)
theorem op_notN:OpR X (compareOp .IsNot) (fun x y H Q=>y=.non∧Q (.bl (!decide (x=.non))) H):=by
  intro pins s σ H x y v u Q I rx ry h
  obtain ⟨rfl,q⟩:=h
  cases ry
  refine isnot_none_gen (fin_bl I q ?_)
  cases x <;> first
    | (cases rx;rfl)
    | (obtain ⟨t,rfl⟩:=rx;rfl)
theorem nomark (b:Expr) {op:CmpOp} (h:op≠.In:=by decide) (h2:op≠.NotIn:=by decide):behindInMarks op b=false:=by
  have e1:(op==CmpOp.In)=false:=by cases op <;> first | rfl | exact absurd rfl h
  have e2:(op==CmpOp.NotIn)=false:=by cases op <;> first | rfl | exact absurd rfl h2
  cases b <;> simp [behindInMarks,e1,e2]
theorem pe_cmpR {op:CmpOp}{r:R2} (ho:OpR X (compareOp op) r) (ha:PE X a ta) (hb:PE X b tb) (hm:behindInMarks op b=false):PE X (.Compare a [op] [b] pos) (tOp r ta tb):=by
  intro pins s σ H Q I h
  exact wpAny_Compare1 (binT ha hb I h fun v u s2 x y H2 I2 rx ry q=>ho pins s2 σ H2 x y v u Q I2 rx ry q) hm
def tTest (t:TE):TT:=fun σ H Q=>t σ H fun x H'=>IsBl x fun k=>Q k H'
theorem pt_cmpR {op:CmpOp}{r:R2} (ho:OpR X (compareOp op) r) (ha:PE X a ta) (hb:PE X b tb) (hm:behindInMarks op b=false):PT X (.Compare a [op] [b] pos) (tTest (tOp r ta tb)):=by
  intro pins s σ H Q I h
  refine wpAny_isTrue_Compare1 (thn (ha pins s σ H _ I h) fun v s1 ⟨x,H1,I1,r1,q1⟩=>thn (hb pins s1 σ H1 _ I1 q1) fun u s2 ⟨y,H2,I2,r2,q2⟩=>
    thn (ho pins s2 σ H2 x y v u _ I2 r1 r2 q2) fun c s3 ⟨z,H3,I3,r3,k,e,q3⟩=>?_) hm
  subst e
  cases r3
  exact wpAny_truthy_bool ⟨H3,I3,q3⟩
theorem line63:(sizeLine:Nat)<2 ^ 63:=by rw [sizeLine_eq];decide
theorem op_add_str:OpR X (binaryOp .Add) (fun x y H Q=>Ex2 fun i j=>x=.str i∧y=.str j∧i.length+j.length≤sizeLine∧Q (.str (i++j)) H):=by
  intro pins s σ H x y v u Q I rx ry h
  obtain ⟨i,j,rfl,rfl,hz,q⟩:=h
  obtain ⟨t,rfl⟩:=rx
  obtain ⟨t',rfl⟩:=ry
  exact add_str (fun t' tk=>⟨.str (i++j),H,I.tok _,⟨_,rfl⟩,q⟩) hz
theorem vals1 {x:V}{us:List Value} (r:Vals [x] us):∃u,us=[u]∧RelV x u:=by
  cases r with
  | cons r1 r2=>cases r2;exact ⟨_,rfl,r1⟩
theorem vals2 {x y:V}{us:List Value} (r:Vals [x,y] us):Ex2 fun u w'=>us=[u,w']∧RelV x u∧RelV y w':=by
  cases r with
  | cons r1 r2=>
    cases r2 with
    | cons r3 r4=>cases r4;exact ⟨_,_,rfl,r1,r3⟩
theorem call_abs:CallR X (.builtin "abs") (fun xs H Q=>∃i,xs=[.int i]∧Q (.int (if i<0 then -i else i)) H):=by
  intro pins s σ H xs us Q I r h
  obtain ⟨i,rfl,q⟩:=h
  obtain ⟨u,rfl,t,rfl⟩:=vals1 r
  exact call_abs_int fun u tk=>⟨.int (if i<0 then -i else i),H,I.tok _,⟨_,rfl⟩,q⟩
theorem call_max2 (hc:X.calm=true):CallR X (.builtin "max") (fun xs H Q=>Ex2 fun i j=>xs=[.int i,.int j]∧Q (.int (if j > i then j else i)) H):=by
  intro pins s σ H xs us Q I r h
  obtain ⟨i,j,rfl,q⟩:=h
  obtain ⟨u,w',rfl,⟨t,rfl⟩,⟨t',rfl⟩⟩:=vals2 r
  refine max_two_ints (I.ok.hd hc) fun h' tk k=>⟨_,H,I.kept k,?_,q⟩
  by_cases hj:j > i
  · rw [if_pos hj,if_pos hj];exact ⟨_,rfl⟩
  · rw [if_neg hj,if_neg hj];exact ⟨_,rfl⟩
theorem call_int1:CallR X (.type "int") (fun xs H Q=>(∃i,xs=[.int i]∧Q (.int i) H)∨∃k,xs=[.bl k]∧Q (.int (if k then 1 else 0)) H):=by
  intro pins s σ H xs us Q I r h
  rcases h with ⟨i,rfl,q⟩ | ⟨k,rfl,q⟩
  · obtain ⟨u,rfl,t,rfl⟩:=vals1 r
    exact call_int_int ⟨.int i,H,I,⟨_,rfl⟩,q⟩
  · obtain ⟨u,rfl,r1⟩:=vals1 r
    cases r1
    exact call_int_bool ⟨.int (if k then 1 else 0),H,I.tok _,⟨_,rfl⟩,q⟩
end
end L2
namespace L2
open PySem PySem.Spec PyProof.Rows
structure ObjM (h:Heap) (x dx C:Addr) (mA:Str→Option Value):Prop where
  obj:h.get? x=some (PySem.W.instObj C dx)
  ns:h.Ns1 dx mA
  ne:dx≠x
theorem lookIn_ns {h:Heap}{dx:Addr}{mA:Str→Option Value} (n:h.Ns1 dx mA):∃od,h.get? dx=some od∧∀name,PySem.W.lookIn name od=some (mA name):=by
  obtain ⟨o,es,ep,ho,hd,hk,_,hm⟩:=n
  refine ⟨o,ho,fun name=>?_⟩
  have e:=hm name
  unfold nsFind findBy at e
  rw [←Array.find?_toList] at e
  unfold PySem.W.lookIn
  rw [hd]
  dsimp only
  split
  · rename_i y q
    rw [q] at e
    exact congrArg some e
  · rename_i q
    rw [q] at e
    have a:es.toList.any (·.refKey)=false:=by
      rw [List.any_eq_false]
      intro y hy
      obtain ⟨z,t,hkey⟩:=hk y (Array.mem_toList_iff.mp hy)
      simp [DictEntry.refKey,hkey]
    have a':¬es.toList.any (·.refKey)=true:=by rw [a];exact Bool.false_ne_true
    rw [if_neg a']
    exact congrArg some e
theorem ObjM.look {h:Heap}{x dx C:Addr}{mA:Str→Option Value} (I:ObjM h x dx C mA):∃od,PySem.W.InstAt h x (PySem.W.instObj C dx) C (some od)∧∀name,PySem.W.lookIn name od=some (mA name):=
  let ⟨od,ho,hl⟩:=lookIn_ns I.ns
  ⟨od,⟨I.obj,rfl,rfl,ho⟩,hl⟩
section
variable {prog:Program}{w:World}{A:Around}{E:Value→Shared→Prop}{s:Shared}{K:PySem.W.Frag}{x dx C f:Addr}{mA:Str→Option Value}{name:Str}{v:Value}
end
theorem RelO.some_of {v:V}{o:Option Value} (r:RelO (some v) o):∃u,o=some u∧RelV v u:=by
  cases o with
  | none=>exact (show False from r).elim
  | some u=>exact ⟨u,rfl,r⟩
section
variable {P:Program}{w:World}{H H':Hp}{h h':Heap}{a C dx:Addr}{fs fs':List (Str×V)}
theorem ins_get (hok:HOk P w H h) (e:H a=some (.ins C dx fs)):∃mA,ObjM h a dx C mA∧(∀f,RelO (fs.lookup f) (mA f))∧PySem.Within mA (fs.map (·.1))∧fs.length≤1000∧H dx=some (.own a):=by
  obtain ⟨d,z,ne,ob,mA,n,r,q⟩:=(show ObjOk P w H h a (.ins C dx fs) from hok a _ e)
  exact ⟨mA,⟨ob,n,ne⟩,r,q,z,d⟩
end
structure Cls (K:PySem.W.Frag) (C:Addr):Prop where
  pg:PySem.W.plainGet K C Str.empty=true
  hd:PySem.W.hasDictIn K C=true
  po:PySem.W.plainOver K C=true
  sa:PySem.W.findIn K (.ref C) "__setattr__" = some (some (.builtin "object.__setattr__"))
theorem Cls.get {K:PySem.W.Frag}{C:Addr} (c:Cls K C) (f:Str):PySem.W.plainGet K C f=true:=c.pg
section
variable {X:Cx}{pins:List (Addr×Obj)}{σ:St}{H:Hp}{s:Shared}{a C dx:Addr}{fs:List (Str×V)}{f:Str}{v:V}{A:Around}{E:Value→Shared→Prop}
end
section
variable {X:Cx}{o e value:Expr}{f:Str}{pos pos' tpos:Pos}{ta tv:TE}
end
section
variable {X:Cx}{pins:List (Addr×Obj)}{σ:St}{H:Hp}{s:Shared}{A:Around}{E:Value→Shared→Prop}{Q:Value→Shared→Prop}{c:Value}{b:Bool}
inductive TyOf (K:PySem.W.Frag) (H:Hp):V→Value→Prop where
  | non:TyOf K H .non (.type "NoneType")
  | bl (x:Bool):TyOf K H (.bl x) (.type "bool")
  | int (i:Int):TyOf K H (.int i) (.type "int")
  | str (x:Str):TyOf K H (.str x) (.type "str")
  | flt (x:UInt64):TyOf K H (.flt x) (.type "float")
  | lst {a:Addr}{xs:List V} (e:H a=some (.lst xs)):TyOf K H (.ref a) (.type "list")
  | frz {a:Addr}{o:Obj}{xs:List V} (e:H a=some (.frz o (.lst xs))):TyOf K H (.ref a) (.type "list")
  | tup {a:Addr}{xs:List V} (e:H a=some (.tup xs)):TyOf K H (.ref a) (.type "tuple")
  | dK {a:Addr}{kvs:List (Key×V)} (e:H a=some (.dK kvs)):TyOf K H (.ref a) (.type "dict")
  | dT {a:Addr}{kvs:List (List Key×V)} (e:H a=some (.dT kvs)):TyOf K H (.ref a) (.type "dict")
  | ins {a C dx:Addr}{fs:List (Str×V)} (e:H a=some (.ins C dx fs)) (cl:Cls K C) (ha:PySem.W.findIn K (.ref C) "__class__" = some (some (.builtin "object.__class__")))
      (hn:PySem.W.specialIn K (.builtin "object.__class__") "__get__" = some (some (.builtin "getset_descriptor.__get__"))) (htk:PySem.W.takesIn K (.builtin "object.__class__")=some true)
      (hm:PySem.W.mroIn K C (.type "object")=some true):TyOf K H (.ref a) (.ref C)
theorem isinst_ok {x:V}{u t:Value} (I:Inv X pins σ H s) (rx:RelV x u) (ty:TyOf X.K H x t) (e:PySem.W.kitOne X.K t c=some b) (h:∀tk,Q (.bool b) { s with toks:=tk }) :
    wpAny (model X.prog X.w) A (call (.builtin "isinstance") [u,c]) Q E s:=by
  cases ty with
  | non=>cases (show u=Value.none from rx);exact PySem.W.kia_one PySem.W.kitx_none I.kIn True.intro e (fun z=>nomatch z) h
  | bl y=>cases (show u=Value.bool y from rx);exact PySem.W.kia_one PySem.W.kitx_bool I.kIn True.intro e (fun z=>nomatch z) h
  | int i=>obtain ⟨t,q⟩:=(show ∃t,u=Value.int i t from rx);cases q;exact PySem.W.kia_one PySem.W.kitx_int I.kIn True.intro e (fun z=>nomatch z) h
  | str y=>obtain ⟨t,q⟩:=(show ∃t,u=Value.str y t from rx);cases q;exact PySem.W.kia_one PySem.W.kitx_str I.kIn True.intro e (fun z=>nomatch z) h
  | flt y=>obtain ⟨t,q⟩:=(show ∃t,u=Value.float y t from rx);cases q;exact PySem.W.kia_one PySem.W.kitx_float I.kIn True.intro e (fun z=>nomatch z) h
  | @lst a xs ea=>
    cases (show u=Value.ref a from rx)
    obtain ⟨_,_,n,_,h1⟩:=(show ObjOk X.prog X.w H s.heap a (.lst xs) from I.hok a _ ea)
    exact PySem.W.kia_one PySem.W.kitx_list I.kIn ⟨_,h1,rfl⟩ e (fun z=>nomatch z) h
  | @frz a ob xs ea=>
    cases (show u=Value.ref a from rx)
    obtain ⟨_,_,_,n,_,h1⟩:=(show ObjOk X.prog X.w H s.heap a (.frz ob (.lst xs)) from I.hok a _ ea)
    exact PySem.W.kia_one PySem.W.kitx_list I.kIn ⟨_,h1,rfl⟩ e (fun z=>nomatch z) h
  | @tup a xs ea=>
    cases (show u=Value.ref a from rx)
    obtain ⟨_,_,_,p,_⟩:=(show ObjOk X.prog X.w H s.heap a (.tup xs) from I.hok a _ ea)
    obtain ⟨o,h1,h2,_⟩:=p
    exact PySem.W.kia_one PySem.W.kitx_tuple I.kIn ⟨o,h1,h2⟩ e (fun z=>nomatch z) h
  | @dK a kvs ea=>
    cases (show u=Value.ref a from rx)
    obtain ⟨_,_,vs,_,p⟩:=(show ObjOk X.prog X.w H s.heap a (.dK kvs) from I.hok a _ ea)
    obtain ⟨o,es,ep,h1,h2,_⟩:=p
    exact PySem.W.kia_one PySem.W.kitx_dict I.kIn ⟨o,h1,h2.1⟩ e (fun z=>nomatch z) h
  | @dT a kvs ea=>
    cases (show u=Value.ref a from rx)
    obtain ⟨_,_,xs,_,o,es,ep,h1,h2,_⟩:=(show ObjOk X.prog X.w H s.heap a (.dT kvs) from I.hok a _ ea)
    exact PySem.W.kia_one PySem.W.kitx_dict I.kIn ⟨o,h1,h2.1⟩ e (fun z=>nomatch z) h
  | @ins a C dx fs ea cl ha hn htk hm=>
    cases (show u=Value.ref a from rx)
    obtain ⟨mA,O,_⟩:=ins_get I.hok ea
    obtain ⟨od,J,_⟩:=O.look
    exact PySem.W.kia_one (PySem.W.kitx_own (cl.get _) cl.hd ha hn htk hm) I.kIn J e (fun z=>nomatch z) h
end
end L2
namespace L2
open PySem PySem.Spec PyProof.Rows
structure Room (k:Nat) (A:Around):Prop where
  hd:A.handled=none
  dp:A.depth+3*k+5<recursionLimit
  un:A.units+16*k+200<cLine
  gd:A.guards=some []
theorem Room.mono {j k:Nat}{A:Around} (r:Room k A) (h:j≤k):Room j A:=⟨r.hd,by have:=r.dp;trivial,by have:=r.un;trivial,r.gd⟩
theorem Room.deeper {k:Nat}{A:Around} (r:Room (k+1) A) (env:Env):Room k (A.deeper env):=
  ⟨r.hd,by have:=r.dp;show A.depth+1+3*k+5<_;trivial,by have:=r.un;show A.units+3+16*k+200<_;trivial,r.gd⟩
theorem Room.depth {k:Nat}{A:Around} (r:Room k A):A.depth<recursionLimit:=by have:=r.dp;trivial
theorem Room.units {k:Nat}{A:Around} (r:Room k A):A.units+64<cLine:=by have:=r.un;trivial
def tNil:TA:=fun _ H Q=>Q [] H
def tCons (ta:TE) (tr:TA):TA:=fun σ H Q=>ta σ H fun x H1=>tr σ H1 fun xs H2=>Q (x :: xs) H2
section
variable {X:Cx}{e:Expr}{es:List Expr}{te:TE}{t:TA}{pos:Pos}
theorem pa_nil:PA X [] tNil:=fun _ _ _ _ H Q I h=>Calls.spliced_nil ⟨[],H,I,.nil,h⟩
theorem pa_cons (ha:PE X e te) (hr:PA X es t) (hs:starEach (e :: es) X.env=(false,eval e X.env) :: starEach es X.env:=by rfl):PA X (e :: es) (tCons te t):=by
  intro pos pins s σ H Q I h
  rw [hs]
  show wpAny _ _ (spliced ((false,eval e X.env) :: backTo pos (starEach es X.env))) _ _ s
  refine Calls.spliced_cons (thn (ha pins s σ H _ I h) fun u s1 ⟨x,H1,I1,r1,q1⟩=>?_)
  exact thn (hr pos pins s1 σ H1 _ I1 q1) fun us s2 ⟨xs,H2,I2,r2,q2⟩=>⟨x :: xs,H2,I2,.cons r1 r2,q2⟩
def tLst (t:TA):TE:=fun σ H Q=>t σ H fun xs H1=>xs.length≤sizeLine∧∀p,H1 p=none→Q (.ref p) (upd H1 p (.lst xs))
theorem pe_lst (h:PA X es t):PE X (.List es pos) (tLst t):=by
  intro pins s σ H Q I hq
  refine wpAny_List_spliced (thn (h pos pins s σ H _ I hq) fun us s1 ⟨xs,H1,I1,r,z,q⟩=>⟨by rw [←r.length];exact z,?_⟩)
  have hf:H1 s1.heap.objs.size=none:=I1.hok.fresh (Nat.le_refl _)
  refine ⟨.ref s1.heap.objs.size,upd H1 s1.heap.objs.size (.lst xs),I1.laid (t':=s1.toks) (fun b u e=>Heap.get?_push_of_some _ e) (Nat.le_refl _) ?_,rfl,q _ hf⟩
  exact ⟨z,us,0,r,Heap.get?_push_size _ rfl⟩
end
abbrev Sp:=List V→Hp→VK→XK→Prop
abbrev CXT:=List Env→Hp→Shared→XK→Value→Shared→Prop
structure Env0 (P:Program) (w:World) (K:PySem.W.Frag) (mg:Str→Option Value) (base:Heap) (A:Around) (outer:List Env) (s:Shared) (H:Hp):Prop where
  frames:A.frames=some outer
  mod:Mod K mg base
  bs:∀b o,base.get? b=some o→s.heap.get? b=some o∧H b=none
  bsz:base.objs.size≤s.heap.objs.size
  funs:s.heap.FunFrames base outer
  frf:∀b∈frs outer,H b=none
  hok:HOk P w H s.heap
  bare:AllBare s.gens
def CE (outer:List Env) (P:Program) (w:World) (H:Hp) (s:Shared) (Q:VK) (u:Value) (s':Shared):Prop:=
  Ex2 fun v H'=>s'.os=s.os∧AllBare s'.gens∧Un (frs outer) [] H H' s.heap s'.heap∧HOk P w H' s'.heap∧RelV v u∧Q v H'
def CR (CX:CXT) (outer:List Env) (P:Program) (w:World) (H:Hp) (s:Shared) (Q:VK) (E:XK) (r:Result) (s':Shared):Prop:=
  match r with
  | .ok (.ret u)=>CE outer P w H s Q u s'
  | .ok _=>False
  | .error e=>CX outer H s E e s'
structure FnOk (P:Program) (w:World) (K:PySem.W.Frag) (mg:Str→Option Value) (base:Heap) (CX:CXT) (k:Nat) (f:Addr) (fd:FuncData) (ps:List Str) (sp:Sp):Prop where
  len:∀vs H Q E,sp vs H Q E→vs.length=ps.length
  run:∀(A:Around) (outer:List Env) (s:Shared) (H:Hp) (args:Args) (us:List Value) (vs:List V) (Q:VK) (E:XK),Room k A→Env0 P w K mg base A outer s H→BindsTo s fd args (ps.zip us)→Vals vs us→sp vs H Q E→
    codeAny (model P w) A (.call (.ref f) args) (CR CX outer P w H s Q E) s
section
variable {X:Cx}{pins:List (Addr×Obj)}{σ:St}{H:Hp}{s s':Shared}
theorem Inv.env0 (I:Inv X pins σ H s):Env0 X.prog X.w X.K X.mg X.base X.A X.stack s H:=
  ⟨I.ok.frames,I.ok.mod,I.bs,Nat.le_trans I.ok.bsz I.sz,I.stack,I.stkFree,I.hok,I.bare⟩
theorem Inv.after {Q:VK}{u:Value} (I:Inv X pins σ H s) (h:CE X.stack X.prog X.w H s Q u s'):EP X pins σ Q u s':=by
  obtain ⟨v,H',os,bare,un,hok,r,q⟩:=h
  obtain ⟨hh,g,d,t,os'⟩:=s'
  obtain rfl:os'=s.os:=os
  exact ⟨v,H',I.call (h':=hh) (g':=g) (d':=d) (t':=t) (ch:=[]) un hok bare (fun b z=>absurd z (by simp)),r,q⟩
end
def tCall (sp:Sp) (dvs:List V) (E:XK) (t:TA):TE:=fun σ H Q=>t σ H fun vs H1=>sp (vs++dvs) H1 Q E
def Binds (K:PySem.W.Frag) (fd:FuncData) (ps:List Str) (ds:List Value):Prop:=
  ∀(s:Shared) (us:List Value),K.In s.heap→(us++ds).length=ps.length→BindsTo s fd ⟨us,[]⟩ (ps.zip (us++ds))
theorem Binds.all {K:PySem.W.Frag}{fd:FuncData}{ps:List Str} (h:∀us:List Value,us.length=ps.length→bindArgs fd ⟨us,[]⟩=pure (ps.zip us)):Binds K fd ps []:=fun s us _ hl=>by
  rw [List.append_nil] at hl ⊢
  exact .of_eq (h us hl)
def Passes (CX:CXT) (X:Cx) (E:XK):Prop:=∀(pins:List (Addr×Obj)) (σ:St) (H:Hp) (s:Shared) (e:Value) (s':Shared),Inv X pins σ H s→CX X.stack H s E e s'→X.xe e s'
section
variable {X:Cx}{CX:CXT}{k:Nat}{f C:Addr}{fd:FuncData}{ps:List Str}{sp:Sp}{dvs:List V}{ds:List Value}{E:XK}{x m:Str}{p pos apos:Pos}{e o:Expr}{es:List Expr}{ta:TE}{t:TA}
theorem run_fn {pins:List (Addr×Obj)}{σ:St}{H:Hp}{s:Shared}{Q:VK}{us:List Value}{vs:List V} (F:FnOk X.prog X.w X.K X.mg X.base CX k f fd ps sp) (hr:Room k X.A) (hb:Binds X.K fd ps ds) (hd:Vals dvs ds) (hx:Passes CX X E)
    (I:Inv X pins σ H s) (r:Vals vs us) (h:sp (vs++dvs) H Q E):wpAny (model X.prog X.w) X.A (call (.ref f) us) (EP X pins σ Q) X.xe s:=by
  have r2:Vals (vs++dvs) (us++ds):=r.append hd
  have hl:(us++ds).length=ps.length:=by rw [←r2.length];exact F.len _ _ _ _ h
  refine wpAny_call (codeAny_mono (F.run X.A X.stack s H ⟨us,[]⟩ (us++ds) (vs++dvs) Q E hr I.env0 (hb s us I.kIn hl) r2 h) fun r s' hq=>?_)
  cases r with
  | error e=>exact hx pins σ H s e s' I hq
  | ok fl=>
    cases fl with
    | ret u=>exact I.after hq
    | next=>exact False.elim hq
    | brk=>exact False.elim hq
    | cont=>exact False.elim hq
theorem pe_call (F:FnOk X.prog X.w X.K X.mg X.base CX k f fd ps sp) (hr:Room k X.A) (hg:Gl X x) (hm:X.mg x=some (.ref f)) (hk:PySem.W.keepIn X.K (.ref f)=true) (hb:Binds X.K fd ps ds) (hd:Vals dvs ds) (hx:Passes CX X E)
    (ha:PA X (e :: es) t) (hdb:(x==("__debug__" : Str))=false:=by decide) (he:starEach (e :: es) X.env=(false,eval e X.env) :: starEach es X.env:=by rfl) (hpl:(backTo pos (starEach es X.env)).any (·.1)=false:=by rfl) :
    PE X (.Call (.Name x p) (e :: es) [] pos) (tCall sp dvs E t):=by
  intro pins s σ H Q I h
  refine wpAny_Call_Name_kw (ld_glob I hg hm ?_ hdb)
  refine PySem.W.callWith_K (h₀:=X.base) I.ok.mod.kin hk (thn (ha pos pins s σ H _ I h) fun us s1 ⟨vs,H1,I1,r,q⟩=>⟨I1.kIn,?_⟩) he hpl
  exact run_fn F hr hb hd hx I1 r q
end
section
variable {X:Cx}{CX:CXT}{k:Nat}{f C:Addr}{fd:FuncData}{ps ks:List Str}{sp:Sp}{E:XK}{x m:Str}{p pos apos kpos:Pos}{e o:Expr}{es:List Expr}{kws:List Keyword}{te ta:TE}{t tk:TA}{nm:Option Str}
variable {g:List Value→List Value→List Value}{gV:List V→List V→List V}
end
structure FnScope (N P:List Str) (sc:Scope):Prop where
  kind:sc.kind=.function
  co:sc.isCoroutine=false
  gen:sc.isGenerator=false
  nd:N.Nodup
  pre:N.take P.length=P
  par:∀x∈P,sc.names.lookup x=some .local∨sc.names.lookup x=some .cell
  nofree:∀y∈sc.names,y.2≠.free
theorem bindL_out {kindOf:Str→Option NameKind}{x:Str}:∀{binds:List (Str×Value)}{m:Str→Option Value},(∀v,(x,v)∉binds)→bindL kindOf binds m x=m x
  | [],_,_=>rfl
  | (n,v) :: r,m,h=>by
    unfold bindL
    rw [bindL_out fun w hw=>h w (List.mem_cons_of_mem _ hw)]
    split
    · have:x≠n:=by rintro rfl;exact h v List.mem_cons_self
      simp [this]
    · rfl
theorem bindC_out {kindOf:Str→Option NameKind}{x:Str}:∀{binds:List (Str×Value)}{m:Str→Option Value},(∀v,(x,v)∉binds)→bindC kindOf binds m x=m x
  | [],_,_=>rfl
  | (n,v) :: r,m,h=>by
    unfold bindC
    rw [bindC_out fun w hw=>h w (List.mem_cons_of_mem _ hw)]
    split
    · rfl
    · have:x≠n:=by rintro rfl;exact h v List.mem_cons_self
      simp [this]
theorem bindL_get {kindOf:Str→Option NameKind}{x:Str}{v:Value}:∀{P:List Str}{vs:List Value}{i:Nat}{m:Str→Option Value},P.Nodup→P[i]?=some x→vs[i]?=some v→kindOf x=some .local→
    bindL kindOf (P.zip vs) m x=some v
  | [],_,_,_,_,h,_,_=>by simp at h
  | _ :: _,[],_,_,_,_,h,_=>by simp at h
  | p :: P,w :: vs,0,m,nd,h1,h2,hk=>by
    simp at h1 h2;subst h1;subst h2
    show bindL kindOf ((p,w) :: P.zip vs) m p=_
    unfold bindL
    rw [bindL_out fun v hv=>(List.nodup_cons.mp nd).1 (List.of_mem_zip hv).1,if_pos hk]
    simp
  | p :: P,w :: vs,i+1,m,nd,h1,h2,hk=>by
    show bindL kindOf ((p,w) :: P.zip vs) m x=_
    unfold bindL
    exact bindL_get (i:=i) (List.nodup_cons.mp nd).2 (by simpa using h1) (by simpa using h2) hk
theorem bindC_get {kindOf:Str→Option NameKind}{x:Str}{v:Value}:∀{P:List Str}{vs:List Value}{i:Nat}{m:Str→Option Value},P.Nodup→P[i]?=some x→vs[i]?=some v→kindOf x≠some .local→
    bindC kindOf (P.zip vs) m x=some v
  | [],_,_,_,_,h,_,_=>by simp at h
  | _ :: _,[],_,_,_,_,h,_=>by simp at h
  | p :: P,w :: vs,0,m,nd,h1,h2,hk=>by
    simp at h1 h2;subst h1;subst h2
    show bindC kindOf ((p,w) :: P.zip vs) m p=_
    unfold bindC
    rw [bindC_out fun v hv=>(List.nodup_cons.mp nd).1 (List.of_mem_zip hv).1,if_neg hk]
    simp
  | p :: P,w :: vs,i+1,m,nd,h1,h2,hk=>by
    show bindC kindOf ((p,w) :: P.zip vs) m x=_
    unfold bindC
    exact bindC_get (i:=i) (List.nodup_cons.mp nd).2 (by simpa using h1) (by simpa using h2) hk
def start (N:List Str) (vs:List V):St:=vs.map some++List.replicate (N.length - vs.length) none
def cxOf (CX:CXT) (P:Program) (w:World) (K:PySem.W.Frag) (mg:Str→Option Value) (base:Heap) (N:List Str) (qual:Str) (scope:Scope) (f:Addr) (cd:Value) (A:Around) (outer:List Env) (s:Shared) (H:Hp) (E:XK):Cx where
  prog:=P
  w:=w
  K:=K
  mg:=mg
  base:=base
  A:=A.deeper (envOfC qual scope s.heap.objs.size f cd)
  N:=N
  s₀:=s
  H₀:=H
  env:=envOfC qual scope s.heap.objs.size f cd
  outer:=outer
  stack:=envOfC qual scope s.heap.objs.size f cd :: outer
  ex:=[]
  calm:=true
  fn:=fun _=>true
  pn:=[]
  xe:=fun e s'=>wpAny (model P w) (A.deeper (envOfC qual scope s.heap.objs.size f cd)) (leaving (envOfC qual scope s.heap.objs.size f cd) e) (fun _ s''=>CX outer H s E e s'') (fun e' s''=>CX outer H s E e' s'') s'
theorem cell_has {sc:Scope}{n:Nat}{x:Str} (h:sc.names.lookup x=some .cell):∃c,(cellsFrom n sc.names []).lookup x=some c:=by
  have q:=PySem.W.cellsFrom_some sc.names n [] (.inl h)
  exact Option.isSome_iff_exists.mp q
theorem inv_start {CX:CXT}{P:Program}{w:World}{K:PySem.W.Frag}{mg:Str→Option Value}{base:Heap}{N ps:List Str}{qual:Str}{scope:Scope}{f:Addr}{cd:Value}{A:Around}{outer:List Env}{s s1:Shared}{H:Hp}{E:XK}{us:List Value}{vs:List V}
    (S:FnScope N ps scope) (hd:A.handled=none) (e0:Env0 P w K mg base A outer s H) (hl:vs.length=ps.length) (r:Vals vs us)
    (x:InCallC s s.heap.objs.size (bindL (envOfC qual scope s.heap.objs.size f cd).kindOf (ps.zip us) fun _=>none) (cellsFrom (s.heap.objs.size+1) scope.names []) (bindC (envOfC qual scope s.heap.objs.size f cd).kindOf (ps.zip us) fun _=>none) s1) :
    Inv (cxOf CX P w K mg base N qual scope f cd A outer s H E) [] (start N vs) H s1:=by
  have hpl:ps.length≤N.length:=by have:=congrArg List.length S.pre;rw [List.length_take] at this;trivial
  obtain ⟨h1,tk,rfl,hk⟩:=x.done
  have noA:∀b:Addr,b∉(cxOf CX P w K mg base N qual scope f cd A outer s H E).ex:=fun b z=>absurd (show b∈([]:List Addr) from z) (by simp)
  refine ⟨⟨e0.mod,S.kind,rfl,rfl,Nat.le_refl _,fun y z c h1 h2=>?_,fun y hy=>?_,fun y c _ h=>?_,fun _=>hd,Around.frames_deeper e0.frames,.inr ⟨rfl,rfl⟩,fun b z=>absurd z (noA b),e0.bs,e0.bsz,fun b _ _=>noA b,fun b z=>absurd z (noA b),e0.funs,e0.frf⟩,
    rfl,e0.bare,Un.kept hk,⟨_,x.toInCall.ns,fun i y v h1 h2 h3=>?_⟩,fun y c h=>⟨_,x.cell y c h⟩,e0.hok.fresh (Nat.le_refl _),fun y c h=>?_,fun p hp=>absurd (show p∈([]:List (Addr×Obj)) from hp) (by simp),e0.hok.kept hk,?_⟩
  · exact name_of_addr x.apart (PySem.mem_of_lookup h1) (PySem.mem_of_lookup h2)
  · have hy:scope.names.lookup y=some .cell∨scope.names.lookup y=some .free:=hy
    rcases hy with hy | hy
    · exact cell_has hy
    · exact absurd rfl (S.nofree _ (PySem.mem_of_lookup hy))
  · exact Nat.le_of_lt (x.above y c (PySem.mem_of_lookup h))
  · have hi:i<vs.length:=by
      unfold start at h2
      by_cases hi:i<vs.length
      · exact hi
      · rw [List.getElem?_append_right (by simpa using hi)] at h2
        rw [List.getElem?_replicate] at h2
        split at h2 <;> cases h2
    have ha:vs[i]?=some v:=by
      unfold start at h2
      rw [List.getElem?_append_left (by simpa using hi),List.getElem?_map] at h2
      cases e:vs[i]? with
      | none=>rw [e] at h2;cases h2
      | some a=>rw [e] at h2;cases h2;rfl
    obtain ⟨u,hu,rv⟩:=r.get ha
    have hp:ps[i]?=some y:=by
      rw [←S.pre,List.getElem?_take_of_lt (by trivial)];exact h1
    have ndP:ps.Nodup:=by rw [←S.pre];exact S.nd.sublist (List.take_sublist _ _)
    refine ⟨u,rv,?_⟩
    rcases S.par y (List.mem_of_getElem? hp) with k | k
    · exact .inl ⟨k,bindL_get ndP hp hu k⟩
    · obtain ⟨c,e⟩:=cell_has (n:=s.heap.objs.size+1) k
      refine .inr ⟨.inl k,c,e,?_⟩
      have q:=x.cell y c e
      rw [bindC_get ndP hp hu (by show scope.names.lookup y≠_;rw [k];decide)] at q
      exact q
  · exact e0.hok.fresh (Nat.le_of_lt (x.above y c (PySem.mem_of_lookup h)))
  · unfold start
    show _=N.length
    rw [List.length_append,List.length_map,List.length_replicate]
    trivial
theorem fn_of {CX:CXT}{P:Program}{w:World}{K:PySem.W.Frag}{mg:Str→Option Value}{base:Heap}{k:Nat}{f:Addr}{name qual:Str}{params:Arguments}{body:List Stmt}{scope:Scope}{dV kV doc pm cdv ct oc:Value}{an od:Option Addr}
    {osl:Array (Option Value)}{N ps:List Str}{sp:Sp} (lk:K.lookup f=some ⟨oc,od,.func (PySem.W.fnOf name qual params body scope dV kV doc pm an cdv ct),osl⟩) (hcd:PySem.W.codeIn K cdv qual=true) (S:FnScope N ps scope)
    (len:∀vs H Q E,sp vs H Q E→vs.length=ps.length)
    (hbody:∀(A:Around) (outer:List Env) (s:Shared) (H:Hp) (vs:List V) (Q:VK) (E:XK),Room k (A.deeper (envOfC qual scope s.heap.objs.size f cdv))→sp vs H Q E→
      ∃t,PSs (cxOf CX P w K mg base N qual scope f cdv A outer s H E) body t∧t { nx:=fun _ H'=>Q .non H',rt:=Q } (start N vs) H) :
    FnOk P w K mg base CX (k+1) f (PySem.W.fnOf name qual params body scope dV kV doc pm an cdv ct) ps sp:=by
  refine ⟨len,fun A outer s H args us vs Q E hr e0 hb r hsp=>?_⟩
  have hl:=len _ _ _ _ hsp
  have KX:K.In s.heap:=e0.mod.kin.keeps fun b o e=>(e0.bs b o e).1
  have lim:s.heap.NoLimit:=e0.mod.nolimit.keeps fun b o e=>(e0.bs b o e).1
  have hkind:∀y∈ps.zip us,scope.names.lookup y.1=some .local∨(scope.names.lookup y.1=some .cell∧((cellsFrom (s.heap.objs.size+1) scope.names []).lookup y.1).isSome=true):=fun ⟨n,v⟩ hy=>by
    rcases S.par n (List.of_mem_zip hy).1 with q | q
    · exact .inl q
    · exact .inr ⟨q,PySem.W.cellsFrom_some _ _ _ (.inl q)⟩
  refine codeAny_call_function hr.depth (KX _ _ lk) rfl S.co S.gen rfl (PySem.W.codeRec_of KX hcd) (hb _ _ _ _ ?_)
  refine wpAny_newFunctionEnv_cells S.kind hkind fun env he s1 x=>?_
  subst he
  refine ⟨lim.keeps x.toInCall.keep,codeAny_func ?_⟩
  obtain ⟨t,ht,hq⟩:=hbody A outer s H vs Q E (hr.deeper _) hsp
  have I:Inv (cxOf CX P w K mg base N qual scope f cdv A outer s H E) [] (start N vs) H s1:=inv_start S hr.hd e0 hl r x
  refine wpAny_mono (ht [] s1 (start N vs) H _ I hq) (fun fl s' hs=>?_) fun e s' hs=>hs
  have fin:∀{σ':St}{H':Hp}{v:V}{u:Value},Inv (cxOf CX P w K mg base N qual scope f cdv A outer s H E) [] σ' H' s'→RelV v u→Q v H'→CE outer P w H s Q u s':=
    fun {σ' H' v u} J rv q=>⟨v,H',J.os,J.bare,J.base,J.hok,rv,q⟩
  cases fl with
  | ret u=>
    obtain ⟨v,σ',H',J,rv,q⟩:=hs
    exact fin J rv q
  | next=>
    obtain ⟨σ',H',J,q⟩:=hs
    exact fin (v:=V.non) (u:=Value.none) J rfl q
  | brk=>
    obtain ⟨_,_,_,q⟩:=hs
    exact False.elim q
  | cont=>
    obtain ⟨_,_,_,q⟩:=hs
    exact False.elim q
end L2
namespace L2
open PySem PySem.Spec PyProof.Rows
section
variable {X:Cx}{x:Str}{p pos:Pos}{e:Expr}{es:List Expr}{t:TA}{id T:String}{r:List V→Hp→VK→Prop}
def tCB (r:List V→Hp→VK→Prop) (t:TA):TE:=fun σ H Q=>t σ H fun vs H1=>r vs H1 Q
theorem pe_callB (hc:CallR X (.builtin id) r) (hg:Gl X x) (hm:X.mg x=none) (hv:bootBuiltins x=some (.builtin id)) (ha:PA X (e :: es) t) (hn:x≠"__name__" := by decide) (hdb:(x==("__debug__" : Str))=false:=by decide)
    (he:starEach (e :: es) X.env=(false,eval e X.env) :: starEach es X.env:=by rfl) (hpl:(backTo pos (starEach es X.env)).any (·.1)=false:=by rfl):PE X (.Call (.Name x p) (e :: es) [] pos) (tCB r t):=by
  intro pins s σ H Q I h
  refine wpAny_Call_Name_kw (ld_blt I hg hm hv ?_ hn hdb)
  exact PyProof.Rows.callWith_builtin1 (thn (ha pos pins s σ H _ I h) fun us s1 ⟨vs,H1,I1,r1,q1⟩=>hc pins s1 σ H1 vs us Q I1 r1 q1) he hpl
theorem pe_callTy (hc:CallR X (.type T) r) (hg:Gl X x) (hm:X.mg x=none) (hv:bootBuiltins x=some (.type T)) (ha:PA X (e :: es) t) (hn:x≠"__name__" := by decide) (hdb:(x==("__debug__" : Str))=false:=by decide)
    (he:starEach (e :: es) X.env=(false,eval e X.env) :: starEach es X.env:=by rfl) (hpl:(backTo pos (starEach es X.env)).any (·.1)=false:=by rfl):PE X (.Call (.Name x p) (e :: es) [] pos) (tCB r t):=by
  intro pins s σ H Q I h
  refine wpAny_Call_Name_kw (ld_blt I hg hm hv ?_ hn hdb)
  exact PyProof.Rows.callWith_type1 (thn (ha pos pins s σ H _ I h) fun us s1 ⟨vs,H1,I1,r1,q1⟩=>hc pins s1 σ H1 vs us Q I1 r1 q1) he hpl
end
end L2
namespace HT
open PySem PyProof.Rows
section
open PySem.SeqAt
open PySem.AutoSeq1 (wpAny_loadPart')
open PySem.MeetsSeq PySem.MeetsSeq2 PySem.MeetsSeq3
end
section
variable {prog:Program}{w:World}{A:Around}{E:Value→Shared→Prop}{s:Shared}
def sIx (n d:Nat):Option Int→Nat
  | none=>d
  | some v=>if v<0 then (v+(n:Int)).toNat else min v.toNat n
theorem sIx_none (n d:Nat):sIx n d none=d:=rfl
theorem sIx_nat (n d k:Nat):sIx n d (some (k:Int))=min k n:=by
  show (if (k:Int)<0 then ((k:Int)+(n:Int)).toNat else min (k:Int).toNat n)=min k n
  rw [if_neg (by trivial),Int.toNat_natCast]
theorem sIx_le (n d:Nat) (hd:d≤n) (o:Option Int):sIx n d o≤n:=by
  cases o with
  | none=>exact hd
  | some v=>
    show (if v<0 then (v+(n:Int)).toNat else min v.toNat n)≤n
    by_cases hv:v<0
    · rw [if_pos hv];trivial
    · rw [if_neg hv];exact Nat.min_le_right _ _
theorem clip_eq (v:Int) (n d:Nat):(if v<0 then max (v+(n:Int)) 0 else min v (n:Int))=((sIx n d (some v):Nat):Int):=by
  show (if v<0 then max (v+(n:Int)) 0 else min v (n:Int))=(((if v<0 then (v+(n:Int)).toNat else min v.toNat n):Nat):Int)
  by_cases hv:v<0
  · simp only [if_pos hv];trivial
  · simp only [if_neg hv];trivial
theorem adjust_gen (lo hi:Option Int) (n:Nat):Builtin.Slice.sliceAdjust lo hi 1 (n:Int)=(((sIx n 0 lo:Nat):Int),((sIx n n hi:Nat):Int)):=by
  have h1:¬((1:Int)<0):=by trivial
  unfold Builtin.Slice.sliceAdjust
  simp only [h1,if_false]
  refine Prod.ext ?_ ?_
  · cases lo with
    | none=>rfl
    | some v=>exact clip_eq v n 0
  · cases hi with
    | none=>rfl
    | some v=>exact clip_eq v n n
theorem places_gen (i j:Nat):Builtin.Slice.slicePlaces (i:Int) (j:Int) 1=j - i:=by
  unfold Builtin.Slice.slicePlaces
  have h1:(1:Int) > 0:=by trivial
  simp only [h1,if_true,Int.ediv_one]
  split <;> trivial
theorem slicePart_ {v:Value}{o:Option Int}{Q:Option Int→Shared→Prop} (p:IsPart v o) (h:Q o s):wpAny (model prog w) A (Builtin.Slice.slicePartIndex v) Q E s:=by
  cases p with
  | none=>exact slicePart_none h
  | int i t=>exact slicePart_int h
theorem sliceApplied_gen {sl:Addr}{vl vu:Value}{lo hi:Option Int}{n:Nat}{Q:Int×Int×Nat→Shared→Prop} (hs:s.heap.IsSliceOf sl vl vu .none) (pl:IsPart vl lo) (pu:IsPart vu hi)
    (h:Q (((sIx n 0 lo:Nat):Int),1,sIx n n hi - sIx n 0 lo) s):wpAny (model prog w) A (Builtin.Slice.sliceApplied (.ref sl) (pure (n:Int))) Q E s:=by
  obtain ⟨os,hos,hcs,hds⟩:=id hs
  unfold Builtin.Slice.sliceApplied Builtin.Slice.sliceFields
  refine wpAny_bind (wpAny_bind (wpAny_field hos hds (x:=vl) rfl (wpAny_bind (wpAny_field hos hds (x:=vu) rfl (wpAny_bind (wpAny_field hos hds (x:=.none) rfl (wpAny_pure ?_)))))))
  refine wpAny_bind (slicePart_none ?_)
  show wpAny _ _ (if ((1:Int)==0)=true then _ else _) _ _ s
  rw [if_neg (by decide)]
  refine wpAny_bind (slicePart_ pl (wpAny_bind (slicePart_ pu (wpAny_bind (wpAny_pure ?_)))))
  show wpAny _ _ (match Builtin.Slice.sliceAdjust lo hi 1 (n:Int) with | (lo,hi)=>pure (lo,(1:Int),Builtin.Slice.slicePlaces lo hi 1)) _ _ s
  rw [adjust_gen lo hi n]
  show wpAny _ _ (pure (((sIx n 0 lo:Nat):Int),(1:Int),Builtin.Slice.slicePlaces ((sIx n 0 lo:Nat):Int) ((sIx n n hi:Nat):Int) 1)) _ _ s
  rw [places_gen]
  exact wpAny_pure h
theorem pick_gen (xs:Array Value) (i k:Nat):((List.range k).filterMap fun (m:Nat)=>xs[((i:Int)+(m:Int)*1).toNat]?).toArray=((xs.toList.drop i).take k).toArray:=by
  have e:(fun (m:Nat)=>xs[((i:Int)+(m:Int)*1).toNat]?)=fun m=>xs[i+m]?:=by
    funext m
    have:((i:Int)+(m:Int)*1).toNat=i+m:=by trivial
    rw [this]
  rw [e]
  have:=pick_run xs i k
  rw [List.filterMap_map] at this
  have e2:((fun x=>xs[x]?) ∘ fun x=>i+x)=fun m=>xs[i+m]?:=rfl
  rw [e2] at this
  rw [this]
theorem getItem_tuple_cut {t sl:Addr}{items:Array Value}{vl vu:Value}{lo hi:Option Int}{Q:Value→Shared→Prop} (ht:IsTup s.heap t items) (hs:s.heap.IsSliceOf sl vl vu .none) (pl:IsPart vl lo) (pu:IsPart vu hi)
    (hw:¬(sIx items.size 0 lo=0∧sIx items.size items.size hi=items.size))
    (h:Q (.ref s.heap.objs.size) { s with heap:=s.heap.push { cls:=.type "tuple",data:=.seq ((items.toList.drop (sIx items.size 0 lo)).take (sIx items.size items.size hi - sIx items.size 0 lo)).toArray } })
    (hsz:items.size≤sizeLine):wpAny (model prog w) A (getItem (.ref t) (.ref sl)) Q E s:=by
  have htake:sizeOk (.seq ((items.toList.drop (sIx items.size 0 lo)).take (sIx items.size items.size hi - sIx items.size 0 lo)).toArray):=by
    show ((items.toList.drop (sIx items.size 0 lo)).take (sIx items.size items.size hi - sIx items.size 0 lo)).toArray.size≤sizeLine
    rw [List.size_toArray,List.length_take,List.length_drop,Array.length_toList]
    trivial
  have hj:sIx items.size items.size hi≤items.size:=sIx_le _ _ (Nat.le_refl _) hi
  obtain ⟨os,hos,hcs,hds⟩:=id hs
  have hTs:s.TypeIs (.ref sl) "slice" := ⟨os,hos,hcs⟩
  unfold getItem
  try with_reducible refine wpAny_holding ?_
  first | refine wpAny_bind (wpAny_pure ?_) | skip
  refine wpAny_bind (wpAny_sequenceKey ht.typeIs (by decide) ?_)
  refine wpAny_bind (wpAny_callSpecial?_slot (name:=Str.ofString "__getitem__") ht.typeIs PyProof.Rows.slot_tuple_getitem
    (wpAny_call_entry PyProof.Rows.slot_tuple_getitem ht.typeIs entry_tuple_getitem ?_ (args_tuple_getitem _ _)))
  show wpAny _ _ (Builtin.Tuple.tupleItemsOf (.ref t) >>= _) _ _ s
  refine wpAny_bind (tupleItemsOf_ ht ?_)
  refine wpAny_bind (wpAny_typeOf hTs ?_)
  rw [if_pos (by decide)]
  refine wpAny_bind (sliceApplied_gen hs pl pu ?_)
  have hno:¬((((sIx items.size 0 lo:Nat):Int)==0 && (1:Int)==1 && (sIx items.size items.size hi - sIx items.size 0 lo)==items.size)=true):=by
    intro q
    rw [Bool.and_eq_true,Bool.and_eq_true] at q
    have q1:((sIx items.size 0 lo:Nat):Int)=0:=eq_of_beq q.1.1
    have q2:sIx items.size items.size hi - sIx items.size 0 lo=items.size:=eq_of_beq q.2
    exact hw ⟨by trivial,by trivial⟩
  show wpAny _ _ (if (((sIx items.size 0 lo:Nat):Int)==0 && (1:Int)==1 && (sIx items.size items.size hi - sIx items.size 0 lo)==items.size)=true then _ else _) _ _ s
  rw [if_neg hno,pick_gen]
  first
    | exact wpAny_bind (m:=Builtin.Tuple.tupleExact _) (wpAny_newObj_type (wpAny_pure ⟨_,rfl,wpAny_pure h⟩) htake)
    | exact wpAny_bind (m:=Builtin.Tuple.tupleExact _) (wpAny_newObj_type (wpAny_bind (wpAny_pure (wpAny_pure ⟨_,rfl,wpAny_pure h⟩))) htake)
    | exact wpAny_bind (wpAny_bind (m:=Builtin.Tuple.tupleExact _) (wpAny_newObj_type (wpAny_pure (wpAny_pure ⟨_,rfl,wpAny_pure h⟩)) htake))
    | exact wpAny_bind (wpAny_bind (m:=Builtin.Tuple.tupleExact _) (wpAny_newObj_type (wpAny_pure ⟨_,rfl,wpAny_pure h⟩) htake))
end
end HT
namespace L2
open PySem PySem.Spec PyProof.Rows
abbrev TO:=St→Hp→(Option Int→Hp→Prop)→Prop
def PO (X:Cx) (e:Option Expr) (t:TO):Prop:=
  ∀(pins:List (Addr×Obj)) (s:Shared) (σ:St) (H:Hp) (Q:Option Int→Hp→Prop),Inv X pins σ H s→t σ H Q→
    wpAny (model X.prog X.w) X.A (evalPart e X.env) (fun u s'=>Ex2 fun o H'=>Inv X pins σ H' s'∧IsPart u o∧Q o H') X.xe s
def tNoPart:TO:=fun _ H Q=>Q none H
def tPart (t:TE):TO:=fun σ H Q=>t σ H fun x H1=>IsIn x fun i=>Q (some i) H1
section
variable {X:Cx}{e:Expr}{te:TE}{lo hi:Option Expr}{tl th:TO}{pos p2:Pos}
theorem po_none:PO X none tNoPart:=by
  intro pins s σ H Q I h
  rw [evalPart_none]
  exact wpAny_pure ⟨none,H,I,.none,h⟩
theorem po_some (h:PE X e te):PO X (some e) (tPart te):=by
  intro pins s σ H Q I hw
  rw [evalPart_some]
  refine thn (h pins s σ H _ I hw) fun u s1 ⟨x,H1,I1,r1,q1⟩=>?_
  obtain ⟨i,rfl,q⟩:=q1
  obtain ⟨t,rfl⟩:=r1
  exact ⟨some i,H1,I1,.int i t,q⟩
def SlR (X:Cx) (r:V→Option Int→Option Int→Hp→VK→Prop):Prop:=
  ∀(pins:List (Addr×Obj)) (s:Shared) (σ:St) (H:Hp) (x:V) (v vl vu:Value) (lo hi:Option Int) (sl:Addr) (Q:VK),Inv X pins σ H s→RelV x v→s.heap.IsSliceOf sl vl vu .none→IsPart vl lo→IsPart vu hi→r x lo hi H Q→
    Ex2 fun T id=>typeLookup (.type T) "__getitem__" = pure (some (.builtin id))∧s.TypeIs v T∧wpAny (model X.prog X.w) X.A (getItem v (.ref sl)) (EP X pins σ Q) X.xe s
def tSl (r:V→Option Int→Option Int→Hp→VK→Prop) (te:TE) (tl th:TO):TE:=fun σ H Q=>te σ H fun x H1=>tl σ H1 fun l H2=>th σ H2 fun u H3=>r x l u H3 Q
theorem pe_slice {r:V→Option Int→Option Int→Hp→VK→Prop} (hr:SlR X r) (he:PE X e te) (hl:PO X lo tl) (hu:PO X hi th):PE X (.Subscript e (.Slice lo hi none p2) pos) (tSl r te tl th):=by
  intro pins s σ H Q I h
  refine Subscript_ (thn (he pins s σ H _ I h) fun v s1 ⟨x,H1,I1,r1,q1⟩=>?_)
  refine wpAny_Slice (thn (hl pins s1 σ H1 _ I1 q1) fun vl s2 ⟨l,H2,I2,pl,q2⟩=>thn (hu pins s2 σ H2 _ I2 q2) fun vu s3 ⟨u,H3,I3,pu,q3⟩=>?_)
  rw [evalPart_none]
  refine wpAny_pure ?_
  have I4:Inv X pins σ H3 { s3 with heap:=s3.heap.push { cls:=.type "slice",data:=.fields #[vl,vu,.none] } }:=I3.kept (t':=s3.toks) fun b ob q=>Heap.get?_push_of_some _ q
  obtain ⟨T,id,hT,ht,hg⟩:=hr pins { s3 with heap:=s3.heap.push { cls:=.type "slice",data:=.fields #[vl,vu,.none] } } σ H3 x v vl vu l u s3.heap.objs.size Q I4 r1 (Heap.IsSliceOf.new ..) pl pu q3
  show wpAny (model X.prog X.w) X.A (subscriptTail e (.Slice lo hi none p2) v (.ref s3.heap.objs.size)) (EP X pins σ Q) X.xe { s3 with heap:=s3.heap.push { cls:=.type "slice",data:=.fields #[vl,vu,.none] } }
  exact tail_any (ops:=[.ref s3.heap.objs.size,v]) ht hT hg (by with_unfolding_all rfl)
def cutV (xs:List V) (lo hi:Option Int):List V:=(xs.drop (HT.sIx xs.length 0 lo)).take (HT.sIx xs.length xs.length hi - HT.sIx xs.length 0 lo)
theorem cutV_length (xs:List V) (lo hi:Option Int):(cutV xs lo hi).length≤xs.length:=by
  unfold cutV
  rw [List.length_take,List.length_drop]
  trivial
inductive rSlT_ (K:PySem.W.Frag) (x:V) (lo:Option Int) (hi:Option Int) (H:Hp) (Q:VK):Prop
  | mk (a:_) (xs:_) (h0:x=.ref a) (h1:SqT K H a xs) (h2:¬(HT.sIx xs.length 0 lo=0∧HT.sIx xs.length xs.length hi=xs.length)) (h3:∀p,H p=none→Q (.ref p) (upd H p (.tup (cutV xs lo hi))))
def rSlT (K:PySem.W.Frag):V→Option Int→Option Int→Hp→VK→Prop:=fun x lo hi H Q=>rSlT_ K x lo hi H Q
theorem sl_tup:SlR X (rSlT X.K):=by
  intro pins s σ H x v vl vu lo hi sl Q I rx hs pl pu h
  obtain ⟨a,xs,rfl,hx,hw,q⟩:=h
  cases rx
  obtain ⟨its,r,ht,hz⟩:=I.tuple hx
  have hlen:its.toArray.size=xs.length:=by rw [List.size_toArray];exact r.length.symm
  refine ⟨"tuple",_,PyProof.Rows.slot_tuple_getitem.lookup,ht.typeIs,?_⟩
  refine HT.getItem_tuple_cut ht hs pl pu (by rw [hlen];exact hw) ?_ (by rw [hlen];exact hz)
  rw [hlen]
  refine ⟨.ref s.heap.objs.size,_,I.laid (t':=s.toks) (o:=.tup (cutV xs lo hi)) (fun b ob q=>Heap.get?_push_of_some _ q) (Nat.le_refl _) ?_,rfl,q _ (I.hok.fresh (Nat.le_refl _))⟩
  exact ⟨Nat.le_trans (cutV_length xs lo hi) hz,_,(r.drop (HT.sIx xs.length 0 lo)).take (HT.sIx xs.length xs.length hi - HT.sIx xs.length 0 lo),IsTup.new _ _,_,Heap.get?_push_size _ rfl,rfl⟩
end
end L2
namespace L2
open PySem PySem.Spec PyProof.Rows
def ixN (n:Nat) (i:Int):Option Nat:=if 0≤i then (if i<n then some i.toNat else none) else if -(n:Int)≤i then some (i+n).toNat else none
def atI {α:Type} (xs:List α) (i:Int):Option α:=(ixN xs.length i).bind fun j=>xs[j]?
theorem ixN_seq {n:Nat}{i:Int}{j:Nat} (h:ixN n i=some j):seqIndex? i n=some j∧j<n∧-(n:Int)≤i∧i<n:=by
  unfold ixN at h
  by_cases h0:0≤i
  · rw [if_pos h0] at h
    by_cases h1:i<n
    · rw [if_pos h1] at h
      have e:i.toNat=j:=Option.some.inj h
      exact ⟨by rw [seqIndex_of h0 h1,e],by trivial,by trivial,h1⟩
    · rw [if_neg h1] at h;cases h
  · rw [if_neg h0] at h
    by_cases h1:-(n:Int)≤i
    · rw [if_pos h1] at h
      have e:(i+n).toNat=j:=Option.some.inj h
      exact ⟨by rw [seqIndex_neg (by trivial) h1,e],by trivial,h1,by trivial⟩
    · rw [if_neg h1] at h;cases h
theorem atI_get {α:Type}{xs:List α}{i:Int}{v:α} (h:atI xs i=some v):∃j,seqIndex? i xs.length=some j∧xs[j]?=some v∧j<xs.length∧-(xs.length:Int)≤i∧i<xs.length:=by
  unfold atI at h
  cases e:ixN xs.length i with
  | none=>rw [e] at h;cases h
  | some j=>
    rw [e] at h
    obtain ⟨h1,h2,h3,h4⟩:=ixN_seq e
    exact ⟨j,h1,h,h2,h3,h4⟩
theorem atI_nat {α:Type}{xs:List α}{j:Nat}{v:α} (h:xs[j]?=some v):atI xs (j:Int)=some v:=by
  have hj:j<xs.length:=(List.getElem?_eq_some_iff.mp h).1
  have e:ixN xs.length (j:Int)=some j:=by
    unfold ixN
    rw [if_pos (by trivial),if_pos (by trivial)];simp
  unfold atI;rw [e];exact h
theorem atI_last {α:Type} (xs:List α) (v:α):atI (xs++[v]) (-1)=some v:=by
  have hl:(xs++[v]).length=xs.length+1:=by simp
  have e:ixN (xs++[v]).length (-1)=some xs.length:=by
    unfold ixN
    rw [hl,if_neg (by decide),if_pos (by trivial)]
    congr 1
    trivial
  unfold atI
  rw [e]
  show (xs++[v])[xs.length]?=some v
  simp
def PlainIx (b:Expr):Prop:=∀o i,subscripted b false o i=operate [o,i] (getItem o i)
def IxR (X:Cx) (r:R2):Prop:=
  ∀(value slice:Expr) (pins:List (Addr×Obj)) (s:Shared) (σ:St) (H:Hp) (x y:V) (v u:Value) (Q:VK),Inv X pins σ H s→RelV x v→RelV y u→r x y H Q→
    subscripted slice false v u=operate [v,u] (getItem v u)→wpAny (model X.prog X.w) X.A (subscriptTail value slice v u) (EP X pins σ Q) X.xe s
def MtR (X:Cx) (id:String) (r:V→List V→Hp→VK→Prop):Prop:=
  ∀(pins:List (Addr×Obj)) (s:Shared) (σ:St) (H:Hp) (x:V) (xs:List V) (v:Value) (us:List Value) (Q:VK),Inv X pins σ H s→RelV x v→Vals xs us→r x xs H Q→
    wpAny (model X.prog X.w) X.A (call (.builtin id) (v :: us)) (EP X pins σ Q) X.xe s
section
variable {X:Cx}{a b:Expr}{ta tb:TE}{pos:Pos}
theorem IxR.or {r r':R2} (h:IxR X r) (h':IxR X r'):IxR X (fun x y H Q=>r x y H Q∨r' x y H Q):=by
  intro value slice pins s σ H x y v u Q I rx ry q hs
  rcases q with q | q
  · exact h value slice pins s σ H x y v u Q I rx ry q hs
  · exact h' value slice pins s σ H x y v u Q I rx ry q hs
theorem pe_ix {r:R2} (hr:IxR X r) (ha:PE X a ta) (hb:PE X b tb) (hs:PlainIx b):PE X (.Subscript a b pos) (tOp r ta tb):=by
  intro pins s σ H Q I h
  exact Subscript_ (binT ha hb I h fun v u s2 x y H2 I2 rx ry q=>hr a b pins s2 σ H2 x y v u Q I2 rx ry q (hs _ _))
inductive rIxL_ (K:PySem.W.Frag) (x:V) (y:V) (H:Hp) (Q:VK):Prop
  | mk (p:_) (xs:_) (i:_) (v:_) (h0:x=.ref p) (h1:y=.int i) (h2:SqL K H p xs) (h3:atI xs i=some v) (h4:Q v H)
def rIxL (K:PySem.W.Frag):R2:=fun x y H Q=>rIxL_ K x y H Q
inductive rIxT_ (K:PySem.W.Frag) (x:V) (y:V) (H:Hp) (Q:VK):Prop
  | mk (p:_) (xs:_) (i:_) (v:_) (h0:x=.ref p) (h1:y=.int i) (h2:SqT K H p xs) (h3:atI xs i=some v) (h4:Q v H)
def rIxT (K:PySem.W.Frag):R2:=fun x y H Q=>rIxT_ K x y H Q
inductive rIxS_ (x:V) (y:V) (H:Hp) (Q:VK):Prop
  | mk (z:_) (i:_) (c:_) (h0:x=.str z) (h1:y=.int i) (h2:z.length≤sizeLine) (h3:atI z.cps.toList i=some c) (h4:Q (.str ⟨#[c]⟩) H)
def rIxS:R2:=fun x y H Q=>rIxS_  x y H Q
theorem ix_list:IxR X (rIxL X.K):=by
  intro value slice pins s σ H x y v u Q I rx ry h hs
  obtain ⟨p,xs,i,z,rfl,rfl,hq,he,q⟩:=h
  cases rx
  obtain ⟨t,rfl⟩:=ry
  obtain ⟨its,r,pl,hz⟩:=I.list hq
  obtain ⟨j,h1,h2,h3,h4,h5⟩:=atI_get he
  obtain ⟨w,ew,rw'⟩:=r.get h2
  have hl:=r.length
  have hn:=line63
  have fin:EP X pins σ Q w s:=⟨z,H,I,rw',q⟩
  by_cases h0:0≤i
  · have hj:i.toNat=j:=by
      rw [seqIndex_of h0 h5] at h1
      exact Option.some.inj h1
    exact item_listR pl.isList h0 (by trivial) (by rw [hj];simpa using ew) fin hs
  · have hj:(i+(its.toArray.size:Int)).toNat=j:=by
      rw [seqIndex_neg (by trivial) h4] at h1
      rw [List.size_toArray,←hl]
      exact Option.some.inj h1
    exact subscriptTail_builtinR (x:=w) pl.isList.typeIs slot_list_getitem.lookup
      (wpAny_getItem_list_neg (Q:=fun r s'=>r=w∧EP X pins σ Q r s') pl.isList (by trivial) (by rw [List.size_toArray] <;> trivial) (by trivial) (by rw [hj];simpa using ew) ⟨rfl,fin⟩) hs
theorem ix_tup:IxR X (rIxT X.K):=by
  intro value slice pins s σ H x y v u Q I rx ry h hs
  obtain ⟨p,xs,i,z,rfl,rfl,hq,he,q⟩:=h
  cases rx
  obtain ⟨t,rfl⟩:=ry
  obtain ⟨its,r,pl,hz⟩:=I.tuple hq
  obtain ⟨j,h1,h2,h3,h4,h5⟩:=atI_get he
  obtain ⟨w,ew,rw'⟩:=r.get h2
  have hl:=r.length
  have hn:=line63
  have fin:EP X pins σ Q w s:=⟨z,H,I,rw',q⟩
  exact subscriptTail_builtinR (x:=w) pl.typeIs slot_tuple_getitem.lookup
    (getItem_tuple (j:=j) (Q:=fun r s'=>r=w∧EP X pins σ Q r s') pl (by trivial) (by trivial) (by rw [List.size_toArray,←hl];exact h1) (by simpa using ew) ⟨rfl,fin⟩) hs
theorem ix_str:IxR X rIxS:=by
  intro value slice pins s σ H x y v u Q I rx ry h hs
  obtain ⟨z,i,c,rfl,rfl,hz,he,q⟩:=h
  obtain ⟨t,rfl⟩:=rx
  obtain ⟨t',rfl⟩:=ry
  obtain ⟨j,h1,h2,h3,h4,h5⟩:=atI_get he
  have hl:z.cps.toList.length=z.length:=by simp [Str.length]
  rw [hl] at h1 h4 h5
  have hn:=line63
  exact tail_any (typeIs_str s z t) slot_str_getitem.lookup (getItem_str (c:=c) (by
    have e1:decide (i < -(2 ^ 63:Int))=false:=decide_eq_false (by trivial)
    have e2:decide (i≥2 ^ 63)=false:=decide_eq_false (by trivial)
    rw [e1,e2,Bool.or_false]) (by rw [h1];simpa using h2) ⟨.str ⟨#[c]⟩,H,I.tok _,⟨_,rfl⟩,q⟩) hs
def rIx (K:PySem.W.Frag):R2:=fun x y H Q=>rIxL K x y H Q∨rIxT K x y H Q∨rIxS x y H Q
theorem ix_seq:IxR X (rIx X.K):=ix_list.or (ix_tup.or ix_str)
theorem mapSeq_set (its:List Value) (n j:Nat) (u:Value):Obj.mapSeq (·.setIfInBounds j u) { cls:=.type "list",data:=.seq its.toArray n }={ cls:=.type "list",data:=.seq (its.set j u).toArray n }:=by
  simp [Obj.mapSeq]
theorem Inv.lst {pins:List (Addr×Obj)}{σ:St}{H:Hp}{s:Shared}{p:Addr}{xs:List V} (I:Inv X pins σ H s) (h:H p=some (.lst xs)) :
    Ex2 fun (its:List Value) (n:Nat)=>Vals xs its∧s.heap.get? p=some { cls:=.type "list",data:=.seq its.toArray n }∧xs.length≤sizeLine:=by
  obtain ⟨z,its,n,r,e⟩:=I.hok p _ h
  exact ⟨its,n,r,e,z⟩
theorem Inv.lstUpd {pins:List (Addr×Obj)}{σ:St}{H:Hp}{s:Shared}{p:Addr}{xs ys:List V}{its its':List Value}{n n':Nat}{f:Obj→Obj} (I:Inv X pins σ H s) (h:H p=some (.lst xs))
    (ho:s.heap.get? p=some { cls:=.type "list",data:=.seq its.toArray n }) (hf:f { cls:=.type "list",data:=.seq its.toArray n }={ cls:=.type "list",data:=.seq its'.toArray n' }) (r:Vals ys its') (hz:ys.length≤sizeLine) (t:Nat) :
    Inv X pins σ (upd H p (.lst ys)) { s with heap:=s.heap.update p f,toks:=t }:=by
  have e:(s.heap.update p f).get? p=some { cls:=.type "list",data:=.seq its'.toArray n' }:=by
    rw [Heap.get?_update_self f ho (by rw [hf] <;> rfl),hf]
  refine I.write (x:=p) (e:=p) (by rw [h];trivial) (.inl rfl) (fun b u hb q=>(Heap.get?_update_other _ _ (Ne.symm hb)).trans q) ⟨_,e⟩ ?_
  exact ⟨hz,its',n',r,e⟩
inductive rSetL_ (o:V) (i:V) (v:V) (H:Hp) (Q:(Hp→Prop)):Prop
  | mk (p:_) (xs:_) (k:_) (j:_) (h0:o=.ref p) (h1:i=.int k) (h2:H p=some (.lst xs)) (h3:ixN xs.length k=some j) (h4:Q (upd H p (.lst (xs.set j v))))
def rSetL:V→V→V→Hp→(Hp→Prop)→Prop:=fun o i v H Q=>rSetL_  o i v H Q
theorem set_list:PSet X rSetL:=by
  intro pins s σ H o i v ov iv u Q I ro ri rv h
  obtain ⟨p,xs,k,j,rfl,rfl,hp,hj,q⟩:=h
  cases ro
  obtain ⟨t,rfl⟩:=ri
  obtain ⟨its,n,r,ho,hz⟩:=I.lst hp
  obtain ⟨h1,h2,h3,h4⟩:=ixN_seq hj
  have hl:=r.length
  have hn:=line63
  have I':Inv X pins σ (upd H p (.lst (xs.set j v))) { s with heap:=s.heap.update p (Obj.mapSeq (·.setIfInBounds j u)) }:=
    I.lstUpd hp ho (mapSeq_set its n j u) (r.set rv j) (by rw [List.length_set];exact hz) s.toks
  by_cases h0:0≤k
  · have hk:k.toNat=j:=by
      rw [seqIndex_of h0 h4] at h1
      exact Option.some.inj h1
    exact PySem.W.ki_setAt ho h0 (by trivial) (by rw [List.size_toArray,←hl];exact h4) (by rw [hk];exact ⟨_,I',q⟩)
  · have hk:(k+(its.toArray.size:Int)).toNat=j:=by
      rw [seqIndex_neg (by trivial) h3] at h1
      rw [List.size_toArray,←hl]
      exact Option.some.inj h1
    exact PySem.W.ki_setBack ho (by trivial) (by rw [List.size_toArray,←hl];exact h3) (by trivial) (by rw [hk];exact ⟨_,I',q⟩)
theorem slice_bounds (lo hi:Option Int) (n:Nat):(sliceBounds lo hi none n).1=((HT.sIx n 0 lo:Nat):Int)∧(sliceBounds lo hi none n).2.1=((HT.sIx n n hi:Nat):Int)∧(sliceBounds lo hi none n).2.2=1:=by
  refine ⟨?_,?_,rfl⟩
  · cases lo with
    | none=>simp [sliceBounds,HT.sIx]
    | some i=>
      simp only [sliceBounds,HT.sIx,Option.getD_none,show (1:Int) > 0 by decide,if_true]
      by_cases h:i<0
      · simp only [h,if_true] <;> trivial
      · simp only [h,if_false] <;> trivial
  · cases hi with
    | none=>simp [sliceBounds,HT.sIx]
    | some i=>
      simp only [sliceBounds,HT.sIx,Option.getD_none,show (1:Int) > 0 by decide,if_true]
      by_cases h:i<0
      · simp only [h,if_true] <;> trivial
      · simp only [h,if_false] <;> trivial
theorem slicePick_cut (its:List Value) (lo hi:Option Int):slicePick its.toArray lo hi none=((its.drop (HT.sIx its.length 0 lo)).take (HT.sIx its.length its.length hi - HT.sIx its.length 0 lo)).toArray:=by
  obtain ⟨h1,h2,h3⟩:=slice_bounds lo hi its.toArray.size
  unfold slicePick
  rw [h1,h2,h3]
  simp only [sliceRange_one,pick_run,List.size_toArray] <;> rfl
inductive rSlL_ (K:PySem.W.Frag) (x:V) (lo:Option Int) (hi:Option Int) (H:Hp) (Q:VK):Prop
  | mk (a:_) (xs:_) (h0:x=.ref a) (h1:SqL K H a xs) (h2:∀p,H p=none→Q (.ref p) (upd H p (.lst (cutV xs lo hi))))
def rSlL (K:PySem.W.Frag):V→Option Int→Option Int→Hp→VK→Prop:=fun x lo hi H Q=>rSlL_ K x lo hi H Q
theorem sl_list:SlR X (rSlL X.K):=by
  intro pins s σ H x v vl vu lo hi sl Q I rx hs pl pu h
  obtain ⟨a,xs,rfl,hx,q⟩:=h
  cases rx
  obtain ⟨its,r,ht,hz⟩:=I.list hx
  have hlen:=r.length
  refine ⟨"list",_,slot_list_getitem.lookup,ht.isList.typeIs,?_⟩
  refine wpAny_getItem_list_slice ht.isList hs pl pu .none (by simp) ?_ (by rw [List.size_toArray] <;> trivial)
  rw [slicePick_cut,←hlen]
  refine ⟨.ref s.heap.objs.size,_,I.laid (t':=s.toks) (o:=.lst (cutV xs lo hi)) (fun b ob q=>Heap.get?_push_of_some _ q) (Nat.le_refl _) ?_,rfl,q _ (I.hok.fresh (Nat.le_refl _))⟩
  exact ⟨Nat.le_trans (cutV_length xs lo hi) hz,_,0,(r.drop (HT.sIx xs.length 0 lo)).take (HT.sIx xs.length xs.length hi - HT.sIx xs.length 0 lo),Heap.get?_push_size _ rfl⟩
def flatV:V→Bool
  | .non=>true
  | .bl _=>true
  | .int _=>true
  | .str _=>true
  | _=>false
def eqV:V→V→Bool
  | .non,.non=>true
  | .bl a,.bl b=>a==b
  | .bl a,.int b=>(if a then 1 else 0)==b
  | .int a,.bl b=>a==(if b then 1 else 0)
  | .int a,.int b=>a==b
  | .str a,.str b=>a==b
  | _,_=>false
theorem eqAt_V {A:Around}{s:Shared}{y x:V}{u v:Value} (ry:RelV y u) (rx:RelV x v) (fy:flatV y=true) (fx:flatV x=true):SeqAt.EqAt A s u v (eqV y x):=by
  cases y with
  | non=>
    cases ry
    cases x with
    | non=>cases rx;exact SeqAt.EqAt.same _
    | bl b=>cases rx;exact SeqAt.EqAt.none_bool b
    | int b=>obtain ⟨t,rfl⟩:=rx;exact SeqAt.EqAt.none_int b t
    | str b=>obtain ⟨t,rfl⟩:=rx;exact SeqAt.EqAt.none_str b t
    | _=>exact absurd (show false=true from fx) Bool.false_ne_true
  | bl a=>
    cases ry
    cases x with
    | non=>cases rx;exact SeqAt.EqAt.bool_none a
    | bl b=>cases rx;exact SeqAt.EqAt.bool_bool a b
    | int b=>obtain ⟨t,rfl⟩:=rx;exact SeqAt.EqAt.bool_int a b t
    | str b=>obtain ⟨t,rfl⟩:=rx;exact SeqAt.EqAt.bool_str a b t
    | _=>exact absurd (show false=true from fx) Bool.false_ne_true
  | int a=>
    obtain ⟨t',rfl⟩:=ry
    cases x with
    | non=>cases rx;exact SeqAt.EqAt.int_none a t'
    | bl b=>cases rx;exact SeqAt.EqAt.int_bool a t' b
    | int b=>obtain ⟨t,rfl⟩:=rx;exact SeqAt.EqAt.int_int a t' b t
    | str b=>obtain ⟨t,rfl⟩:=rx;exact SeqAt.EqAt.int_str a t' b t
    | _=>exact absurd (show false=true from fx) Bool.false_ne_true
  | str a=>
    obtain ⟨t',rfl⟩:=ry
    cases x with
    | non=>cases rx;exact SeqAt.EqAt.str_none a t'
    | bl b=>cases rx;exact SeqAt.EqAt.str_bool a t' b
    | int b=>obtain ⟨t,rfl⟩:=rx;exact SeqAt.EqAt.str_int a t' b t
    | str b=>obtain ⟨t,rfl⟩:=rx;exact SeqAt.EqAt.str_str a t' b t
    | _=>exact absurd (show false=true from fx) Bool.false_ne_true
  | _=>exact absurd (show false=true from fy) Bool.false_ne_true
def eqU (x:V) (u:Value):Bool:=match u with
  | .none=>eqV .non x
  | .bool b=>eqV (.bl b) x
  | .int i _=>eqV (.int i) x
  | .str z _=>eqV (.str z) x
  | _=>false
theorem eqU_of {x y:V}{u:Value} (r:RelV y u) (f:flatV y=true):eqU x u=eqV y x:=by
  cases y with
  | non=>cases r;rfl
  | bl b=>cases r;rfl
  | int i=>obtain ⟨t,rfl⟩:=r;rfl
  | str z=>obtain ⟨t,rfl⟩:=r;rfl
  | _=>exact absurd (show false=true from f) Bool.false_ne_true
theorem any_eqU {x:V}:∀{xs:List V}{us:List Value},Vals xs us→xs.all flatV=true→us.any (eqU x)=xs.any fun y=>eqV y x
  | _,_,.nil,_=>rfl
  | y :: xs,u :: us,.cons r t,f=>by
    rw [List.all_cons,Bool.and_eq_true] at f
    rw [List.any_cons,List.any_cons,eqU_of r f.1,any_eqU t f.2]
theorem mem_eqAt {A:Around}{s:Shared}{x:V}{v:Value} (rx:RelV x v) (fx:flatV x=true):∀{xs:List V}{us:List Value},Vals xs us→xs.all flatV=true→∀u∈us,SeqAt.EqAt A s u v (eqU x u)
  | _,_,.nil,_=>fun u hu=>by cases hu
  | y :: xs,u :: us,.cons r t,f=>fun u' hu=>by
    rw [List.all_cons,Bool.and_eq_true] at f
    rcases List.mem_cons.mp hu with rfl | hu
    · rw [eqU_of r f.1];exact eqAt_V r rx f.1 fx
    · exact mem_eqAt rx fx t f.2 u' hu
def inV (x:V) (xs:List V):Bool:=xs.any fun y=>eqV y x
inductive rIn_ (K:PySem.W.Frag) (neg:Bool) (x:V) (y:V) (H:Hp) (Q:VK):Prop
  | mk (p:_) (xs:_) (h0:y=.ref p) (h1:(SqL K H p xs∨SqT K H p xs)) (h2:flatV x=true) (h3:xs.all flatV=true) (h4:Q (.bl (if neg then !inV x xs else inV x xs)) H)
def rIn (K:PySem.W.Frag) (neg:Bool):R2:=fun x y H Q=>rIn_ K neg x y H Q
theorem op_in_seq:OpR X (compareOp .In) (rIn X.K false):=by
  intro pins s σ H x y v u Q I rx ry h
  obtain ⟨p,xs,rfl,hq,fx,fs,q⟩:=h
  cases ry
  rcases hq with hq | hq
  · obtain ⟨its,r,pl,hz⟩:=I.list hq
    refine SeqAt.in_listAt (eqU x) pl.isList (fun w hw=>mem_eqAt rx fx r fs w (by simpa using hw)) ⟨.bl _,H,I,rfl,?_⟩
    rw [show its.toArray.any (eqU x)=its.any (eqU x) by simp,any_eqU r fs]
    exact q
  · obtain ⟨its,r,pl,hz⟩:=I.tuple hq
    refine SeqAt.in_tupleAt (eqU x) pl (fun w hw=>mem_eqAt rx fx r fs w (by simpa using hw)) ⟨.bl _,H,I,rfl,?_⟩
    rw [show its.toArray.any (eqU x)=its.any (eqU x) by simp,any_eqU r fs]
    exact q
theorem op_notIn_seq:OpR X (compareOp .NotIn) (rIn X.K true):=by
  intro pins s σ H x y v u Q I rx ry h
  obtain ⟨p,xs,rfl,hq,fx,fs,q⟩:=h
  cases ry
  rcases hq with hq | hq
  · obtain ⟨its,r,pl,hz⟩:=I.list hq
    refine SeqAt.notIn_listAt (eqU x) pl.isList (fun w hw=>mem_eqAt rx fx r fs w (by simpa using hw)) ⟨.bl _,H,I,rfl,?_⟩
    rw [show its.toArray.any (eqU x)=its.any (eqU x) by simp,any_eqU r fs]
    exact q
  · obtain ⟨its,r,pl,hz⟩:=I.tuple hq
    refine SeqAt.notIn_tupleAt (eqU x) pl (fun w hw=>mem_eqAt rx fx r fs w (by simpa using hw)) ⟨.bl _,H,I,rfl,?_⟩
    rw [show its.toArray.any (eqU x)=its.any (eqU x) by simp,any_eqU r fs]
    exact q
theorem call_len_seq:CallR X (.builtin "len") (fun xs H Q=>Ex2 fun p ys=>xs=[.ref p]∧(SqL X.K H p ys∨SqT X.K H p ys)∧Q (.int ys.length) H):=by
  intro pins s σ H xs us Q I r h
  obtain ⟨p,ys,rfl,hq,q⟩:=h
  obtain ⟨u,rfl,rx⟩:=vals1 r
  cases rx
  have hn:=line63
  rcases hq with hq | hq
  · obtain ⟨its,r',pl,hz⟩:=I.list hq
    have hlen:=r'.length
    exact Calls.call_len_list pl.isList (by simp only [List.size_toArray] <;> trivial) ⟨.int ys.length,H,I.tok _,⟨s.toks+1,by rw [List.size_toArray,hlen]⟩,q⟩
  · obtain ⟨its,r',pl,hz⟩:=I.tuple hq
    have hlen:=r'.length
    exact len_tuple pl (by simp only [List.size_toArray] <;> trivial) ⟨.int ys.length,H,I.tok _,⟨s.toks+1,by rw [List.size_toArray,hlen]⟩,q⟩
theorem call_list_of:CallR X (.type "list") (fun xs H Q=>Ex2 fun p ys=>xs=[.ref p]∧(SqL X.K H p ys∨SqT X.K H p ys)∧∀l,H l=none→Q (.ref l) (upd H l (.lst ys))):=by
  intro pins s σ H xs us Q I r h
  obtain ⟨p,ys,rfl,hq,q⟩:=h
  obtain ⟨u,rfl,rx⟩:=vals1 r
  cases rx
  have fin:∀(its:List Value),Vals ys its→ys.length≤sizeLine→∀(h':Heap) (c':Nat),(∀b o',s.heap.get? b=some o'→h'.get? b=some o')→
      h'.get? s.heap.objs.size=some { cls:=.type "list",dict:=none,data:=.seq its.toArray c',slots:=#[] }→EP X pins σ Q (.ref s.heap.objs.size) { s with heap:=h' }:=fun its r' hz h' c' kp e=>
    ⟨.ref s.heap.objs.size,_,I.laid (t':=s.toks) kp (Nat.le_refl _) (show ObjOk X.prog X.w _ h' _ (.lst ys) from ⟨hz,its,c',r',e⟩),rfl,q _ (I.hok.fresh (Nat.le_refl _))⟩
  rcases hq with hq | hq
  · obtain ⟨its,r',pl,hz⟩:=I.list hq
    have hlen:=r'.length
    obtain ⟨o,ho,hc,n,hd⟩:=pl.isList
    exact call_list_seq p (.inl rfl) ho hc hd (fun h' c' kp e=>fin its r' hz h' c' kp e) (by simp only [List.size_toArray] <;> trivial)
  · obtain ⟨its,r',pl,hz⟩:=I.tuple hq
    have hlen:=r'.length
    obtain ⟨o,ho,hc,n,hd⟩:=pl
    exact call_list_seq p (.inr rfl) ho hc hd (fun h' c' kp e=>fin its r' hz h' c' kp e) (by simp only [List.size_toArray] <;> trivial)
theorem call_tuple_of:CallR X (.type "tuple") (fun xs H Q=>Ex2 fun p ys=>xs=[.ref p]∧((SqL X.K H p ys∧∀l,H l=none→Q (.ref l) (upd H l (.tup ys)))∨(SqT X.K H p ys∧Q (.ref p) H))):=by
  intro pins s σ H xs us Q I r h
  obtain ⟨p,ys,rfl,h⟩:=h
  obtain ⟨u,rfl,rx⟩:=vals1 r
  cases rx
  rcases h with ⟨hq,q⟩ | ⟨hq,q⟩
  · obtain ⟨its,r',pl,hz⟩:=I.list hq
    have hlen:=r'.length
    refine call_tuple_list pl.isList (fun h' kp=>?_) (by simp only [List.size_toArray] <;> trivial)
    have I1:Inv X pins σ H { s with heap:=h' }:=I.kept (t':=s.toks) kp
    have I2:Inv X pins σ (upd H h'.objs.size (.tup ys)) { s with heap:=h'.push { cls:=.type "tuple",data:=.seq its.toArray } }:=
      I1.laid (t':=s.toks) (fun b o e=>Heap.get?_push_of_some _ e) (Nat.le_refl _) (show ObjOk X.prog X.w _ _ _ (.tup ys) from ⟨hz,its,r',IsTup.new _ _,_,Heap.get?_push_size _ rfl,rfl⟩)
    exact ⟨.ref h'.objs.size,_,I2,rfl,q _ (I1.hok.fresh (Nat.le_refl _))⟩
  · obtain ⟨its,r',pl,hz⟩:=I.tuple hq
    exact call_tuple_same pl ⟨.ref p,H,I,rfl,q⟩
def tyV (K:PySem.W.Frag) (T:String) (x:V) (H:Hp):Prop:=match x with
  | .str _=>T = "str"
  | .int _=>T = "int"
  | .ref p=>(T = "list"∧∃xs,SqL K H p xs)∨(T = "tuple"∧∃o,K.lookup p=some o∧o.cls=.type "tuple"∧o.dict=none)∨
      (T = "dict"∧((∃kvs,H p=some (.dK kvs))∨∃kvs,H p=some (.dT kvs)))∨(T = "set"∧Ex2 fun S n=>H p=some (.set S n))
  | _=>False
theorem tyV_is {pins:List (Addr×Obj)}{σ:St}{H:Hp}{s:Shared}{T:String}{x:V}{v:Value} (I:Inv X pins σ H s) (r:RelV x v) (ty:tyV X.K T x H) :
    s.TypeIs v T∧∀a,v=.ref a→∃ob,s.heap.get? a=some ob∧ob.dict=none:=by
  cases x with
  | str z=>
    obtain ⟨t,rfl⟩:=r
    cases (show T = "str" from ty)
    exact ⟨typeIs_str s z t,fun _ e=>nomatch e⟩
  | int i=>
    obtain ⟨t,rfl⟩:=r
    cases (show T = "int" from ty)
    exact ⟨typeIs_int s i t,fun _ e=>nomatch e⟩
  | ref p=>
    cases r
    rcases ty with ⟨rfl,xs,hq⟩ | ⟨rfl,o,hk,hc,hd⟩ | ⟨rfl,hk⟩ | ⟨rfl,S,n,hk⟩
    · obtain ⟨its,_,pl,_⟩:=I.list hq
      refine ⟨pl.isList.typeIs,fun a e=>?_⟩
      cases e
      obtain ⟨o,n,e,c,hd,_⟩:=pl
      exact ⟨o,e,hd⟩
    · refine ⟨⟨o,I.kIn p o hk,hc⟩,fun a e=>?_⟩
      cases e
      exact ⟨o,I.kIn _ o hk,hd⟩
    · have z:∃o,s.heap.get? p=some o∧o.ExactDict:=by
        rcases hk with ⟨kvs,hk⟩ | ⟨kvs,hk⟩
        · obtain ⟨_,_,_,_,o,_,_,e,ex,_⟩:=I.hok p _ hk
          exact ⟨o,e,ex⟩
        · obtain ⟨_,_,_,_,o,_,_,e,ex,_⟩:=I.hok p _ hk
          exact ⟨o,e,ex⟩
      obtain ⟨o,e,ex⟩:=z
      refine ⟨⟨o,e,ex.1⟩,fun a e2=>?_⟩
      cases e2
      exact ⟨o,e,ex.2.1⟩
    · obtain ⟨o,_,_,_,e,ex,_⟩:=I.hok p _ hk
      refine ⟨⟨o,e,ex.1⟩,fun a e2=>?_⟩
      cases e2
      exact ⟨o,e,ex.2.1⟩
  | _=>exact False.elim ty
def tBM0 (K:PySem.W.Frag) (T:String) (r:V→List V→Hp→VK→Prop) (to:TE):TE:=fun σ H Q=>to σ H fun x H1=>tyV K T x H1∧r x [] H1 Q
def tBM (K:PySem.W.Frag) (T:String) (r:V→List V→Hp→VK→Prop) (to:TE) (t:TA):TE:=fun σ H Q=>to σ H fun x H1=>tyV K T x H1∧t σ H1 fun xs H2=>r x xs H2 Q
variable {o e:Expr}{es:List Expr}{to:TE}{t:TA}{name:Str}{apos cpos:Pos}{T id:String}{r:V→List V→Hp→VK→Prop}
theorem pe_bm0 (pa:PlainAttrs T) (slot:Slot T name id) (hty:typeOf (.builtin id)=pure (.type "method_descriptor")) (hm:MtR X id r) (ho:PE X o to)
    (hbase:attributeBase o name X.env (eval o X.env)=eval o X.env:=by rfl) (hline:(apos.endLine==cpos.line)=true:=by rfl):PE X (.Call (.Attribute o name apos) [] [] cpos) (tBM0 X.K T r to):=by
  intro pins s σ H Q I h
  refine wpAny_Call_method0_late hbase hline (thn (ho pins s σ H _ I h) fun v s1 ⟨x,H1,I1,r1,ty,q1⟩=>?_)
  obtain ⟨h1,h2⟩:=tyV_is I1 r1 ty
  exact ⟨T,id,pa,slot,hty,h1,h2,Calls.callWith_builtin rfl (PySem.evalArgs_none (hm pins s1 σ H1 x [] v [] Q I1 r1 .nil q1))⟩
theorem pe_bm (pa:PlainAttrs T) (slot:Slot T name id) (hty:typeOf (.builtin id)=pure (.type "method_descriptor")) (hm:MtR X id r) (ho:PE X o to) (ha:PA X (e :: es) t)
    (hbase:attributeBase o name X.env (eval o X.env)=eval o X.env:=by rfl)
    (hfew:((backTo cpos (starEach (e :: es) X.env)).all (fun x=>!x.1) && (backToKw cpos (keywordEach [] X.env)).all (fun x=>x.1.isSome)
      && decide ((e :: es).length+([]:List Keyword).length+(if ([]:List Keyword).isEmpty then 0 else 1)<30))=true:=by rfl)
    (hline:(apos.endLine==cpos.line)=true:=by rfl) (hs:starEach (e :: es) X.env=(false,eval e X.env) :: starEach es X.env:=by rfl) (hplain:(backTo cpos (starEach es X.env)).any (·.1)=false:=by rfl) :
    PE X (.Call (.Attribute o name apos) (e :: es) [] cpos) (tBM X.K T r to t):=by
  intro pins s σ H Q I h
  refine wpAny_Call_method_late hbase hfew hline rfl (thn (ho pins s σ H _ I h) fun v s1 ⟨x,H1,I1,r1,ty,q1⟩=>?_)
  obtain ⟨h1,h2⟩:=tyV_is I1 r1 ty
  refine ⟨T,id,pa,slot,hty,h1,h2,?_⟩
  have hA:=ha cpos pins s1 σ H1 _ I1 q1
  rw [hs] at hA ⊢
  refine Calls.callWith_builtin (by show (false || (backTo cpos (starEach es X.env)).any (·.1))=false;rw [hplain] <;> rfl) (Calls.evalArgs_plain ?_)
  exact thn hA fun us s2 ⟨vs,H2,I2,r2,q2⟩=>hm pins s2 σ H2 x vs v us Q I2 r1 r2 q2
/- xs.append(e), list.index on a module's tuple .. are MtR facts of 06m -/
end
end L2
namespace L2
open PySem PySem.Spec PyProof.Rows
def MtM (X:Cx) (id:String) (r:V→List V→Hp→VK→Prop):Prop:=
  ∀(pins:List (Addr×Obj)) (s:Shared) (σ:St) (H:Hp) (x:V) (xs:List V) (v:Value) (us:List Value) (Q:VK),Inv X pins σ H s→RelV x v→Vals xs us→r x xs H Q→
    wpAny (model X.prog X.w) X.A (call (.builtin id) (v :: us)) (EP X pins σ Q) X.xe s
theorem Vals.one:∀{x:V}{us:List Value},Vals [x] us→∃u,us=[u]∧RelV x u
  | _,_,.cons r .nil=>⟨_,rfl,r⟩
theorem Vals.two:∀{x y:V}{us:List Value},Vals [x,y] us→Ex2 fun u v=>us=[u,v]∧RelV x u∧RelV y v
  | _,_,_,.cons r (.cons q .nil)=>⟨_,_,rfl,r,q⟩
theorem Vals.zero:∀{us:List Value},Vals [] us→us=[]
  | _,.nil=>rfl
theorem Vals.dropLast {xs:List V}{us:List Value} (h:Vals xs us):Vals xs.dropLast us.dropLast:=by
  induction h with
  | nil=>exact .nil
  | cons r t ih=>
    cases t with
    | nil=>exact .nil
    | cons q t'=>exact .cons r ih
theorem Vals.reverse {xs:List V}{us:List Value} (h:Vals xs us):Vals xs.reverse us.reverse:=by
  induction h with
  | nil=>exact .nil
  | cons r t ih=>rw [List.reverse_cons,List.reverse_cons];exact Vals.append ih (.cons r .nil)
theorem Vals.rep {xs:List V}{us:List Value} (h:Vals xs us):∀k:Nat,Vals (List.replicate k xs).flatten (List.replicate k us).flatten
  | 0=>.nil
  | k+1=>by
    rw [List.replicate_succ,List.replicate_succ,List.flatten_cons,List.flatten_cons]
    exact Vals.append h (Vals.rep h k)
theorem erase_last {α:Type} (l:List α):l.eraseIdx (l.length - 1)=l.dropLast:=by
  induction l with
  | nil=>rfl
  | cons a r ih=>
    cases r with
    | nil=>rfl
    | cons b r=>
      have e:(a :: b :: r).length - 1=((b :: r).length - 1)+1:=by
        have h1:(a :: b :: r).length=r.length+2:=rfl
        have h2:(b :: r).length=r.length+1:=rfl
        trivial
      rw [e,List.eraseIdx_cons_succ,ih]
      all_goals rfl
theorem foldl_rep (its:List Value):∀(k:Nat) (acc:List Value),
    List.foldl (fun x1 x2=>x1++x2) acc.toArray (List.replicate k its.toArray)=(acc++(List.replicate k its).flatten).toArray
  | 0,acc=>by simp
  | k+1,acc=>by
    have e:acc.toArray++its.toArray=(acc++its).toArray:=by simp
    have e2:(acc++its)++(List.replicate k its).flatten=acc++(List.replicate (k+1) its).flatten:=by
      rw [List.replicate_succ,List.flatten_cons,List.append_assoc]
    rw [←e2,←foldl_rep its k (acc++its),←e,List.replicate_succ,List.foldl_cons]
section
variable {X:Cx}{pins:List (Addr×Obj)}{σ:St}{H:Hp}{s:Shared}{l b:Addr}{xs ys zs:List V}
theorem Inv.lset {its its':List Value}{n:Nat}{f:Array Value→Array Value}{t':Nat} (I:Inv X pins σ H s) (hH:H l=some (.lst xs))
    (e:s.heap.get? l=some { cls:=.type "list",data:=.seq its.toArray n }) (hf:f its.toArray=its'.toArray) (hv:Vals ys its') (hz:ys.length≤sizeLine) :
    Inv X pins σ (upd H l (.lst ys)) { s with heap:=s.heap.update l (Obj.mapSeq f),toks:=t' }:=by
  have q:=PySem.IsL.update e f
  rw [hf] at q
  refine I.write (x:=l) (e:=l) (by rw [hH];exact trivial) (.inl rfl) (fun b' u hb hu=>(Heap.get?_update_other s.heap (Obj.mapSeq f) (Ne.symm hb)).trans hu) ⟨_,q⟩ ?_
  exact ⟨hz,its',_,hv,q⟩
theorem Inv.lnew {its:List Value}{t':Nat} (I:Inv X pins σ H s) (hv:Vals ys its) (hz:ys.length≤sizeLine) :
    Inv X pins σ (upd H s.heap.objs.size (.lst ys)) { s with heap:=s.heap.push { cls:=.type "list",data:=.seq its.toArray },toks:=t' }:=
  I.laid (fun _ _ q=>Heap.get?_push_of_some _ q) (Nat.le_refl _) ⟨hz,its,0,hv,Heap.get?_push_size _ rfl⟩
theorem Inv.fresh (I:Inv X pins σ H s):H s.heap.objs.size=none:=I.hok.fresh (Nat.le_refl _)
theorem Inv.lstM (I:Inv X pins σ H s) (hH:H l=some (.lst xs)):xs.length≤sizeLine∧Ex2 fun (its:List Value) (n:Nat)=>Vals xs its∧xs.length=its.length∧s.heap.get? l=some { cls:=.type "list",data:=.seq its.toArray n }:=by
  obtain ⟨z,its,n,r,e⟩:=I.hok l _ hH
  exact ⟨z,its,n,r,r.length,e⟩
theorem notLongL {n:Nat} (h:n≤sizeLine):Builtin.List.listTooLong n=false:=by
  unfold Builtin.List.listTooLong
  exact decide_eq_false (by trivial)
end
section
variable {X:Cx}
inductive rAppend_ (x:V) (vs:List V) (H:Hp) (Q:VK):Prop
  | mk (l:_) (xs:_) (y:_) (h0:x=.ref l) (h1:vs=[y]) (h2:H l=some (.lst xs)) (h3:xs.length<sizeLine) (h4:Q .non (upd H l (.lst (xs++[y]))))
def rAppend:V→List V→Hp→VK→Prop:=fun x vs H Q=>rAppend_  x vs H Q
theorem mt_append:MtM X "list.append" rAppend:=by
  intro pins s σ H x vs v us Q I rx rv h
  obtain ⟨l,xs,y,rfl,rfl,hH,hz,q⟩:=h
  cases rx
  obtain ⟨u,rfl,ru⟩:=rv.one
  obtain ⟨z,its,n,r,hl,e⟩:=I.lstM hH
  refine call_meets F.slot_list_append ⟨_,e,rfl⟩ F.entry_list_append (F.args_list_append_2 _ _) (PySem.list_append l its.toArray n u (by rw [List.size_toArray];trivial)) ⟨e,?_⟩
  refine ⟨.non,_,I.lset (its':=its++[u]) hH e (by simp) (r.append (.cons ru .nil)) ?_,rfl,q⟩
  rw [List.length_append,List.length_singleton]
  trivial
inductive rPop_ (x:V) (vs:List V) (H:Hp) (Q:VK):Prop
  | mk (l:_) (xs:_) (y:_) (h0:x=.ref l) (h1:vs=[]) (h2:H l=some (.lst xs)) (h3:xs[xs.length - 1]?=some y) (h4:Q y (upd H l (.lst xs.dropLast)))
def rPop:V→List V→Hp→VK→Prop:=fun x vs H Q=>rPop_  x vs H Q
theorem mt_pop:MtM X "list.pop" rPop:=by
  intro pins s σ H x vs v us Q I rx rv h
  obtain ⟨l,xs,y,rfl,rfl,hH,hy,q⟩:=h
  cases rx
  have hus:=rv.zero
  subst hus
  obtain ⟨z,its,n,r,hl,e⟩:=I.lstM hH
  obtain ⟨u,hu,ru⟩:=r.get hy
  have hy':its.toArray[its.toArray.size - 1]?=some u:=by
    show its.toArray[its.length - 1]?=some u
    rw [←Array.getElem?_toList,←hl]
    exact hu
  refine call_meets F.slot_list_pop ⟨_,e,rfl⟩ F.entry_list_pop (F.args_list_pop_1 _) (MeetsSeq.list_pop_last l its.toArray n u hy' (by rw [List.size_toArray];trivial)) ⟨e,?_⟩
  refine ⟨y,_,I.lset (its':=its.dropLast) hH e ?_ r.dropLast ?_,ru,q⟩
  · show its.toArray.eraseIdxIfInBounds (its.toArray.size - 1)=its.dropLast.toArray
    rw [List.size_toArray,List.eraseIdxIfInBounds_toArray,erase_last]
  · rw [List.length_dropLast]
    trivial
inductive rReverse_ (x:V) (vs:List V) (H:Hp) (Q:VK):Prop
  | mk (l:_) (xs:_) (h0:x=.ref l) (h1:vs=[]) (h2:H l=some (.lst xs)) (h3:Q .non (upd H l (.lst xs.reverse)))
def rReverse:V→List V→Hp→VK→Prop:=fun x vs H Q=>rReverse_  x vs H Q
theorem mt_reverse:MtM X "list.reverse" rReverse:=by
  intro pins s σ H x vs v us Q I rx rv h
  obtain ⟨l,xs,rfl,rfl,hH,q⟩:=h
  cases rx
  have hus:=rv.zero
  subst hus
  obtain ⟨z,its,n,r,hl,e⟩:=I.lstM hH
  refine call_meets F.slot_list_reverse ⟨_,e,rfl⟩ F.entry_list_reverse (F.args_list_reverse_1 _) (AutoSeq1.list_reverse_list_0 l its.toArray n (by rw [List.size_toArray];trivial)) ⟨e,?_⟩
  refine ⟨.non,_,I.lset (its':=its.reverse) hH e (by simp) r.reverse ?_,rfl,q⟩
  rw [List.length_reverse]
  trivial
inductive rCat_ (x:V) (y:V) (H:Hp) (Q:VK):Prop
  | mk (l:_) (b:_) (xs:_) (zs:_) (h0:x=.ref l) (h1:y=.ref b) (h2:H l=some (.lst xs)) (h3:H b=some (.lst zs)) (h4:xs.length+zs.length≤sizeLine) (h5:∀p,H p=none→Q (.ref p) (upd H p (.lst (xs++zs))))
def rCat:R2:=fun x y H Q=>rCat_  x y H Q
theorem op_cat:OpR X (binaryOp .Add) rCat:=by
  intro pins s σ H x y v u Q I rx ry h
  obtain ⟨l,b,xs,zs,rfl,rfl,hH,hB,hz,q⟩:=h
  cases rx
  cases ry
  obtain ⟨z,its,n,r,hl,e⟩:=I.lstM hH
  obtain ⟨z2,its2,n2,r2,hl2,e2⟩:=I.lstM hB
  refine PySem.P.add_list e e2 ?_ (by rw [List.size_toArray,List.size_toArray];trivial)
  have ea:its.toArray++its2.toArray=(its++its2).toArray:=by simp
  rw [ea]
  exact ⟨.ref _,_,I.lnew (t':=s.toks) (r.append r2) (by rw [List.length_append];trivial),rfl,q _ I.fresh⟩
inductive rRep_ (x:V) (y:V) (H:Hp) (Q:VK):Prop
  | mk (l:_) (k:_) (xs:_) (h0:x=.ref l) (h1:y=.int k) (h2:H l=some (.lst xs)) (h3:-(2 ^ 63)≤k) (h4:k<2 ^ 63) (h5:xs.length*k.toNat≤sizeLine) (h6:∀p,H p=none→Q (.ref p) (upd H p (.lst (List.replicate k.toNat xs).flatten)))
def rRep:R2:=fun x y H Q=>rRep_  x y H Q
theorem len_rep {α:Type} (xs:List α) (k:Nat):(List.replicate k xs).flatten.length=k*xs.length:=by
  induction k with
  | zero=>simp
  | succ k ih=>rw [List.replicate_succ,List.flatten_cons,List.length_append,ih,Nat.succ_mul,Nat.add_comm]
theorem op_rep:OpR X (binaryOp .Mult) rRep:=by
  intro pins s σ H x y v u Q I rx ry h
  obtain ⟨l,k,xs,rfl,rfl,hH,h1,h2,hz,q⟩:=h
  cases rx
  obtain ⟨t,rfl⟩:=ry
  obtain ⟨z,its,n,r,hl,e⟩:=I.lstM hH
  have hlen:its.toArray.size*k.toNat≤sizeLine:=by rw [List.size_toArray,←hl];exact hz
  have hcap:¬its.toArray.size*k.toNat > (2 ^ 63 - 1) / 8:=by
    have:(sizeLine:Nat)≤(2 ^ 63 - 1) / 8:=by decide
    trivial
  have hfit:¬(!Builtin.List.listFitsIndex k)=true:=by
    rw [fitsIndex_both h1 h2]
    exact Bool.false_ne_true
  have hlong:¬Builtin.List.listTooLong (its.toArray.size*k.toNat)=true:=by
    rw [notLongL hlen]
    exact Bool.false_ne_true
  have hnew:List.foldl (fun x1 x2=>x1++x2) #[] (List.replicate (if its.toArray.isEmpty=true then 0 else k.toNat) its.toArray)=(List.replicate k.toNat its).flatten.toArray:=by
    have f0:∀m:Nat,List.foldl (fun x1 x2=>x1++x2) #[] (List.replicate m its.toArray)=(List.replicate m its).flatten.toArray:=fun m=>by
      have:=foldl_rep its m []
      rw [List.nil_append] at this
      exact this
    rw [f0]
    cases its with
    | nil=>simp
    | cons a r'=>rw [if_neg (by simp)]
  refine wpAny_binaryOp_repeat_ref (T := "list") (U := "int") (by decide) ⟨_,e,rfl⟩ (fun s'=>typeIs_int s' k t) noFill_list_mul F.fills_int_mul F.slot_int_rmul repeat_list F.slot_int_index.lookup
    (call_meets F.slot_int_rmul (typeIs_int s k t) F.entry_int_rmul (F.args_int_rmul_2 _ _) (int___rmul___int_list k t l its.toArray n)
      ⟨e,rfl,⟨_,e,rfl⟩,call_meets F.slot_list_mul ⟨_,e,rfl⟩ F.entry_list_mul (F.args_list_mul_2 _ _) (AutoListH.list___mul___list_int_3 l its.toArray n k t hfit hcap hlong) ⟨e,?_⟩⟩)
  rw [hnew]
  exact ⟨.ref _,_,I.lnew (t':=s.toks) (r.rep k.toNat) (by rw [len_rep,Nat.mul_comm];exact hz),rfl,q _ I.fresh⟩
end
section
variable {prog:Program}{w:World}{A:Around}{E:Value→Shared→Prop}{s:Shared}
set_option maxRecDepth 100000 in
end
section
variable {X:Cx}
end
end L2
namespace Att
open PySem PySem.W PySem.Calls PyProof.Rows
theorem ints_of_wellAll {P:Params}{h:Heap}:∀(ns:List Int) (vs:List Value),WellAll P h vs (ns.map WData.int)→IntsAre vs ns:=by
  intro ns
  induction ns with
  | nil=>
    intro vs w
    rw [List.map_nil] at w
    cases w
    exact .nil
  | cons n ns ih=>
    intro vs w
    rw [List.map_cons] at w
    cases w with
    | cons a b=>
      cases a
      exact .cons _ _ (ih _ b)
theorem script_of {l:OpenLaw}{n:Nat} (hn:l.most=some n) {P:Params}{h:Heap}{args:List WData}{vals:List Value}
    (hpre:l.row.toRowW.claim.pre args=true) (hwl:WellAll P h vals args) :
    ∃a vs ns,vals=[Value.ref a]∧args=[WData.list (ns.map WData.int)]∧h.get? a=some { cls:=.type "list",data:=.seq vs.toArray }∧IntsAre vs ns∧ns.length≤n:=by
  have hsh:WShape.hasAll [] args [.list .int]=true:=(pre_splitW hpre).1
  have hc:l.pre.holds [] { args:=args }=true:=(pre_splitW hpre).2
  obtain ⟨d,r,rfl,h1,h2⟩:=hasAllW_cons hsh
  obtain rfl:=hasAllW_nil h2
  obtain ⟨xs,rfl,h3⟩:=hasW_list h1
  obtain ⟨ns,rfl⟩:=items_int h3
  have hlen:ns.length≤n:=by
    unfold OpenLaw.pre at hc
    have h4:(WTm.not (.lt (.lit (.int (n:Int))) (.len (.arg 0)))).holds [] { args:=[.list (ns.map .int)] }=true:=by
      have h4:=(holds_andW hc).1
      rw [hn] at h4
      exact h4
    have h5:=condW_of h4 (w_not (w_lt w_lit (w_len_list (w_arg rfl))))
    rw [List.length_map] at h5
    refine Nat.le_of_not_lt fun q=>?_
    have q':(n:Int)<((ns.length:Nat):Int):=by trivial
    first
      | (rw [decide_eq_true q'] at h5;exact absurd h5 (by decide))
      | (simp at h5;trivial)
  cases hwl with
  | cons w1 w2=>
    cases w2
    cases w1 with
    | list ho hall=>exact ⟨_,_,ns,rfl,rfl,ho,ints_of_wellAll ns _ hall,hlen⟩
theorem post_true (l:OpenLaw) (args:List WData):l.row.toRowW.claim.post args (.bool true) args=true:=
  postW_of (r:=l.row.toRowW) (X:=(true==true))
    (show WShape.has [] (.bool true) .bool=true by first | rfl | decide | simp [WShape.has,WShape.arms,WShape.armsAll])
    (show (WTm.eq .res (.lit (.bool true))).value [] { args:=args,res:=some (.bool true),after:=args }=some (.bool (true==true)) from w_eq_bool (w_res rfl) w_lit) rfl
theorem attach_call {l:OpenLaw}{n:Nat}{q:Program}{loose:List Str}{XP:(Str→Option Value)→Heap→Prop}{YP:World→Heap→Prop}{d:DefRec}
    (hn:l.most=some n) (hdf:d.params.defaults=[])
    (call:∀(w:World) (s₀ s₁:Shared) (mg mb:Str→Option Value) (fa:Addr) (o:Obj) (pm cd doc:Value) (a:Addr) (vs:List Value) (ns:List Int),
      Ground q loose [] XP w s₀ mg mb s₁.heap→YP w s₁.heap→
      s₁.heap.get? fa=some o→o.data=.func (docDef d.name d.params d.body d.scope pm cd doc)→s₁.heap.CodeRec cd d.name→mg d.name=some (.ref fa)→
      s₁.heap.get? a=some { cls:=.type "list",data:=.seq vs.toArray }→IntsAre vs ns→ns.length≤n→s₁.gens=#[]→
      codeAny (model l.prog w) callerA (.call (.ref fa) ⟨[.ref a],[]⟩) (fun r s'=>r=.ok (.ret (.bool true))∧OldK s₁.heap s'.heap∧s'.os=s₁.os∧AllBare s'.gens) s₁) :
    WalkO q loose XP YP l.row.toRowW d [] (fun f vs=>PySem.call f vs):=by
  intro w s₀ s₁ mg mb G Y fa o pm cd doc dV kV ho hd hcd hD hmg hg args vals as hpre hlay hrd hwl hlo
  obtain rfl:dV=.none:=Dflts.none hD hdf
  obtain rfl:kV=.none:=Dflts.noKw hD
  obtain ⟨a,vs,ns,rfl,rfl,hobj,hints,hlen⟩:=script_of hn hpre hwl
  refine enter_call (codeAny_mono (call w s₀ s₁ mg mb fa o pm cd doc a vs ns G Y ho (fd_plain hd) hcd hmg hobj hints hlen hg) fun r s' hq=>?_)
  obtain ⟨rfl,h2,h3,h4⟩:=hq
  exact ⟨.inl ⟨.bool true,.bool true,[],rfl,fun _=>rfl,.bool true,post_true l _,fun _=>⟨List.Pairwise.nil,fun _ hm=>(nomatch hm)⟩⟩,h2,h3,h4⟩
section
variable {prog:Program}{w:World}{A:Around}{E:Value→Shared→Prop}{s:Shared}{K:Frag}
end
end Att
namespace L2
open PySem PySem.Spec PyProof.Rows
theorem vals_ints:∀{vs:List Value}{ns:List Int},IntsAre vs ns→Vals (ns.map V.int) vs
  | _,_,.nil=>.nil
  | _,_,.cons n t h=>.cons ⟨t,rfl⟩ (vals_ints h)
def Only (H:Hp):Prop:=∀b,H b=none∨Ex2 fun o xs=>H b=some (.frz o (.lst xs))
theorem law_call {P:Program}{w:World}{K:PySem.W.Frag}{mg mb:Str→Option Value}{CX:CXT}{k:Nat}{fa a:Addr}{fd:FuncData}{x:Str}{sp:Sp}{s₁:Shared}{vs:List Value}{ns:List Int}
    (KX:K.In s₁.heap) (hns:s₁.heap.Ns mainGlobals mg) (hb:s₁.heap.Ns builtinsNs mb) (hbb:∀x:Str,x≠"__name__"→mb x=bootBuiltins x) (hlim:s₁.heap.NoLimit) (hg:s₁.gens=#[])
    (ha:s₁.heap.get? a=some { cls:=.type "list",data:=.seq vs.toArray }) (hi:IntsAre vs ns) (hl:ns.length≤sizeLine) (hr:Room k callerA)
    (F:∀base:Heap,K.In base→base.Ns mainGlobals mg→FnOk P w K mg base CX k fa fd [x] sp) (hbind:∀(s:Shared) (u:Value),BindsTo s fd ⟨[u],[]⟩ [(x,u)])
    (hsp:∀H:Hp,Only H→SqL K H a (ns.map V.int)→sp [.ref a] H (fun v _=>v=.bl true) fun _ _ _=>False)
    (hCX:∀H e s',CX [] H s₁ (fun _ _ _=>False) e s'→False) :
    codeAny (model P w) callerA (.call (.ref fa) ⟨[.ref a],[]⟩) (fun r s'=>r=.ok (.ret (.bool true))∧OldK s₁.heap s'.heap∧s'.os=s₁.os∧AllBare s'.gens) s₁:=by
  have rv:=vals_ints hi
  have lenV:=hi.length
  have core:∀H:Hp,Only H→SqL K H a (ns.map V.int)→HOk P w H s₁.heap→(∀b,H b≠none→b=a)→(H a≠none→K.lookup a=none)→
      codeAny (model P w) callerA (.call (.ref fa) ⟨[.ref a],[]⟩) (fun r s'=>r=.ok (.ret (.bool true))∧OldK s₁.heap s'.heap∧s'.os=s₁.os∧AllBare s'.gens) s₁:=by
    intro H hO hS hok hA hK
    have base_of:∀{b:Addr}{o:Obj},s₁.heap.get? b=some o→H b=none→(hidT s₁.heap H).get? b=some o:=fun e n=>hidT_get e n
    have noA:∀{b:Addr}{o:Obj}{es:Array DictEntry}{ep:Nat},s₁.heap.get? b=some o→o.data=.dict es ep→H b=none:=fun {b o es ep} e d=>by
      cases q:H b with
      | none=>rfl
      | some u=>
        have e':b=a:=hA b (by rw [q];simp)
        subst e'
        rw [ha] at e;cases e
        have d':Data.seq vs.toArray _=Data.dict es ep:=d
        cases d'
    have nsK:∀{b:Addr}{m:Str→Option Value},s₁.heap.Ns b m→(hidT s₁.heap H).Ns b m:=fun {b m} ⟨o,es,ep,e,d,r⟩=>⟨o,es,ep,base_of e (noA e d),d,r⟩
    have hKb:K.In (hidT s₁.heap H):=fun b o e=>base_of (KX b o e) (by
      cases q:H b with
      | none=>rfl
      | some u=>
        have e':b=a:=hA b (by rw [q];simp)
        subst e'
        rw [hK (by rw [q];simp)] at e;cases e)
    have hM:Mod K mg (hidT s₁.heap H):=⟨hKb,nsK hns,⟨mb,nsK hb,hbb⟩,let ⟨mc,h1,h2⟩:=hlim;⟨mc,nsK h1,h2⟩⟩
    have e0:Env0 P w K mg (hidT s₁.heap H) callerA [] s₁ H:=⟨rfl,hM,fun b o e=>of_hidT e,Nat.le_of_eq (hidT_size _ _),trivial,fun b hb=>absurd (show b∈([]:List Addr) from hb) (by simp),hok,.of_eq hg⟩
    refine codeAny_mono ((F _ hKb (nsK hns)).run callerA [] s₁ H ⟨[.ref a],[]⟩ [.ref a] [.ref a] _ _ hr e0 (hbind s₁ (.ref a)) (.cons rfl .nil) (hsp H hO hS)) fun r s' h=>?_
    cases r with
    | error e=>exact (hCX H e s' h).elim
    | ok fl=>
      cases fl with
      | next=>exact False.elim h
      | brk=>exact False.elim h
      | cont=>exact False.elim h
      | ret u=>
        obtain ⟨v,H',os,bare,un,hok',r',q⟩:=h
        have q':v=.bl true:=q
        subst q'
        obtain rfl:u=Value.bool true:=r'
        refine ⟨rfl,OldK.of_keep fun b o e=>?_,os,bare⟩
        cases q:H b with
        | none=>exact un.keep b o e q (by intro z;exact absurd (show b∈([]:List Addr) from z) (by simp)) (by simp)
        | some u=>
          rcases hO b with z | ⟨ob,xs,z⟩
          · rw [q] at z;cases z
          · have z2:=un.frzs b ob _ z
            obtain ⟨e1,_⟩:=hok b _ z
            obtain ⟨e2,_⟩:=hok' b _ z2
            rw [e] at e1;cases e1
            exact e2
  cases hk:K.lookup a with
  | some o=>
    have e:=KX a o hk
    rw [ha] at e
    cases e
    refine core (fun _=>none) (fun _=>.inl rfl) (.inr ⟨_,vs.toArray,_,hk,rfl,rfl,rfl,by rw [List.size_toArray,lenV];exact hl,by simpa using rv⟩) (fun b u z=>by have z':(none:Option HO)=some u:=z;cases z') (fun b z=>absurd rfl z) fun z=>absurd rfl z
  | none=>
    refine core (fun b=>if b=a then some (.frz { cls:=.type "list",data:=.seq vs.toArray } (.lst (ns.map V.int))) else none) (fun b=>?_) (.inl (.inr ⟨{ cls:=.type "list",data:=.seq vs.toArray },if_pos rfl⟩)) (fun b u z=>?_) (fun b z=>?_) fun _=>hk
    · by_cases hb:b=a
      · exact .inr ⟨_,_,if_pos hb⟩
      · exact .inl (if_neg hb)
    · by_cases hb:b=a
      · have z':=(if_pos hb).symm.trans z
        cases z'
        subst hb
        exact ⟨ha,by rw [List.length_map];exact hl,vs,_,rv,ha⟩
      · have z':=(if_neg hb).symm.trans z
        cases z'
    · by_cases hb:b=a
      · exact hb
      · exact absurd (if_neg hb) z
end L2
namespace L2
open PySem PySem.Spec PyProof.Rows
abbrev KOf {K:PySem.W.Frag}{h:Heap} (_:K.In h):PySem.W.Frag:=K
theorem walk_of {l:PySem.W.OpenLaw}{n k:Nat}{q:Program}{loose:List Str}{XP:(Str→Option Value)→Heap→Prop}{YP:World→Heap→Prop}{d:DefRec}{K:Params→PySem.W.Frag}{CX:World→CXT}{sp:World→Sp}{x:Str}
    (hn:l.most=some n) (hn2:n≤sizeLine) (hdf:d.params.defaults=[]) (hr:Room k callerA)
    (hY:∀(w:World) (h:Heap),YP w h→(K w.params).In h)
    (F:∀(w:World) (mg:Str→Option Value) (fa:Addr) (h:Heap),(K w.params).In h→h.Ns mainGlobals mg→mg d.name=some (.ref fa)→
      ∃fd:FuncData,(∀(s:Shared) (u:Value),BindsTo s fd ⟨[u],[]⟩ [(x,u)])∧
        ∀base:Heap,(K w.params).In base→base.Ns mainGlobals mg→FnOk l.prog w (K w.params) mg base (CX w) k fa fd [x] (sp w))
    (hsp:∀(w:World) (H:Hp) (a:Addr) (ns:List Int),ns.length≤n→Only H→SqL (K w.params) H a (ns.map V.int)→sp w [.ref a] H (fun v _=>v=.bl true) fun _ _ _=>False)
    (hCX:∀(w:World) (H:Hp) (s:Shared) (e:Value) (s':Shared),CX w [] H s (fun _ _ _=>False) e s'→False) :
    PySem.W.WalkO q loose XP YP l.row.toRowW d [] (fun f vs=>PySem.call f vs):=by
  refine Att.attach_call hn hdf fun w s₀ s₁ mg mb fa o pm cd doc a vs ns G Y ho hd hcd hmg hobj hints hlen hg=>?_
  have KX:=hY w _ Y
  obtain ⟨fd,hb,hF⟩:=F w mg fa _ KX G.T.g hmg
  exact law_call KX G.T.g G.T.b G.T.builtins G.T.nolimit hg hobj hints (Nat.le_trans hlen hn2) hr hF hb (fun H hO hS=>hsp w H a ns hlen hO hS) fun H e s'=>hCX w H s₁ e s'
theorem walk_ofK {l:PySem.W.OpenLaw}{n k:Nat}{q:Program}{loose:List Str}{XP:(Str→Option Value)→Heap→Prop}{YP:World→Heap→Prop}{d:DefRec}{K:Params→PySem.W.Frag}{CX:CXT}{sp:PySem.W.Frag→Sp}{x:Str}
    (hn:l.most=some n) (hn2:n≤sizeLine) (hdf:d.params.defaults=[]) (hr:Room k callerA)
    (hY:∀(w:World) (h:Heap),YP w h→(K w.params).In h)
    (F:∀(w:World) (mg:Str→Option Value) (fa:Addr) (h:Heap),(K w.params).In h→h.Ns mainGlobals mg→mg d.name=some (.ref fa)→
      ∃fd:FuncData,(∀(s:Shared) (u:Value),BindsTo s fd ⟨[u],[]⟩ [(x,u)])∧
        ∀base:Heap,(K w.params).In base→base.Ns mainGlobals mg→FnOk l.prog w (K w.params) mg base CX k fa fd [x] (sp (K w.params)))
    (hsp:∀(K:PySem.W.Frag) (H:Hp) (a:Addr) (ns:List Int),ns.length≤n→Only H→SqL K H a (ns.map V.int)→sp K [.ref a] H (fun v _=>v=.bl true) fun _ _ _=>False)
    (hCX:∀(H:Hp) (s:Shared) (e:Value) (s':Shared),CX [] H s (fun _ _ _=>False) e s'→False) :
    PySem.W.WalkO q loose XP YP l.row.toRowW d [] (fun f vs=>PySem.call f vs):=
  walk_of (K:=K) (CX:=fun _=>CX) (sp:=fun w=>sp (K w.params)) hn hn2 hdf hr hY F (fun w H a ns h1 h2 h3=>hsp (K w.params) H a ns h1 h2 h3) fun _ H s e s'=>hCX H s e s'
end L2
/- THE LAST THEOREM (shape; LID, My.* are yours):
   My.Adr: a structure of the addresses that your layer names (classes, functions); My.Txt K t: a structure (Prop) of the equations over K;
   My.txt_mk : {K} {implicit addresses ..} (e1 : nsIn K mainGlobals "law" = some (some (.ref f))) (e2 : K.lookup f = some ⟨oc, od, .func (fnOf "law" "law" params body scope dV kV doc pm an cdv ct), sl⟩) (e3 : codeIn K cdv "law" = true) .. : ∃ t, My.Txt K t
set_option maxRecDepth 100000 in
set_option maxHeartbeats 0 in
theorem PySem.Challenge.cw_LID_holds : PySem.Challenge.rw_LID.Holds := by
  w_on; o_law; k_head; (case hw => w_witness2)
  k_fill
  refine L2.walk_of (l := PySem.Challenge.rw_LID) (n := 63) (k := 40) (x := "script") (CX := fun w => ..) (sp := fun _ => My.sp_law) rfl (by decide) rfl ⟨rfl, by decide, by decide⟩ (fun w h Y => PySem.W.kIn_of Y) ?F ?S ?C
  case F =>
    intro w mg fa h KX G hmg
    have T : ∃ t, My.Txt (L2.KOf KX) t := by
      dsimp only [L2.KOf]                          -- K must stand as «<heap const> w.params» for k_is
      refine' My.txt_mk ?e1 ?e2 ?e3 ..
      (case e1 => PySem.W.k_is)                    -- in the order: a name -> its address -> its object -> its parts
      (case e2 => PySem.W.k_is)
      ..
    obtain ⟨t, T⟩ := T
    have e0 := hmg.symm.trans (PySem.W.mg_of KX G T.law)
    cases e0                                       -- fa is the law's own address
    exact ⟨_, fun s u => .of_eq rfl, fun base kb nb => My.law_fn T kb nb⟩     -- if «.of_eq rfl» comes too early: refine' ⟨_, ?b, fun base kb nb => My.law_fn T kb nb⟩; exact fun s u => .of_eq rfl
  case S => exact fun w H a ns hl hO hS => ..
  case C => exact ..
(the tactic k_is has no namespace: write k_is) -/
namespace L2
open PySem PySem.Spec PyProof.Rows
def defArgs (s:Stmt):Arguments:=match s with
  | .FunctionDef _ a _ _ _ _ _ _ _ _=>a
  | _=>{ posonlyargs:=[],args:=[],vararg:=none,kwonlyargs:=[],kw_defaults:=[],kwarg:=none,defaults:=[] }
def defBody (s:Stmt):List Stmt:=match s with
  | .FunctionDef _ _ b _ _ _ _ _ _ _=>b
  | _=>[]
def defScope (s:Stmt):Scope:=match s with
  | .FunctionDef _ _ _ _ _ _ sc _ _ _=>sc
  | _=>{ kind:=.function,names:=[],isGenerator:=false,isCoroutine:=false }
abbrev CX0:CXT:=fun _ _ _ _ _ _=>False
abbrev E0:XK:=fun _ _ _=>False
theorem pass0 {X:Cx}:Passes CX0 X E0:=fun _ _ _ _ _ _ _ h=>h.elim
structure Fun (K:PySem.W.Frag) (x qual:Str) (st:Stmt) (f:Addr) (fd:FuncData):Prop where
  ex:Ex9 fun (oc:Value) (od:Option Addr) (kV doc pm:Value) (an:Option Addr) (cdv ct:Value) (osl:Array (Option Value))=>
    fd=PySem.W.fnOf x qual (defArgs st) (defBody st) (defScope st) .none kV doc pm an cdv ct∧K.lookup f=some ⟨oc,od,.func fd,osl⟩∧PySem.W.codeIn K cdv qual=true
  kp:PySem.W.keepIn K (.ref f)=true
section
variable {P:Program}{w:World}{K:PySem.W.Frag}{mg:Str→Option Value}{base:Heap}
theorem Fun.ok {x qual:Str}{st:Stmt}{f:Addr}{fd:FuncData}{N ps:List Str}{k:Nat}{sp:Sp} (F:Fun K x qual st f fd) (S:FnScope N ps (defScope st)) (len:∀vs H Q E,sp vs H Q E→vs.length=ps.length)
    (hbody:∀(cdv:Value) (A:Around) (outer:List Env) (s:Shared) (H:Hp) (vs:List V) (Q:VK) (E:XK),Room k (A.deeper (envOfC qual (defScope st) s.heap.objs.size f cdv))→sp vs H Q E→
      ∃t,PSs (cxOf CX0 P w K mg base N qual (defScope st) f cdv A outer s H E).nox (defBody st) t∧t { nx:=fun _ H'=>Q .non H',rt:=Q } (start N vs) H):FnOk P w K mg base CX0 (k+1) f fd ps sp:=by
  obtain ⟨oc,od,kV,doc,pm,an,cdv,ct,osl,rfl,lk,hcd⟩:=F.ex
  refine fn_of lk hcd S len fun A outer s H vs Q E hr hsp=>?_
  obtain ⟨t,h,q⟩:=hbody cdv A outer s H vs Q E hr hsp
  exact ⟨t,h.nox,q⟩
theorem Fun.binds {x qual:Str}{st:Stmt}{f:Addr}{fd:FuncData}{ps:List Str} (F:Fun K x qual st f fd)
    (h:∀(kV doc pm:Value) (an:Option Addr) (cdv ct:Value) (us:List Value),us.length=ps.length→bindArgs (PySem.W.fnOf x qual (defArgs st) (defBody st) (defScope st) .none kV doc pm an cdv ct) ⟨us,[]⟩=pure (ps.zip us)):Binds K fd ps []:=by
  obtain ⟨oc,od,kV,doc,pm,an,cdv,ct,osl,rfl,lk,hcd⟩:=F.ex
  exact .all (h kV doc pm an cdv ct)
theorem fun_mk {x qual:Str}{st:Stmt}{f:Addr}{oc:Value}{od an:Option Addr}{osl:Array (Option Value)}{kV doc pm cdv ct:Value} (l:K.lookup f=some ⟨oc,od,.func (PySem.W.fnOf x qual (defArgs st) (defBody st) (defScope st) .none kV doc pm an cdv ct),osl⟩)
    (c:PySem.W.codeIn K cdv qual=true) (k:PySem.W.keepIn K (.ref f)=true):Fun K x qual st f (PySem.W.fnOf x qual (defArgs st) (defBody st) (defScope st) .none kV doc pm an cdv ct):=⟨⟨oc,od,kV,doc,pm,an,cdv,ct,osl,rfl,l,c⟩,k⟩
end
section
variable {X:Cx}
theorem pv (i:Nat) {x:Str}{pos:Pos} (hN:X.N[i]?=some x:=by rfl) (hv:Vis X.env.scope x:=by first | exact Or.inl rfl | exact Or.inr (Or.inl rfl) | exact Or.inr (Or.inr rfl)) (hd:(x==("__debug__" : Str))=false:=by decide)
    (hcd:(x==("__classdict__" : Str))=false:=by decide):PE X (.Name x pos) (tVar i):=pe_var hN hv hd hcd
end
theorem iteF {A B:Prop} (h:B):if false=true then A else B:=by
  rw [if_neg Bool.false_ne_true]
  exact h
theorem iteT {A B:Prop} (h:A):if true=true then A else B:=by
  rw [if_pos rfl]
  exact h
theorem ite2 {c A B:Prop} [Decidable c] (h1:c→A) (h2:¬c→B):if c then A else B:=by
  by_cases h:c
  · rw [if_pos h]
    exact h1 h
  · rw [if_neg h]
    exact h2 h
def Same (H H':Hp):Prop:=∀b o,H b=some o→H' b=some o
theorem Same.refl (H:Hp):Same H H:=fun _ _ h=>h
theorem Same.trans {H H1 H2:Hp} (a:Same H H1) (b:Same H1 H2):Same H H2:=fun c o h=>b c o (a c o h)
theorem Same.free {H H':Hp} (e:Same H H') {l:Addr} (h:H' l=Option.none):H l=Option.none:=by
  cases q:H l with
  | none=>rfl
  | some o=>
    rw [e l o q] at h
    cases h
theorem Same.seq {K:PySem.W.Frag}{H H':Hp}{a:Addr}{xs:List V} (e:Same H H') (h:SqL K H a xs):SqL K H' a xs:=by
  rcases h with (h | ⟨o,h⟩) | h
  · exact .inl (.inl (e _ _ h))
  · exact .inl (.inr ⟨o,e _ _ h⟩)
  · exact .inr h
end L2
namespace L2
open PySem
theorem clos_ok {scope:Scope}{env:Env} (h:∀y∈scope.names,y.2=.free→∃c,env.cells.lookup y.1=some c) :
    ∃cl,closureFor scope env=pure cl∧(∀x c,cl.lookup x=some c→env.cells.lookup x=some c)∧(∀y∈scope.names,y.2=.free→∃c,cl.lookup y.1=some c):=by
  have go:∀(names:List (Str×NameKind)) (acc:List (Str×Addr)),(∀y∈names,y.2=.free→∃c,env.cells.lookup y.1=some c)→(∀x c,acc.lookup x=some c→env.cells.lookup x=some c)→
      ∃cl,(forIn names acc (fun (x:Str×NameKind) (cs:List (Str×Addr))=>match x with
        | (name,kind)=>if (kind==.free)=true then (do let a ←cellOf env name;pure (ForInStep.yield ((name,a) :: cs))) else pure (ForInStep.yield cs)):Sem (List (Str×Addr)))=pure cl∧
        (∀x c,cl.lookup x=some c→env.cells.lookup x=some c)∧(∀y∈names,y.2=.free→∃c,cl.lookup y.1=some c)∧(∀x c,acc.lookup x=some c→∃c',cl.lookup x=some c'):=by
    intro names
    induction names with
    | nil=>intro acc _ ha;exact ⟨acc,rfl,ha,fun y hy=>(by cases hy),fun x c e=>⟨c,e⟩⟩
    | cons x r ih=>
      intro acc hn ha
      obtain ⟨name,kind⟩:=x
      rw [List.forIn_cons]
      by_cases hk:kind=.free
      · subst hk
        obtain ⟨c,hc⟩:=hn (name,.free) List.mem_cons_self rfl
        have e:cellOf env name=pure c:=by unfold cellOf;rw [hc]
        obtain ⟨cl,e1,e2,e3,e4⟩:=ih ((name,c) :: acc) (fun y hy=>hn y (List.mem_cons_of_mem _ hy)) (fun x c' hx=>by
          rw [List.lookup_cons] at hx
          split at hx
          · rename_i hb
            have:x=name:=by simpa using hb
            subst this
            cases hx;exact hc
          · exact ha x c' hx)
        refine ⟨cl,?_,e2,fun y hy hf=>?_,fun x c' hx=>?_⟩
        · simp only [beq_self_eq_true,if_true]
          rw [e,pure_bind,pure_bind]
          exact e1
        · rcases List.mem_cons.mp hy with rfl | hy
          · exact e4 name c (by simp)
          · exact e3 y hy hf
        · by_cases hb:(x==name)=true
          · have:x=name:=by simpa using hb
            subst this
            exact e4 x c (by simp)
          · exact e4 x c' (by rw [List.lookup_cons];simp only [Bool.not_eq_true] at hb;rw [hb];exact hx)
      · have hb:(kind==NameKind.free)=false:=by simpa using hk
        obtain ⟨cl,e1,e2,e3,e4⟩:=ih acc (fun y hy=>hn y (List.mem_cons_of_mem _ hy)) ha
        refine ⟨cl,?_,e2,fun y hy hf=>?_,e4⟩
        · simp only [hb,Bool.false_eq_true,if_false]
          rw [pure_bind]
          exact e1
        · rcases List.mem_cons.mp hy with rfl | hy
          · exact absurd hf hk
          · exact e3 y hy hf
  obtain ⟨cl,e1,e2,e3,_⟩:=go scope.names [] h (fun x c e=>by simp at e)
  refine ⟨cl,?_,e2,e3⟩
  unfold closureFor
  show (forIn scope.names _ _ >>= fun cs=>pure cs)=_
  rw [bind_pure]
  exact e1
section
variable {prog:Program}{w:World}{A:Around}{R:Result→Shared→Prop}{s:Shared}
theorem compLoop_all {elt target iter:Expr}{ifs:List Expr}{scope:Scope}{pos:Pos}{it acc:Value}{env:Env} (I:Nat→Shared→Prop)
    (turn:∀n s,I n s→wpAny (model prog w) A (pyNext it) (fun r s₁=>match r with
      | none=>R (.ok .next) s₁
      | some v=>wpAny (model prog w) A (letOwnedTupleGo target it v) (fun _ s₁'=>wpAny (model prog w) A (assign target env v) (fun _ s₂=>
          wpAny (model prog w) A (forIn ifs true fun c r=>if r=true then do let ok ←isTrue c env (eval c env);pure (ForInStep.yield ok) else pure (ForInStep.yield r)) (fun ok s₃=>
            if ok=true then wpAny (model prog w) A (eval elt env) (fun x s₄=>
              wpAny (model prog w) A (call (.builtin "list.append") [acc,x]) (fun _ s₅=>∃m,m<n∧I m s₅) (fun _ _=>False) s₄) (fun _ _=>False) s₃
            else ∃m,m<n∧I m s₃) (fun _ _=>False) s₂) (fun _ _=>False) s₁') (fun _ _=>False) s₁) (fun _ _=>False) s)
    (n:Nat) (h:I n s) :
    codeAny (model prog w) A (.compLoop (.ListComp elt [⟨target,iter,ifs,0⟩] scope pos) 0 it acc env) R s:=by
  refine codeAny_loop rfl I (fun n s hI=>?_) n h
  show wpAny _ A ((compTurn (.ListComp elt [⟨target,iter,ifs,0⟩] scope pos) 0 it acc env).onRaise (fun x=>do noteFrame x env;theTreesLotGoes x)) _ _ s
  refine wpAny_noted ?_
  rw [compTurn_list]
  refine wpAny_bind (wpAny_standAt (wpAny_bind (wpAny_mono (turn n s hI) (fun r s₁ h₁=>?_) fun _ _ h'=>h'.elim)))
  cases r with
  | none=>exact wpAny_pure h₁
  | some v=>
    refine wpAny_bind (wpAny_mono h₁ (fun _ s₁' h₁'=>?_) fun _ _ h'=>h'.elim)
    refine wpAny_bind (wpAny_mono h₁' (fun _ s₂ h₂=>wpAny_bind (wpAny_mono h₂ (fun ok s₃ h₃=>?_) fun _ _ h'=>h'.elim)) fun _ _ h'=>h'.elim)
    cases ok with
    | false=>exact wpAny_pure ⟨rfl,h₃⟩
    | true=>
      exact wpAny_bind (wpAny_bind (wpAny_mono h₃ (fun x s₄ h₄=>wpAny_bind (wpAny_mono h₄ (fun _ s₅ h₅=>wpAny_pure (wpAny_pure ⟨rfl,h₅⟩)) fun _ _ h'=>h'.elim)) fun _ _ h'=>h'.elim))
end
end L2
namespace L2
open PySem PySem.Spec PyProof.Rows
section
variable {X:Cx}
theorem call_isinst:CallR X (.builtin "isinstance") (fun xs H Q=>Ex4 fun x T t b=>xs=[x,.ty T]∧TyOf X.K H x t∧PySem.W.kitOne X.K t (.type T)=some b∧Q (.bl b) H):=by
  intro pins s σ H xs us Q I r h
  obtain ⟨x,T,t,b,rfl,ty,e,q⟩:=h
  obtain ⟨u,c,rfl,ru,rc⟩:=r.two
  obtain rfl:c=Value.type T:=rc
  exact isinst_ok I ru ty e fun tk=>⟨.bl b,H,I.tok tk,rfl,q⟩
end
def cxComp (X:Cx) (scope:Scope) (cl:List (Str×Addr)) (C:Addr) (N':List Str) (s:Shared) (H:Hp) (ex:List Addr) (pn:List (Addr×Obj)):Cx:=
  { X with N:=N',s₀:=s,H₀:=H,env:=compEnvC scope cl C X.env,outer:=X.stack,ex:=ex,fn:=fun _=>false,pn:=pn,xe:=fun _ _=>False }
def cst (L:Nat) (src:List Nat) (σ:St):St:=List.replicate L none++src.map fun j=>(σ[j]?).join
def Back (σ σ':St):Prop:=σ'.length=σ.length∧∀(i:Nat) v,σ[i]?=some (some v)→σ'[i]?=some (some v)
theorem back1 {x:V}{r:St}:Back (none :: r) (some x :: r):=⟨rfl,fun i v e=>by
  cases i with
  | zero=>simp at e
  | succ i=>simpa using e⟩
theorem back2 {x y:V}{r:St}:Back (none :: none :: r) (some x :: some y :: r):=⟨rfl,fun i v e=>by
  cases i with
  | zero=>simp at e
  | succ i=>
    cases i with
    | zero=>simp at e
    | succ i=>simpa using e⟩
def PIfs (X:Cx) (ifs:List Expr) (t:TT):Prop:=
  ∀(pins:List (Addr×Obj)) (s:Shared) (σ:St) (H:Hp) (Q:Bool→Hp→Prop),Inv X pins σ H s→t σ H Q→
    wpAny (model X.prog X.w) X.A (forIn ifs true fun c r=>if r=true then do let ok ←isTrue c X.env (eval c X.env);pure (ForInStep.yield ok) else pure (ForInStep.yield r)) (TP X pins σ Q) X.xe s
def tT:TT:=fun _ H Q=>Q true H
theorem pifs_nil {X:Cx}:PIfs X [] tT:=fun _ _ _ H _ I h=>wpAny_pure ⟨H,I,h⟩
theorem pifs_one {X:Cx}{c:Expr}{t:TT} (hc:PT X c t):PIfs X [c] t:=by
  intro pins s σ H Q I h
  rw [List.forIn_cons]
  refine wpAny_bind ?_
  rw [if_pos rfl]
  exact wpAny_bind (thn (hc pins s σ H Q I h) fun b s1 q=>wpAny_pure (wpAny_pure q))
def compChk (esc:Scope) (N:List Str) (scope:Scope) (N':List Str) (L:Nat) (src:List Nat):Bool:=
  (scope.kind==.function) && scope.names.all (fun y=>y.2 != .cell && (y.2 != .local || scope.names.lookup y.1==some .local) && (y.2 != .free || esc.names.lookup y.1==some .cell || esc.names.lookup y.1==some .free)) &&
    (N'.length==L+src.length) && (List.range src.length).all fun i=>match src[i]?,N'[L+i]? with
      | some j,some x=>(N[j]?==some x) && (scope.names.lookup x==some .free)
      | _,_=>false
structure CompOk (esc:Scope) (N:List Str) (scope:Scope) (N':List Str) (L:Nat) (src:List Nat):Prop where
  kind:scope.kind=.function
  nocell:∀y∈scope.names,y.2≠.cell
  loc:∀y∈scope.names,y.2=.local→scope.names.lookup y.1=some .local
  free:∀y∈scope.names,y.2=.free→esc.names.lookup y.1=some .cell∨esc.names.lookup y.1=some .free
  len:N'.length=L+src.length
  frees:∀(i j:Nat),src[i]?=some j→∃x,N'[L+i]?=some x∧N[j]?=some x∧scope.names.lookup x=some .free
theorem compOk_of {esc:Scope}{N:List Str}{scope:Scope}{N':List Str}{L:Nat}{src:List Nat} (h:compChk esc N scope N' L src=true):CompOk esc N scope N' L src:=by
  unfold compChk at h
  simp only [Bool.and_eq_true,List.all_eq_true] at h
  obtain ⟨⟨⟨h1,h2⟩,h3⟩,h4⟩:=h
  refine ⟨by simpa using h1,fun y hy=>?_,fun y hy e=>?_,fun y hy e=>?_,by simpa using h3,fun i j e=>?_⟩
  · have:=(h2 y hy).1.1
    simpa using this
  · have:=(h2 y hy).1.2
    rw [e] at this
    simpa using this
  · have:=(h2 y hy).2
    rw [e] at this
    simpa using this
  · have hi:i<src.length:=(List.getElem?_eq_some_iff.mp e).1
    have:=h4 i (List.mem_range.mpr hi)
    rw [e] at this
    cases q:N'[L+i]? with
    | none=>rw [q] at this;simp at this
    | some x=>
      rw [q] at this
      simp only [Bool.and_eq_true,beq_iff_eq] at this
      exact ⟨x,rfl,this.1,this.2⟩
def CompW (J:It) (σc:St) (g:TG) (tt:TT) (te:TE) (D:Addr) (H1:Hp) (Q:VK):Prop:=
  ∃W:Nat→Nat→Hp→List V→Prop,(∃m,W 0 m (upd H1 D (.lst [])) [])∧∀i m H ys,W i m H ys→H D=some (.lst ys)∧
    ((J.stop i H∧Q (.ref D) H)∨(J.go i H∧ys.length<sizeLine∧∃N:Hp→List V→Prop,(∀H' ys',N H' ys'→∃m',m'<m∧W (i+1) m' H' ys')∧
      ∀x H',J.yld i H x H'→g x σc H' fun σ2 H2=>Back σc σ2∧tt σ2 H2 fun b H3=>if b=true then te σ2 H3 fun y H4=>H4 D=some (.lst ys)∧N (upd H4 D (.lst (ys++[y]))) (ys++[y]) else N H3 ys))
def tComp (wi:TI) (L:Nat) (src:List Nat) (g:TG) (tt:TT) (te:TE):TE:=fun σ H Q=>wi σ H fun J H1=>∀D,H1 D=none→CompW J (cst L src σ) g tt te D H1 Q
section
variable {X:Cx}{elt tg iter:Expr}{ifs:List Expr}{scope:Scope}{pos:Pos}{N':List Str}{L:Nat}{src:List Nat}{wi:TI}{g:TG}{tt:TT}{te:TE}
theorem comp_run (hc:X.calm=true) (ck:CompOk X.env.scope X.N scope N' L src) {cl:List (Str×Addr)}{pins:List (Addr×Obj)}{s:Shared}{σ:St}{H:Hp}{Q:VK} (I:Inv X pins σ H s)
    (hsub:∀x c,cl.lookup x=some c→X.env.cells.lookup x=some c) (hhas:∀y∈scope.names,y.2=.free→∃c,cl.lookup y.1=some c)
    (hi:PI X tg iter wi) (hg:∀cl C s H ex pn,PG (cxComp X scope cl C N' s H ex pn) tg g) (hif:∀cl C s H ex pn,PIfs (cxComp X scope cl C N' s H ex pn) ifs tt)
    (he:∀cl C s H ex pn,PE (cxComp X scope cl C N' s H ex pn) elt te) (h:tComp wi L src g tt te σ H Q) {RR:Value→Addr→Result→Shared→Prop}
    (hRR:∀D C H' f s' m,Inv X pins σ H' s'→s'.heap.Ns C m→FpOk X pins H' C→Q (.ref D) H'→RR (.ref D) C (.ok f) s') :
    wpAny (model X.prog X.w) X.A (eval iter X.env) (fun x s₁=>wpAny (model X.prog X.w) X.A (pyIter x) (fun it s₂=>wpAny (model X.prog X.w) X.A (newList []) (fun acc s₃=>
      wpAny (model X.prog X.w) X.A (newFunctionEnv scope X.env.globals cl [] X.env.qual none .none (some X.env)) (fun cenv s₄=>
        codeAny (model X.prog X.w) X.A (.compStart (.ListComp elt [⟨tg,iter,ifs,0⟩] scope pos) 0 it acc { cenv with scope:=relabel scope X.env }) (RR acc cenv.locals) s₄) X.xe s₃) X.xe s₂) X.xe s₁) X.xe s:=by
  refine thn (hi pins s σ H _ I h) fun v s1 h1=>thn h1 fun itv s2 h2=>?_
  obtain ⟨it,fp,tn,J,H2,e,I2,T,st2,f2,q⟩:=h2
  subst e
  refine wpAny_newObj_type (wpAny_newFunctionEnv ck.nocell (by intro y hy;simp at hy) (fun h₁ hns₁ hsb₁=>?_) ck.kind)
  dsimp only at hns₁ hsb₁ ⊢
  generalize hH2:s2.heap.push { cls:=.type "list",dict:=none,data:=.seq ([]:List Value).toArray }=hp2 at hns₁ hsb₁ ⊢
  have hC:hp2.objs.size=s2.heap.objs.size+1:=by rw [←hH2,Heap.size_push]
  have hDC:s2.heap.objs.size≠hp2.objs.size:=by rw [hC];exact Nat.ne_of_lt (Nat.lt_succ_self _)
  have hCle:s2.heap.objs.size≤hp2.objs.size:=by rw [hC];exact Nat.le_succ _
  have below:∀b,b<s2.heap.objs.size→b≠hp2.objs.size∧b≠s2.heap.objs.size:=fun b hb=>⟨by rw [hC];exact Nat.ne_of_lt (Nat.lt_succ_of_lt hb),Nat.ne_of_lt hb⟩
  have old:∀b o,s2.heap.get? b=some o→h₁.get? b=some o:=fun b o e=>hsb₁.extBut b o (below b (Heap.lt_size e)).1 (Heap.get?_push_of_some _ (hH2▸Heap.get?_push_of_some _ e))
  have hacc:h₁.get? s2.heap.objs.size=some { cls:=.type "list",dict:=none,data:=.seq ([]:List Value).toArray }:=hsb₁.extBut _ _ hDC (Heap.get?_push_of_some _ (hH2▸Heap.get?_push_size _ rfl))
  have hDn:H2 s2.heap.objs.size=none:=I2.fresh
  obtain ⟨W,⟨m0,w0⟩,turn⟩:=q _ hDn
  have fpo:∀b∈fp,∃o,s2.heap.get? b=some o∧∀v,o.data≠.cell v:=T.obj _ _ st2
  have fplt:∀b∈fp,b<s2.heap.objs.size:=fun b hb=>by obtain ⟨o,e,_⟩:=fpo b hb;exact Heap.lt_size e
  have hfrs:∀b∈fp,b∉frs X.stack:=fun b hb z=>by
    rcases List.mem_cons.mp (I2.stkSub b z) with z' | z'
    · exact (f2 b hb).2.1 z'
    · exact (f2 b hb).2.2.1 z'
  generalize hX:cxComp X scope cl hp2.objs.size N' s2 H2 fp (X.pn++pins)=X'
  have ok':X'.Ok:=by
    subst hX
    refine ⟨I2.ok.mod,ck.kind,I2.ok.glob,I2.ok.blt,hCle,fun x y c e1 e2=>I2.ok.inj x y c (hsub _ _ e1) (hsub _ _ e2),fun x hx=>?_,fun x c z _=>(by cases z),I2.ok.hd,I2.ok.frames,.inl rfl,fun b hb=>⟨(below b (fplt b hb)).1,fun x c e=>(f2 b hb).2.2.2.2.1 x c (hsub _ _ e)⟩,
      I2.bs,Nat.le_trans I2.ok.bsz I2.sz,fun b o e hb=>?_,hfrs,I2.stack,I2.stkFree⟩
    · -- a name that is a cell or free
      have hx':(relabel scope X.env).names.lookup x=some .cell∨(relabel scope X.env).names.lookup x=some .free:=hx
      have key:∀(names:List (Str×NameKind)),(∀y∈names,y.2≠.cell)→
          ((names.map fun (n,k)=>if (k==NameKind.free && X.env.scope.kind==.function && X.env.kindOf n==some .cell) then (n,NameKind.cell) else (n,k)).lookup x=some .cell∨
           (names.map fun (n,k)=>if (k==NameKind.free && X.env.scope.kind==.function && X.env.kindOf n==some .cell) then (n,NameKind.cell) else (n,k)).lookup x=some .free)→∃y∈names,y.1=x∧y.2=.free:=by
        intro names
        induction names with
        | nil=>intro _ h;rcases h with h | h <;> simp at h
        | cons y r ih=>
          intro hn h
          obtain ⟨n,k⟩:=y
          by_cases hb:x=n
          · subst hb
            refine ⟨(x,k),List.mem_cons_self,rfl,?_⟩
            by_cases hk:k=.free
            · exact hk
            · exfalso
              have hkb:(k==NameKind.free)=false:=by simpa using hk
              have hnc:k≠.cell:=hn (x,k) List.mem_cons_self
              simp only [List.map_cons,hkb,Bool.false_and,Bool.false_eq_true,if_false,List.lookup_cons,beq_self_eq_true,if_true] at h
              rcases h with h | h
              · exact hnc (Option.some.inj h)
              · exact hk (Option.some.inj h)
          · have hb':(x==n)=false:=by simpa using hb
            have h':((r.map fun (n,k)=>if (k==NameKind.free && X.env.scope.kind==.function && X.env.kindOf n==some .cell) then (n,NameKind.cell) else (n,k)).lookup x=some .cell∨
                (r.map fun (n,k)=>if (k==NameKind.free && X.env.scope.kind==.function && X.env.kindOf n==some .cell) then (n,NameKind.cell) else (n,k)).lookup x=some .free):=by
              rw [List.map_cons] at h
              dsimp only at h
              by_cases hcnd:(k==NameKind.free && X.env.scope.kind==.function && X.env.kindOf n==some .cell)=true
              · rw [if_pos hcnd] at h
                simpa only [List.lookup_cons,hb'] using h
              · rw [if_neg hcnd] at h
                simpa only [List.lookup_cons,hb'] using h
            obtain ⟨y,hy,e1,e2⟩:=ih (fun y hy=>hn y (List.mem_cons_of_mem _ hy)) h'
            exact ⟨y,List.mem_cons_of_mem _ hy,e1,e2⟩
      obtain ⟨y,hy,e1,e2⟩:=key scope.names ck.nocell hx'
      obtain ⟨c,hc'⟩:=hhas y hy e2
      exact ⟨c,e1▸hc'⟩
    · rcases (f2 b hb).2.2.2.1 with z | z
      · exact I2.ok.noex b o e z
      · exact absurd (Nat.lt_of_lt_of_le (Heap.lt_size e) (Nat.le_trans I2.ok.bsz z)) (Nat.lt_irrefl _)
  have stat:∀{H':Hp},(∀b∈fp,H' b=none)→∀b∈fp,FpOk X' [] H' b:=by
    subst hX
    intro H' hn b hb
    refine ⟨hn b hb,(below b (fplt b hb)).1,hfrs b hb,.inl hb,fun x c e=>(f2 b hb).2.2.2.2.1 x c (hsub _ _ e),fun p hp=>?_⟩
    have hp':p∈X.pn++pins:=by simpa [cxComp] using hp
    exact (f2 b hb).2.2.2.2.2 p hp'
  have I1:Inv X' [] (cst L src σ) (upd H2 s2.heap.objs.size (.lst [])) { s2 with heap:=h₁,toks:=s2.toks+([]:List (Str×Value)).length }:=by
    subst hX
    have up:∀b o,H2 b=some o→upd H2 s2.heap.objs.size (.lst []) b=some o:=fun b o e=>by rw [upd_ne (ne_of_none e hDn)];exact e
    have upn:∀b,b<s2.heap.objs.size→H2 b=none→upd H2 s2.heap.objs.size (.lst []) b=none:=fun b hb e=>by rw [upd_ne (Nat.ne_of_lt hb)];exact e
    refine ⟨ok',rfl,I2.bare,Un.laid old (Nat.le_refl _) hDn,⟨_,hns₁,fun i x v e1 e2 e3=>?_⟩,fun x c e=>?_,?_,fun x c e=>?_,fun p hp=>?_,I2.hok.laid old (Nat.le_refl _) ⟨Nat.zero_le _,[],0,.nil,hacc⟩,?_⟩
    · -- the names of the def around
      have hiL:L≤i:=by
        by_cases hlt:i<L
        · exfalso
          unfold cst at e2
          rw [List.getElem?_append_left (by simpa using hlt),List.getElem?_replicate,if_pos hlt] at e2
          cases e2
        · trivial
      have e2':(src.map fun j=>(σ[j]?).join)[i - L]?=some (some v):=by
        unfold cst at e2
        rw [List.getElem?_append_right (by simpa using hiL),List.length_replicate] at e2
        exact e2
      rw [List.getElem?_map] at e2'
      cases hj:src[i - L]? with
      | none=>rw [hj] at e2';cases e2'
      | some j=>
        rw [hj] at e2'
        have e3':(σ[j]?).join=some v:=Option.some.inj e2'
        have hσ:σ[j]?=some (some v):=by
          cases q:σ[j]? with
          | none=>rw [q] at e3';cases e3'
          | some o=>rw [q] at e3';exact congrArg some e3'
        obtain ⟨x',g1,g2,g3⟩:=ck.frees (i - L) j hj
        have:L+(i - L)=i:=by trivial
        rw [this] at g1
        have ex:x'=x:=Option.some.inj (g1.symm.trans e1)
        subst ex
        have hfree:=ck.free _ (PySem.mem_of_lookup g3) rfl
        obtain ⟨m,hn,hl⟩:=I2.loc
        obtain ⟨u,r,l⟩:=hl j x' v g2 hσ (hfree.elim (fun z=>.inr (.inl z)) fun z=>.inr (.inr z))
        refine ⟨u,r,.inr ⟨?_,?_⟩⟩
        · -- its kind in the block
          have key:∀(names:List (Str×NameKind)),names.lookup x'=some .free→
              ((names.map fun (n,k)=>if (k==NameKind.free && X.env.scope.kind==.function && X.env.kindOf n==some .cell) then (n,NameKind.cell) else (n,k)).lookup x'=some .cell∨
               (names.map fun (n,k)=>if (k==NameKind.free && X.env.scope.kind==.function && X.env.kindOf n==some .cell) then (n,NameKind.cell) else (n,k)).lookup x'=some .free):=by
            intro names
            induction names with
            | nil=>intro h;simp at h
            | cons y r ih=>
              intro h
              obtain ⟨n,k⟩:=y
              by_cases hb:x'=n
              · subst hb
                simp only [List.lookup_cons,beq_self_eq_true,if_true] at h
                have hk:k=.free:=Option.some.inj h
                subst hk
                rw [List.map_cons]
                dsimp only
                by_cases hcnd:(NameKind.free==NameKind.free && X.env.scope.kind==.function && X.env.kindOf x'==some .cell)=true
                · rw [if_pos hcnd];left;simp [List.lookup_cons]
                · rw [if_neg hcnd];right;simp [List.lookup_cons]
              · have hb':(x'==n)=false:=by simpa using hb
                have h':=ih (by simpa only [List.lookup_cons,hb'] using h)
                rw [List.map_cons]
                dsimp only
                by_cases hcnd:(k==NameKind.free && X.env.scope.kind==.function && X.env.kindOf n==some .cell)=true
                · rw [if_pos hcnd];simpa only [List.lookup_cons,hb'] using h'
                · rw [if_neg hcnd];simpa only [List.lookup_cons,hb'] using h'
          exact key scope.names g3
        · obtain ⟨c,hcl⟩:=hhas _ (PySem.mem_of_lookup g3) rfl
          have hcx:=hsub _ _ hcl
          rcases l with ⟨k1,_⟩ | ⟨_,c',e4,z⟩
          · exfalso
            have k1':X.env.scope.names.lookup x'=some .local:=k1
            rcases hfree with z | z
            · rw [z] at k1';cases k1'
            · rw [z] at k1';cases k1'
          · rw [hcx] at e4
            cases e4
            obtain ⟨o,ho,hd⟩:=z
            exact ⟨c,hcl,o,old _ _ ho,hd⟩
    · obtain ⟨v,o,ho,hd⟩:=I2.cell x c (hsub _ _ e)
      exact ⟨v,o,old _ _ ho,hd⟩
    · show upd H2 s2.heap.objs.size (.lst []) hp2.objs.size=none
      rw [upd_ne (Ne.symm hDC)]
      exact I2.hok.fresh hCle
    · obtain ⟨v,o,ho,hd⟩:=I2.cell x c (hsub _ _ e)
      exact upn c (Heap.lt_size ho) (I2.freeC x c (hsub _ _ e))
    · have hp':p∈X.pn++pins:=by simpa [cxComp] using hp
      obtain ⟨e,n,ne,nf,d⟩:=I2.pin p hp'
      have hlt:=Heap.lt_size e
      refine ⟨old _ _ e,upn _ hlt n,(below _ hlt).1,fun z=>?_,d⟩
      rcases List.mem_cons.mp (I2.stkSub _ z) with z' | z'
      · exact ne z'
      · exact nf z'
    · show (cst L src σ).length=N'.length
      unfold cst
      rw [List.length_append,List.length_replicate,List.length_map,ck.len]
  have eA:X'.A=X.A:=by subst hX;rfl
  have eP:X'.prog=X.prog:=by subst hX;rfl
  have eW:X'.w=X.w:=by subst hX;rfl
  have eK:X'.K=X.K:=by subst hX;rfl
  have ec:X'.calm=true:=by subst hX;exact hc
  have exe:X'.xe=fun _ _=>False:=by subst hX;rfl
  have eE:X'.env=compEnvC scope cl hp2.objs.size X.env:=by subst hX;rfl
  have hg':PG X' tg g:=by subst hX;exact hg _ _ _ _ _ _
  have hif':PIfs X' ifs tt:=by subst hX;exact hif _ _ _ _ _ _
  have he':PE X' elt te:=by subst hX;exact he _ _ _ _ _ _
  have aft:∀{H':Hp}{s':Shared},Inv X' [] (cst L src σ) H' s'→Inv X pins σ H' s'∧(∃m,s'.heap.Ns hp2.objs.size m)∧FpOk X pins H' hp2.objs.size:=by
    subst hX
    intro H' s' J
    refine ⟨I2.call' (ch:=fp) J.os J.base J.hok J.bare fun b hb=>⟨(f2 b hb).2.2.2.1,(f2 b hb).2.1,(f2 b hb).2.2.2.2.1,(f2 b hb).2.2.2.2.2⟩,?_,I2.fpOk hCle J.free⟩
    obtain ⟨m,hn,_⟩:=J.loc
    exact ⟨m,hn⟩
  have st1:tn 0 h₁:=T.keep _ _ _ st2 fun b hb o e=>old b o e
  have loop:∀s₃:Shared,s₃={ s2 with heap:=h₁,toks:=s2.toks+([]:List (Str×Value)).length }→
      codeAny (model X.prog X.w) X.A (.compLoop (.ListComp elt [⟨tg,iter,ifs,0⟩] scope pos) 0 (.ref it) (.ref s2.heap.objs.size) (compEnvC scope cl hp2.objs.size X.env))
        (RR (.ref s2.heap.objs.size) hp2.objs.size) s₃:=by
    rintro s₃ rfl
    refine compLoop_all (fun n s'=>Ex3 fun i H' ys=>Inv X' [] (cst L src σ) H' s'∧tn i s'.heap∧(∀b∈fp,H' b=none)∧W i n H' ys) ?_ m0
      ⟨0,_,[],I1,st1,fun b hb=>(by rw [upd_ne (below b (fplt b hb)).2];exact (f2 b hb).1),w0⟩
    rintro n s3 ⟨i,H3,ys,I3,st3,fr3,w3⟩
    obtain ⟨hD,alt⟩:=turn i n H3 ys w3
    rcases alt with ⟨stop,qn⟩ | ⟨go,hlen,N,hN,step⟩
    · have d:=T.done X' eP eW eK ec i [] s3 (cst L src σ) H3 (fun _ _=>False) I3 (stat fr3) st3 stop
      rw [eA] at d
      refine thn d fun r s4 ⟨hr,I4⟩=>?_
      subst hr
      obtain ⟨J,⟨m,hn⟩,fpC⟩:=aft I4
      exact hRR _ _ H3 .next s4 m J hn fpC qn
    · have d:=T.item X' eP eW eK ec i [] s3 (cst L src σ) H3 (fun _ _=>False) I3 (stat fr3) st3 go
      rw [eA] at d
      refine thn d fun r s4 ⟨u,hr,h4⟩=>?_
      subst hr
      refine thn h4 fun _ s5 ⟨x,H5,I5,r5,y5,st5,fr5⟩=>?_
      have I5':=I5.pinned (stat fr5) (T.obj _ _ st5)
      have a1:=hg' _ s5 (cst L src σ) H5 x u _ I5' r5 (step x H5 y5)
      rw [eP,eW,eA,eE,exe] at a1
      refine thn a1 fun _ s6 ⟨σ6,H6,I6,bk,q6⟩=>?_
      have a2:=hif' _ s6 σ6 H6 _ I6 q6
      rw [eP,eW,eA,eE,exe] at a2
      refine thn a2 fun b s7 ⟨H7,I7,q7⟩=>?_
      have again:∀{H8:Hp}{s8:Shared}{ys':List V},Inv X' ([]++pinsAt fp s5.heap) σ6 H8 s8→N H8 ys'→∃m,m<n∧Ex3 fun i H' ys=>Inv X' [] (cst L src σ) H' s8∧tn i s8.heap∧(∀b∈fp,H' b=none)∧W i m H' ys:=fun {H8 s8 ys'} I8 n8=>by
        obtain ⟨m',hm,w8⟩:=hN H8 ys' n8
        refine ⟨m',hm,i+1,H8,ys',(I8.unpinned).weak bk.1.symm bk.2,T.keep _ _ _ st5 fun b hb o e=>(I8.pin (b,o) (List.mem_append_right _ (List.mem_append_right _ (mem_pinsAt hb e)))).1,fun b hb=>?_,w8⟩
        obtain ⟨o,e,d⟩:=T.obj _ _ st5 b hb
        exact (I8.pin (b,o) (List.mem_append_right _ (List.mem_append_right _ (mem_pinsAt hb e)))).2.1
      cases b with
      | false=>
        rw [if_neg Bool.false_ne_true] at q7 ⊢
        exact again I7 q7
      | true=>
        rw [if_pos rfl] at q7 ⊢
        have a3:=he' _ s7 σ6 H7 _ I7 q7
        rw [eP,eW,eA,eE,exe] at a3
        refine thn a3 fun xv s8 ⟨y,H8,I8,r8,hD8,q8⟩=>?_
        have a4:=mt_append (X:=X') _ s8 σ6 H8 (.ref s2.heap.objs.size) [y] (.ref s2.heap.objs.size) [xv] (fun _ H'=>H'=upd H8 s2.heap.objs.size (.lst (ys++[y]))) I8 rfl (.cons r8 .nil) ⟨_,ys,y,rfl,rfl,hD8,hlen,rfl⟩
        rw [eP,eW,eA,exe] at a4
        refine thn a4 fun _ s9 ⟨_,H9,I9,_,e9⟩=>?_
        subst e9
        exact again I9 q8
  exact codeAny_compStart_list (loop _ rfl) (T.self _ 0 _ _ _ st1 (loop _ rfl))
theorem pe_comp (hc:X.calm=true) (ck:compChk X.env.scope X.N scope N' L src=true) (hi:PI X tg iter wi) (hg:∀cl C s H ex pn,PG (cxComp X scope cl C N' s H ex pn) tg g) (hif:∀cl C s H ex pn,PIfs (cxComp X scope cl C N' s H ex pn) ifs tt)
    (he:∀cl C s H ex pn,PE (cxComp X scope cl C N' s H ex pn) elt te) (hs:∀x,foldedSetIterable iter X.env x=pure x:=by intro _;rfl) :
    PE X (.ListComp elt [⟨tg,iter,ifs,0⟩] scope pos) (tComp wi L src g tt te):=by
  intro pins s σ H Q I h
  have ck:=compOk_of ck
  obtain ⟨cl,hclos,hsub,hhas⟩:=clos_ok (scope:=scope) (env:=X.env) fun y hy e=>I.ok.has y.1 (ck.free y hy e)
  rw [eval_ListComp]
  refine wpAny_comprehension_free (use:=none) rfl hs hclos ck.kind ck.loc (comp_run hc ck I hsub hhas hi hg hif he h (RR:=fun acc C=>compPost (model X.prog X.w) X.A X.xe none (EP X pins σ Q) acc C) ?_)
  intro D C H' f s' m J hn fpC q
  refine ⟨m,hn,fun h' hsb=>⟨.ref D,H',?_,rfl,q⟩⟩
  obtain ⟨f0,f1,f2,f3,f4,f5⟩:=fpC
  exact J.turned (t':=s'.toks) (fun b o hb e=>(hsb.2 b hb).trans e) f0 f1 f3 f4 f5
theorem ps_setComp {j:Nat}{y:Str}{py spos:Pos} (hN:X.N.Nodup) (hj:X.N[j]?=some y) (hy:X.env.scope.names.lookup y=some .local) (hsw:swapsWith (.ListComp elt [⟨tg,iter,ifs,0⟩] scope pos) (some (.Name y py)) spos.line X.env=pure true)
    (hc:X.calm=true) (ck:compChk X.env.scope X.N scope N' L src=true) (hi:PI X tg iter wi) (hg:∀cl C s H ex pn,PG (cxComp X scope cl C N' s H ex pn) tg g) (hif:∀cl C s H ex pn,PIfs (cxComp X scope cl C N' s H ex pn) ifs tt)
    (he:∀cl C s H ex pn,PE (cxComp X scope cl C N' s H ex pn) elt te) (hs:∀x,foldedSetIterable iter X.env x=pure x:=by intro _;rfl) :
    PS X (.Assign [.Name y py] (.ListComp elt [⟨tg,iter,ifs,0⟩] scope pos) spos) (tAsg (tComp wi L src g tt te) (gName j)):=by
  intro pins s σ H D I h
  have ck:=compOk_of ck
  obtain ⟨cl,hclos,hsub,hhas⟩:=clos_ok (scope:=scope) (env:=X.env) fun y hy e=>I.ok.has y.1 (ck.free y hy e)
  rw [exec_Assign_Name_used _ _ _ _ hsw]
  refine wpAny_bind (wpAny_standAt (wpAny_bind ?_))
  show wpAny _ X.A (do let _ ←comprehension (.ListComp elt [⟨tg,iter,ifs,0⟩] scope pos) scope X.env _ (newList []) false (eval iter X.env) (some (assign (.Name y py) X.env))) _ _ s
  refine wpAny_bind (wpAny_mono (wpAny_comprehension_free (use:=some (assign (.Name y py) X.env)) (Q:=fun _ s'=>SP X pins D .next s') rfl hs hclos ck.kind ck.loc
    (comp_run hc ck I hsub hhas hi hg hif he h (RR:=fun acc C=>compPost (model X.prog X.w) X.A X.xe (some (assign (.Name y py) X.env)) (fun _ s'=>SP X pins D .next s') acc C) ?_)) (fun _ s' hq=>wpAny_pure (wpAny_pure hq)) fun _ _ e=>e)
  intro L' C H' f s' m J hn fpC q
  show wpAny _ X.A (assign (.Name y py) X.env (.ref L')) _ _ _
  refine wpAny_assign_Name (store_ok2 J hN hj (.inl hy) (v:=.ref L') rfl (fun s2 J2 hsb=>?_) (.inr hy))
  obtain ⟨f0,f1,f2,f3,f4,f5⟩:=fpC
  obtain ⟨a,hsb,ha⟩:=hsb
  have hCa:C≠a:=by
    rcases ha with rfl | ha
    · exact f1
    · exact fun z=>f4 _ _ ha z.symm
  refine ⟨m,hn.sameBut hsb hCa,fun h' hsb'=>⟨_,H',?_,q⟩⟩
  exact J2.turned (t':=s2.toks) (fun b o hb e=>(hsb'.2 b hb).trans e) f0 f1 f3 f4 f5
end
theorem comp_over {J:It}{n:Nat}{H1:Hp}{D:Addr}{σc:St}{g:TG}{tt:TT}{te:TE}{Q:VK} (Pv:Nat→Hp→List V→Prop) (hz:n≤sizeLine) (h0:Pv 0 (upd H1 D (.lst [])) [])
    (hD:∀i H ys,Pv i H ys→H D=some (.lst ys)∧ys.length≤i)
    (hgo:∀i H ys,i<n→Pv i H ys→J.go i H) (hst:∀H ys,Pv n H ys→J.stop n H)
    (hs:∀i H ys x H',i<n→Pv i H ys→J.yld i H x H'→g x σc H' fun σ2 H2=>Back σc σ2∧tt σ2 H2 fun b H3=>if b=true then te σ2 H3 fun y H4=>H4 D=some (.lst ys)∧Pv (i+1) (upd H4 D (.lst (ys++[y]))) (ys++[y]) else Pv (i+1) H3 ys)
    (hd:∀H ys,Pv n H ys→Q (.ref D) H):CompW J σc g tt te D H1 Q:=by
  refine ⟨fun i m H ys=>m=n - i∧i≤n∧Pv i H ys,⟨n,by simp,Nat.zero_le _,h0⟩,?_⟩
  rintro i m H ys ⟨rfl,hi,p⟩
  obtain ⟨q1,q2⟩:=hD i H ys p
  refine ⟨q1,?_⟩
  by_cases hlt:i<n
  · exact .inr ⟨hgo i H ys hlt p,by trivial,Pv (i+1),fun H' ys' p'=>⟨n - (i+1),by trivial,rfl,hlt,p'⟩,fun x H' y=>hs i H ys x H' hlt p y⟩
  · have e:i=n:=by trivial
    subst e
    exact .inl ⟨hst H ys p,hd H ys p⟩
theorem comp_each {J:It}{n:Nat}{H1:Hp}{D:Addr}{σc:St}{g:TG}{te:TE}{Q:VK} (Pv:Nat→Hp→List V→Prop) (hz:n≤sizeLine) (h0:Pv 0 (upd H1 D (.lst [])) [])
    (hD:∀i H ys,Pv i H ys→H D=some (.lst ys)∧ys.length≤i)
    (hgo:∀i H ys,i<n→Pv i H ys→J.go i H) (hst:∀H ys,Pv n H ys→J.stop n H)
    (hs:∀i H ys x H',i<n→Pv i H ys→J.yld i H x H'→g x σc H' fun σ2 H2=>Back σc σ2∧te σ2 H2 fun y H4=>H4 D=some (.lst ys)∧Pv (i+1) (upd H4 D (.lst (ys++[y]))) (ys++[y]))
    (hd:∀H ys,Pv n H ys→Q (.ref D) H):CompW J σc g tT te D H1 Q:=by
  refine comp_over Pv hz h0 hD hgo hst (fun i H ys x H' hi p y=>?_) hd
  have e:=hs i H ys x H' hi p y
  have q:(fun (σ2:St) (H2:Hp)=>Back σc σ2∧tT σ2 H2 fun b H3=>if b=true then te σ2 H3 fun y H4=>H4 D=some (.lst ys)∧Pv (i+1) (upd H4 D (.lst (ys++[y]))) (ys++[y]) else Pv (i+1) H3 ys) =
      (fun σ2 H2=>Back σc σ2∧te σ2 H2 fun y H4=>H4 D=some (.lst ys)∧Pv (i+1) (upd H4 D (.lst (ys++[y]))) (ys++[y])):=by
    funext σ2 H2
    unfold tT
    dsimp only
    rw [if_pos rfl]
  rw [q]
  exact e
end L2
namespace L2
open PySem PySem.Spec PyProof.Rows
section
variable {X:Cx}{pins:List (Addr×Obj)}{σ:St}{H:Hp}{s:Shared}{h':Heap}
theorem Inv.turnedNew {t':Nat}{ch:List Addr}{T:Addr}{o:HO} (I:Inv X pins σ H s) (hf:∀b∈ch,FpOk X pins H b) (k:∀b u,b∉ch→s.heap.get? b=some u→h'.get? b=some u)
    (hT:s.heap.objs.size≤T) (new:ObjOk X.prog X.w (upd H T o) h' T o):Inv X pins σ (upd H T o) { s with heap:=h',toks:=t' }:=by
  have hn:H T=none:=I.hok.fresh hT
  refine I.step (g':=s.gens) (d':=s.drawn) (ch:=ch) (fun b hb=>?_) (fun b o _ _ hc e _=>k b o hc e) (fun b o _ _ hc e _=>⟨o.slots,k b o hc e⟩) (fun b o hc e n=>?_)
    (fun b o hc e=>⟨o,k b o hc e⟩) (fun b xs e=>?_) (fun b o u e=>?_) (fun b ps e=>?_) (fun m hm=>?_) (fun b u e=>?_) I.bare
  · obtain ⟨f0,f1,f2,f3,f4,f5⟩:=hf b hb
    exact ⟨f3,f1,f4,f5⟩
  · rw [upd_ne (Nat.ne_of_lt (Nat.lt_of_lt_of_le (Heap.lt_size e) hT))];exact n
  · rw [upd_ne (ne_of_none e hn)];exact e
  · rw [upd_ne (ne_of_none e hn)];exact e
  · exact ⟨#[],by rw [upd_ne (ne_of_none e hn),e];simp⟩
  · obtain ⟨o,es,ep,ho,r⟩:=hm
    exact ⟨o,es,ep,k _ o (fun z=>(hf _ z).2.1 rfl) ho,r⟩
  · by_cases hb:b=T
    · subst hb;rw [upd_same] at e;cases e;exact new
    · rw [upd_ne hb] at e
      refine (I.hok b u e).stay (fun c v hc q=>k c v (fun z=>?_) q) (fun c q=>by rw [upd_ne (ne_of_none q hn)];exact q) fun c xs q=>by rw [upd_ne (ne_of_none q hn)];exact q
      have hcn:=(hf c z).1
      rcases hc with rfl | hc
      · rw [e] at hcn;cases hcn
      · rw [hc] at hcn;cases hcn
end
section
variable {X:Cx}
theorem bools_get {bs:List Bool}{us:List Value} (r:Vals (bs.map V.bl) us) {i:Nat}{v:Value} (e:us[i]?=some v):∃b,bs[i]?=some b∧v=.bool b:=by
  have hl:=r.length
  rw [List.length_map] at hl
  have hi:i<us.length:=(List.getElem?_eq_some_iff.mp e).1
  have hb:bs[i]?=some bs[i]:=by simp [hl,hi]
  obtain ⟨u,h1,h2⟩:=r.get (i:=i) (x:=.bl bs[i]) (by rw [List.getElem?_map,hb];rfl)
  rw [e] at h1
  cases h1
  exact ⟨_,hb,h2⟩
theorem kept_it {s:Shared}{h':Heap}{o:Obj} (hk:∀b x,b∉[s.heap.objs.size]→(s.heap.push o).get? b=some x→h'.get? b=some x):∀b x,s.heap.get? b=some x→h'.get? b=some x:=
  fun b x e=>hk b x (fun hm=>by rw [List.mem_singleton.mp hm] at e;exact Nat.lt_irrefl _ (Heap.lt_size e)) (Heap.get?_push_of_some _ e)
theorem call_all (hc:X.calm=true):CallR X (.builtin "all") (fun xs H Q=>Ex2 fun (l:Addr) (bs:List Bool)=>xs=[.ref l]∧SqL X.K H l (bs.map V.bl)∧Q (.bl (bs.all id)) H):=by
  intro pins s σ H xs us Q I r h
  obtain ⟨l,bs,rfl,hq,q⟩:=h
  obtain ⟨u,rfl,ru⟩:=r.one
  obtain rfl:u=.ref l:=ru
  obtain ⟨its,rv,p,hz⟩:=I.list hq
  have hl:=p.isList
  have hlt:l<s.heap.objs.size:=by obtain ⟨_,e,_⟩:=hl;exact Heap.lt_size e
  refine call_all_walk (wpAny_pyIter_list hl ?_)
  refine ⟨s.heap.objs.size,[s.heap.objs.size,l],[s.heap.objs.size],its.toArray.size,_,_,fun i=>(bs[i]?).getD true,rfl,Walks.list (A:=X.A.in1) (I.ok.hd hc) _ l (Nat.ne_of_lt hlt) its.toArray,
    ⟨⟨_,Heap.get?_push_size _ rfl,rfl,rfl⟩,hl.push _⟩,fun i v s' Q' E' hP hQ=>?_,fun h' tk hk=>?_⟩
  · obtain ⟨b,e,rfl⟩:=bools_get rv (i:=i) (v:=v) (by simpa using hP)
    simp only [e,Option.getD_some] at hQ
    exact wpAny_truthy_bool hQ
  · have e:((List.range its.toArray.size).all fun i=>(bs[i]?).getD true)=bs.all id:=by
      rw [List.size_toArray,←rv.length,List.length_map];exact LSm.range_all bs
    rw [e]
    exact ⟨.bl _,H,I.kept (kept_it hk),rfl,q⟩
theorem call_any (hc:X.calm=true):CallR X (.builtin "any") (fun xs H Q=>Ex2 fun (l:Addr) (bs:List Bool)=>xs=[.ref l]∧SqL X.K H l (bs.map V.bl)∧Q (.bl (bs.any id)) H):=by
  intro pins s σ H xs us Q I r h
  obtain ⟨l,bs,rfl,hq,q⟩:=h
  obtain ⟨u,rfl,ru⟩:=r.one
  obtain rfl:u=.ref l:=ru
  obtain ⟨its,rv,p,hz⟩:=I.list hq
  have hl:=p.isList
  have hlt:l<s.heap.objs.size:=by obtain ⟨_,e,_⟩:=hl;exact Heap.lt_size e
  refine call_any_walk (wpAny_pyIter_list hl ?_)
  refine ⟨s.heap.objs.size,[s.heap.objs.size,l],[s.heap.objs.size],its.toArray.size,_,_,fun i=>(bs[i]?).getD false,rfl,Walks.list (A:=X.A.in1) (I.ok.hd hc) _ l (Nat.ne_of_lt hlt) its.toArray,
    ⟨⟨_,Heap.get?_push_size _ rfl,rfl,rfl⟩,hl.push _⟩,fun i v s' Q' E' hP hQ=>?_,fun h' tk hk=>?_⟩
  · obtain ⟨b,e,rfl⟩:=bools_get rv (i:=i) (v:=v) (by simpa using hP)
    simp only [e,Option.getD_some] at hQ
    exact wpAny_truthy_bool hQ
  · have e:((List.range its.toArray.size).any fun i=>(bs[i]?).getD false)=bs.any id:=by
      rw [List.size_toArray,←rv.length,List.length_map];exact LSm.range_any bs
    rw [e]
    exact ⟨.bl _,H,I.kept (kept_it hk),rfl,q⟩
end
def Ite (K:PySem.W.Frag) (a:Addr):It:=
  ⟨fun i H=>Ex2 fun xs x=>SqL K H a xs∧xs[i]?=some x,fun i H v H'=>Ex2 fun T x=>H T=none∧v=.ref T∧H'=upd H T (.tup [.int (i:Int),x])∧∀xs,SqL K H a xs→xs[i]?=some x,fun i H=>∃xs,SqL K H a xs∧xs.length≤i⟩
theorem turn_enum {P:Program}{w:World}{K:PySem.W.Frag}{es:List Expr}{kk:Nat}{pos:Pos} (a e it:Addr) (hne:e≠it) :
    Turn P w K (.Tuple es kk pos) (Ite K a) [e,it] e (fun i h=>(∃old,IsEnum h e it i old)∧h.IsListIter it a i) where
  mem:=by simp
  obj:=fun i h st b hb=>by
    obtain ⟨⟨old,he⟩,o,e1,c,d⟩:=st
    have hb':b=e∨b=it:=by simpa using hb
    rcases hb' with rfl | rfl
    · exact ⟨_,he,fun v z=>by
        have z':Data.fields _=Data.cell v:=z
        cases z'⟩
    · exact ⟨o,e1,fun v z=>by rw [d] at z;cases z⟩
  keep:=fun i h h' st k=>by
    obtain ⟨⟨old,he⟩,hi⟩:=st
    exact ⟨⟨old,k e (by simp) _ he⟩,hi.at fun o q=>k it (by simp) o q⟩
  item:=by
    intro X hP hw hK hc i pins s σ H E I hf st hg
    subst hP hw hK
    obtain ⟨⟨old,he⟩,hit⟩:=st
    obtain ⟨xs,x,hq,hx⟩:=hg
    obtain ⟨its,rv,p,hz⟩:=I.list hq
    obtain ⟨u,hu,ru⟩:=rv.get hx
    have hnT:H s.heap.objs.size=none:=I.fresh
    refine wpAny_pyNext_enum_item he hit p.isList (x:=u) (by simpa using hu) hne fun h' ho hit' hT hsz hk=>?_
    refine ⟨_,rfl,wpAny_letOwnedTupleGo_enum (s:={ s with heap:=h',toks:=s.toks+1 }) ho fun h'' he'' hs''=>?_⟩
    have helt:e<s.heap.objs.size:=Heap.lt_size he
    have hilt:it<s.heap.objs.size:=by obtain ⟨_,y,_⟩:=hit;exact Heap.lt_size y
    have hT'':h''.get? s.heap.objs.size=some { cls:=.type "tuple",data:=.seq #[.int i s.toks,u] }:=(hs''.2 _ (Nat.ne_of_gt helt)).trans hT
    refine ⟨.ref s.heap.objs.size,upd H s.heap.objs.size (.tup [.int (i:Int),x]),I.turnedNew (ch:=[e,it]) (t':=s.toks+1) hf (fun b o hb q=>?_) (Nat.le_refl _) ?_,rfl,⟨_,x,hnT,rfl,rfl,fun ys hy=>by rw [I.list_inj hy hq];exact hx⟩,⟨⟨u,?_⟩,hit'.extBut hs''.extBut (Ne.symm hne)⟩,fun b hb=>?_⟩
    · have h1:b≠e:=fun z=>hb (by simp [z])
      have h2:b≠it:=fun z=>hb (by simp [z])
      exact (hs''.2 b h1).trans (hk b o h1 h2 q)
    · exact ⟨by show 2≤sizeLine;decide,[.int i s.toks,u],.cons ⟨_,rfl⟩ (.cons ru .nil),⟨_,hT'',rfl,_,rfl⟩,_,hT'',rfl⟩
    · simpa using he''
    · have hb':b=e∨b=it:=by simpa using hb
      have hlt:b<s.heap.objs.size:=by rcases hb' with rfl | rfl <;> assumption
      rw [upd_ne (Nat.ne_of_lt hlt)]
      exact (hf b hb).1
  done:=by
    intro X hP hw hK hc i pins s σ H E I hf st hg
    subst hP hw hK
    obtain ⟨⟨old,he⟩,hit⟩:=st
    obtain ⟨xs,hq,hx⟩:=hg
    obtain ⟨its,rv,p,hz⟩:=I.list hq
    obtain ⟨f0,f1,f2,f3,f4,f5⟩:=hf it (by simp)
    have hl:=rv.length
    exact wpAny_pyNext_enum_end (I.ok.hd hc) he hit p.isList (by simp;trivial) fun h' eb=>⟨rfl,I.turned (t':=s.toks) (fun b o hb e=>eb b o hb e) f0 f1 f3 f4 f5⟩
  self:=fun _ _ _ _ _ st h=>by
    obtain ⟨⟨old,he⟩,_⟩:=st
    exact wpAny_pyIter_enum he h
def iEnum (K:PySem.W.Frag) (ta:TA):TI:=fun σ H R=>ta σ H fun vs H1=>∃a,vs=[.ref a]∧(∃xs,SqL K H1 a xs)∧R (Ite K a) H1
theorem pi_enum {X:Cx}{es:List Expr}{kk:Nat}{tp:Pos}{a:Expr}{ta:TA}{p pos:Pos} (hg:Gl X "enumerate") (hm:X.mg "enumerate" = none) (ha:PA X [a] ta) (hs:starEach [a] X.env=[(false,eval a X.env)]:=by rfl) :
    PI X (.Tuple es kk tp) (.Call (.Name "enumerate" p) [a] [] pos) (iEnum X.K ta):=by
  intro pins s σ H R I h
  refine Call_ (ld_blt I hg hm boot_enumerate (PyProof.Rows.callWith_type1 (thn (ha pos pins s σ H _ I h) fun us s1 ⟨vs,H1,I1,r1,q1⟩=>?_) hs rfl))
  obtain ⟨a,rfl,⟨xs,hq⟩,q⟩:=q1
  obtain ⟨u,rfl,ru⟩:=r1.one
  obtain rfl:u=.ref a:=ru
  obtain ⟨its,rv,p,hz⟩:=I1.list hq
  refine call_enumerate_list p.isList fun h' hE hI hsz hk=>wpAny_pyIter_enum hE ?_
  have I2:Inv X pins σ H1 { s1 with heap:=h',toks:=s1.toks }:=I1.kept hk
  refine ⟨s1.heap.objs.size+1,[s1.heap.objs.size+1,s1.heap.objs.size],_,_,H1,rfl,I2,turn_enum a (s1.heap.objs.size+1) s1.heap.objs.size (Nat.succ_ne_self _),⟨⟨_,hE⟩,hI⟩,fun b hb=>?_,q⟩
  have hb':b=s1.heap.objs.size+1∨b=s1.heap.objs.size:=by simpa using hb
  have hle:s1.heap.objs.size≤b:=by rcases hb' with rfl | rfl <;> trivial
  exact I1.fpOk hle (I1.hok.fresh hle)
end L2
namespace L2
open PySem PySem.Spec PyProof.Rows
theorem boot_b_len:bootBuiltins "len" = some (.builtin "len"):=by decide +kernel
theorem boot_b_abs:bootBuiltins "abs" = some (.builtin "abs"):=by decide +kernel
theorem boot_b_min:bootBuiltins "min" = some (.builtin "min"):=by decide +kernel
theorem boot_b_max:bootBuiltins "max" = some (.builtin "max"):=by decide +kernel
theorem boot_b_all:bootBuiltins "all" = some (.builtin "all"):=by decide +kernel
theorem boot_b_any:bootBuiltins "any" = some (.builtin "any"):=by decide +kernel
theorem boot_b_divmod:bootBuiltins "divmod" = some (.builtin "divmod"):=by decide +kernel
theorem boot_b_isinstance:bootBuiltins "isinstance" = some (.builtin "isinstance"):=by decide +kernel
theorem boot_ty_int:bootBuiltins "int" = some (.type "int"):=by decide +kernel
theorem boot_ty_bool:bootBuiltins "bool" = some (.type "bool"):=by decide +kernel
theorem boot_ty_str:bootBuiltins "str" = some (.type "str"):=by decide +kernel
theorem boot_ty_list:bootBuiltins "list" = some (.type "list"):=by decide +kernel
theorem boot_ty_tuple:bootBuiltins "tuple" = some (.type "tuple"):=by decide +kernel
theorem pe_ty {X:Cx}{x:Str}{T:String}{pos:Pos} (hg:Gl X x) (hm:X.mg x=none) (hv:bootBuiltins x=some (.type T)) (hn:x≠"__name__" := by decide) (hd:(x==("__debug__" : Str))=false:=by decide):PE X (.Name x pos) (tC (.ty T)):=
  pe_bltn (v:=.ty T) hg hm hv rfl hn hd
mutual
inductive IsD (E:Addr→Prop) (H:Hp):V→PyData→Prop
  | non:IsD E H .non .none
  | bl (b:Bool):IsD E H (.bl b) (.bool b)
  | int (i:Int):IsD E H (.int i) (.int i)
  | str (x:Str):IsD E H (.str x) (.str x)
  | lst {a:Addr}{xs:List V}{ds:List PyData} (h:H a=some (.lst xs)) (ne:¬E a) (r:IsAll E H xs ds):IsD E H (.ref a) (.list ds)
  | tup {a:Addr}{xs:List V}{ds:List PyData} (h:H a=some (.tup xs)) (r:IsAll E H xs ds):IsD E H (.ref a) (.tuple ds)
inductive IsAll (E:Addr→Prop) (H:Hp):List V→List PyData→Prop
  | nil:IsAll E H [] []
  | cons {x:V}{xs:List V}{d:PyData}{ds:List PyData} (h:IsD E H x d) (r:IsAll E H xs ds):IsAll E H (x :: xs) (d :: ds)
end
structure SameE (E:Addr→Prop) (H H':Hp):Prop where
  old:∀a o,¬E a→H a=some o→H' a=some o
  tup:∀a xs,H a=some (.tup xs)→H' a=some (.tup xs)
mutual
theorem IsD.mono {E:Addr→Prop}{H H':Hp} (k:SameE E H H'):∀{v:V}{d:PyData},IsD E H v d→IsD E H' v d
  | _,_,.non=>.non
  | _,_,.bl b=>.bl b
  | _,_,.int i=>.int i
  | _,_,.str x=>.str x
  | _,_,.lst h ne r=>.lst (k.old _ _ ne h) ne (IsAll.mono k r)
  | _,_,.tup h r=>.tup (k.tup _ _ h) (IsAll.mono k r)
theorem IsAll.mono {E:Addr→Prop}{H H':Hp} (k:SameE E H H'):∀{vs:List V}{ds:List PyData},IsAll E H vs ds→IsAll E H' vs ds
  | _,_,.nil=>.nil
  | _,_,.cons h r=>.cons (IsD.mono k h) (IsAll.mono k r)
end
theorem SameE.refl {E:Addr→Prop} (H:Hp):SameE E H H:=⟨fun _ _ _ h=>h,fun _ _ h=>h⟩
theorem SameE.trans {E:Addr→Prop}{H H1 H2:Hp} (a:SameE E H H1) (b:SameE E H1 H2):SameE E H H2:=⟨fun c o n h=>b.old c o n (a.old c o n h),fun c xs h=>b.tup c xs (a.tup c xs h)⟩
theorem Same.toE {E:Addr→Prop}{H H':Hp} (a:Same H H'):SameE E H H':=⟨fun c o _ h=>a c o h,fun c xs h=>a c _ h⟩
theorem Same.new {H:Hp}{p:Addr}{o:HO} (h:H p=none):Same H (upd H p o):=fun b u e=>by rw [upd_ne (ne_of_none e h)];exact e
theorem IsAll.length {E:Addr→Prop}{H:Hp}:∀{vs:List V}{ds:List PyData},IsAll E H vs ds→vs.length=ds.length
  | _,_,.nil=>rfl
  | _,_,.cons _ r=>by simp [IsAll.length r]
theorem IsAll.get {E:Addr→Prop}{H:Hp}:∀{vs:List V}{ds:List PyData}{i:Nat}{v:V},IsAll E H vs ds→vs[i]?=some v→∃d,ds[i]?=some d∧IsD E H v d
  | _,_,_,_,.nil,e=>by simp at e
  | _,_,0,_,.cons h _,e=>by simp at e;subst e;exact ⟨_,rfl,h⟩
  | _,_,i+1,v,.cons _ r,e=>by
    obtain ⟨d,h1,h2⟩:=IsAll.get (i:=i) (v:=v) r (by simpa using e)
    exact ⟨d,by simpa using h1,h2⟩
theorem IsAll.append {E:Addr→Prop}{H:Hp}:∀{vs ws:List V}{ds es:List PyData},IsAll E H vs ds→IsAll E H ws es→IsAll E H (vs++ws) (ds++es)
  | _,_,_,_,.nil,s=>s
  | _,_,_,_,.cons h r,s=>.cons h (IsAll.append r s)
mutual
theorem IsD.reads {E:Addr→Prop}{P:Program}{w:World}{H:Hp}{h:Heap} (ok:HOk P w H h):∀{v:V}{d:PyData},IsD E H v d→∀{u:Value},RelV v u→∃as,Reads h u d as
  | _,_,.non,u,r=>by obtain rfl:u=.none:=r;exact ⟨_,.none⟩
  | _,_,.bl b,u,r=>by obtain rfl:u=.bool b:=r;exact ⟨_,.bool b⟩
  | _,_,.int i,u,r=>by obtain ⟨t,rfl⟩:=r;exact ⟨_,.int i t⟩
  | _,_,.str x,u,r=>by obtain ⟨t,rfl⟩:=r;exact ⟨_,.str x t⟩
  | _,_,.lst (a:=a) (xs:=xs) e _ q,u,r=>by
    obtain rfl:u=.ref a:=r
    obtain ⟨_,its,n,rv,e1⟩:=(show ObjOk P w H h a (.lst xs) from ok a _ e)
    obtain ⟨as,ra⟩:=IsAll.reads ok q rv
    exact ⟨_,.list e1 rfl rfl (by simpa using ra)⟩
  | _,_,.tup (a:=a) (xs:=xs) e q,u,r=>by
    obtain rfl:u=.ref a:=r
    obtain ⟨_,its,rv,⟨o,e1,c,n,dd⟩,_⟩:=(show ObjOk P w H h a (.tup xs) from ok a _ e)
    obtain ⟨as,ra⟩:=IsAll.reads ok q rv
    exact ⟨_,.tuple e1 c dd (by simpa using ra)⟩
theorem IsAll.reads {E:Addr→Prop}{P:Program}{w:World}{H:Hp}{h:Heap} (ok:HOk P w H h):∀{vs:List V}{ds:List PyData},IsAll E H vs ds→∀{us:List Value},Vals vs us→∃as,ReadsAll h us ds as
  | _,_,.nil,us,r=>by cases r;exact ⟨_,.nil⟩
  | _,_,.cons q qs,us,r=>by
    cases r with
    | cons r1 rr=>
      obtain ⟨as,h1⟩:=IsD.reads ok q r1
      obtain ⟨bs,h2⟩:=IsAll.reads ok qs rr
      exact ⟨_,.cons h1 h2⟩
end
section
variable {X:Cx}
theorem call_str_data {k:Nat} (hr:Room k X.A):CallR X (.type "str") (fun xs H Q=>Ex3 fun (a:Addr) (d:PyData) (E:Addr→Prop)=>xs=[.ref a]∧IsD E H (.ref a) d∧d.showable=true∧d.hasDict=false∧d.depth≤50∧d.shown.length≤sizeLine∧Q (.str d.shown) H):=by
  intro pins s σ H xs us Q I r h
  obtain ⟨a,d,E,rfl,hd,h1,h2,h3,h4,q⟩:=h
  obtain ⟨u,rfl,ru⟩:=r.one
  obtain rfl:u=.ref a:=ru
  obtain ⟨as,rr⟩:=hd.reads I.hok (u:=.ref a) rfl
  refine str_of_reads rr h1 (PyData.noDict_hsm h2) hr.gd (by have:=hr.units;trivial) (fun _ _ e=>e) (fun h' u tk hk=>?_) h4
  exact ⟨.str _,H,I.kept hk,⟨_,rfl⟩,q⟩
def CDivB (_ j:Int):Prop:=0<j∧j.natAbs.log2<9000
theorem op_fdivB:OpR X (binaryOp .FloorDiv) (rI CDivB fun i j=>.int (i / j)):=opI fun i j _ _ _ _ _ hc q=>by
  rw [←Int.fdiv_eq_ediv_of_nonneg _ (Int.le_of_lt hc.1)] at q
  exact floordiv_int (Int.ne_of_gt hc.1) q (.inl (PyProof.noPylong_of_log2 hc.2))
end
end L2
namespace L2
open PySem PySem.Spec PyProof.Rows
def tyN:PyData→String
  | .none => "NoneType"
  | .bool _ => "bool"
  | .int _ => "int"
  | .str _ => "str"
  | .list _ => "list"
  | .tuple _ => "tuple"
  | .dict _ => "dict"
theorem IsD.ty {K:PySem.W.Frag}{E:Addr→Prop}{H:Hp}{v:V}{d:PyData} (h:IsD E H v d):TyOf K H v (.type (tyN d)):=by
  cases h with
  | non=>exact .non
  | bl b=>exact .bl b
  | int i=>exact .int i
  | str x=>exact .str x
  | lst h ne r=>exact .lst h
  | tup h r=>exact .tup h
def isBoolB:PyData→Bool
  | .bool _=>true
  | _=>false
def isLstB:PyData→Bool
  | .list _=>true
  | _=>false
theorem kit_bool {K:PySem.W.Frag} (d:PyData):PySem.W.kitOne K (.type (tyN d)) (.type "bool")=some (isBoolB d):=by cases d <;> rfl
theorem kit_list {K:PySem.W.Frag} (d:PyData):PySem.W.kitOne K (.type (tyN d)) (.type "list")=some (isLstB d):=by cases d <;> rfl
inductive rIsi_ (K:PySem.W.Frag) (xs:List V) (H:Hp) (Q:VK):Prop
  | mk (x:_) (T:_) (t:_) (b:_) (h0:xs=[x,.ty T]) (h1:TyOf K H x t) (h2:PySem.W.kitOne K t (.type T)=some b) (h3:Q (.bl b) H)
def rIsi (K:PySem.W.Frag):List V→Hp→VK→Prop:=fun xs H Q=>rIsi_ K xs H Q
end L2
namespace L2
open PySem PySem.Spec PyProof.Rows
section
variable {X:Cx}
theorem call_divmodB:CallR X (.builtin "divmod") (fun xs H Q=>Ex2 fun i j=>xs=[.int i,.int j]∧CDivB i j∧∀p,H p=none→Q (.ref p) (upd H p (.tup [.int (i / j),.int (i % j)]))):=by
  intro pins s σ H xs us Q I r h
  obtain ⟨i,j,rfl,⟨h1,h2⟩,q⟩:=h
  obtain ⟨u,w',rfl,⟨t,rfl⟩,⟨t',rfl⟩⟩:=vals2 r
  refine divmod_int (by trivial) ?_ (.inl (PyProof.noPylong_of_log2 h2))
  rw [Int.fdiv_eq_ediv_of_nonneg i (by trivial),Int.fmod_eq_emod_of_nonneg i (by trivial)]
  have hn:H s.heap.objs.size=none:=I.hok.fresh (Nat.le_refl _)
  refine ⟨.ref s.heap.objs.size,_,?_,rfl,q _ hn⟩
  refine I.laid (fun b o e=>Heap.get?_push_of_some _ e) (Nat.le_refl _) ⟨by simp only [List.length_cons,List.length_nil];rw [sizeLine_eq];decide,[.int (i / j) s.toks,.int (i % j) (s.toks+1)],.cons ⟨_,rfl⟩ (.cons ⟨_,rfl⟩ .nil),?_⟩
  exact ⟨⟨_,Heap.get?_push_size s.heap rfl,rfl,0,rfl⟩,_,Heap.get?_push_size s.heap rfl,rfl⟩
end
theorem b01 (c:Bool):-(2 ^ 64)<(if c=true then (1:Int) else 0)∧(if c=true then (1:Int) else 0)<2 ^ 64:=by cases c <;> decide
theorem abs_nn (x:Int):0≤(if x<0 then -x else x):=by split <;> trivial
theorem mul01 {x:Int} (c:Bool) (h:0≤x):0≤x*(if c=true then (1:Int) else 0):=by cases c <;> simp [h]
theorem atI_int {ms:List Int}{k:Int} (h0:0≤k) (h:k.toNat<ms.length):atI (ms.map V.int) k=some (V.int ms[k.toNat]):=by
  have q:=atI_nat (xs:=ms.map V.int) (j:=k.toNat) (v:=V.int ms[k.toNat]) (by rw [List.getElem?_map];simp [h])
  rwa [Int.toNat_of_nonneg h0] at q
def Bx (H:Hp) (b:Addr) (t:Int):Prop:=∃c x:Int,H b=some (.lst [.int c,.int x,.int t])∧0≤c∧0≤x∧x<2147483647
abbrev Eb (b:Addr):Addr→Prop:=fun a=>a=b
theorem Bx.same {H H':Hp}{b:Addr}{t:Int} (h:Bx H b t) (k:Same H H'):Bx H' b t:=by
  obtain ⟨c,x,e,r⟩:=h
  exact ⟨c,x,k _ _ e,r⟩
theorem sameE_upd {H H1:Hp}{b:Addr}{xs:List V}{o:HO} (k:Same H H1) (hb:H1 b=some (.lst xs)):SameE (Eb b) H (upd H1 b o):=
  ⟨fun a u n h=>by rw [upd_ne n];exact k a u h,fun a ys h=>by
    have e:=k a _ h
    rw [upd_ne (ne_of e hb (by intro z;cases z))];exact e⟩
inductive spBox_ (K:PySem.W.Frag) (vs:List V) (H:Hp) (Q:VK):Prop
  | mk (a:Addr) (ms:List Int) (k:Int) (h0:vs=[.ref a,.int k]) (h1:SqL K H a (ms.map V.int)) (h2:0≤k) (h3:k≤63) (h4:∀p H',H p=none→Same H H'→Bx H' p 0→Q (.ref p) H')
def spBox (K:PySem.W.Frag):Sp:=fun vs H Q _=>spBox_ K vs H Q
inductive spTake_ (vs:List V) (H:Hp) (Q:VK):Prop
  | mk (b:Addr) (many t:Int) (h0:vs=[.ref b,.int many]) (h1:Bx H b t) (h2:0<many) (h3:many.natAbs.log2<9000) (h4:0≤t) (h5:t≤1000000) (h6:∀r t' H',0≤r→r<many→t≤t'→t'≤t+1→SameE (Eb b) H H'→Bx H' b t'→Q (.int r) H')
def spTake:Sp:=fun vs H Q _=>spTake_  vs H Q
end L2
namespace L2
open PySem PySem.Spec PyProof.Rows
def nodupB:List Str→Bool
  | []=>true
  | x :: r=>!r.contains x && nodupB r
theorem nodupS:∀l:List Str,nodupB l=true→l.Nodup
  | [],_=>List.nodup_nil
  | x :: r,h=>by
    unfold nodupB at h
    simp only [Bool.and_eq_true,Bool.not_eq_true',List.contains_eq_mem,decide_eq_false_iff_not] at h
    exact List.nodup_cons.mpr ⟨h.1,nodupS r h.2⟩
inductive rLen_ (K:PySem.W.Frag) (xs:List V) (H:Hp) (Q:VK):Prop
  | mk (p:_) (ys:_) (h0:xs=[.ref p]) (h1:(SqL K H p ys∨SqT K H p ys)) (h2:Q (.int ys.length) H)
def rLen (K:PySem.W.Frag):List V→Hp→VK→Prop:=fun xs H Q=>rLen_ K xs H Q
section
variable {X:Cx}{K:PySem.W.Frag}
theorem isinst_k (e:X.K=K:=by rfl):CallR X (.builtin "isinstance") (rIsi K):=by subst e;exact fun pins s σ H xs us Q I r ⟨x,T,t,b,h1,h2,h3,q⟩=>call_isinst pins s σ H xs us Q I r ⟨x,T,t,b,h1,h2,h3,q⟩
theorem len_k (e:X.K=K:=by rfl):CallR X (.builtin "len") (rLen K):=by subst e;exact fun pins s σ H xs us Q I r ⟨p,ys,h1,h2,q⟩=>call_len_seq pins s σ H xs us Q I r ⟨p,ys,h1,h2,q⟩
theorem ixL_k (e:X.K=K:=by rfl):IxR X (rIxL K):=by subst e;exact ix_list
theorem ixT_k (e:X.K=K:=by rfl):IxR X (rIxT K):=by subst e;exact ix_tup
theorem in_k (e:X.K=K:=by rfl):OpR X (compareOp .In) (rIn K false):=by subst e;exact op_in_seq
theorem notIn_k (e:X.K=K:=by rfl):OpR X (compareOp .NotIn) (rIn K true):=by subst e;exact op_notIn_seq
inductive rAll_ (K:PySem.W.Frag) (xs:List V) (H:Hp) (Q:VK):Prop
  | mk (l:Addr) (bs:List Bool) (h0:xs=[.ref l]) (h1:SqL K H l (bs.map V.bl)) (h2:Q (.bl (bs.all id)) H)
def rAll (K:PySem.W.Frag):List V→Hp→VK→Prop:=fun xs H Q=>rAll_ K xs H Q
inductive rAny_ (K:PySem.W.Frag) (xs:List V) (H:Hp) (Q:VK):Prop
  | mk (l:Addr) (bs:List Bool) (h0:xs=[.ref l]) (h1:SqL K H l (bs.map V.bl)) (h2:Q (.bl (bs.any id)) H)
def rAny (K:PySem.W.Frag):List V→Hp→VK→Prop:=fun xs H Q=>rAny_ K xs H Q
theorem all_k (hc:X.calm=true) (e:X.K=K:=by rfl):CallR X (.builtin "all") (rAll K):=by subst e;exact fun pins s σ H xs us Q I r ⟨l,bs,h1,h2,q⟩=>call_all hc pins s σ H xs us Q I r ⟨l,bs,h1,h2,q⟩
theorem any_k (hc:X.calm=true) (e:X.K=K:=by rfl):CallR X (.builtin "any") (rAny K):=by subst e;exact fun pins s σ H xs us Q I r ⟨l,bs,h1,h2,q⟩=>call_any hc pins s σ H xs us Q I r ⟨l,bs,h1,h2,q⟩
theorem pg_tup_k {pos:Pos}{es:List Expr}{k:Nat}{t:TGs}{n:Nat} (hc:X.calm=true) (h:PGs X es t) (e:X.K=K:=by rfl)
    (hn:(assignEach es X.env).length=n:=by rfl) (hst:(assignEach es X.env).findIdx? (·.1)=none:=by rfl):PG X (.Tuple es k pos) (gTup K n t):=by
  subst e;exact pg_tup hc h hn hst
theorem pi_list_k {tg l:Expr}{tl:TE} (hl:PE X l tl) (e:X.K=K:=by rfl):PI X tg l (iList K tl):=by subst e;exact pi_list hl
theorem pi_tup_k {tg l:Expr}{tl:TE} (hl:PE X l tl) (e:X.K=K:=by rfl):PI X tg l (iTup K tl):=by subst e;exact pi_tup hl
end
end L2
namespace L2
open PySem PySem.Spec PyProof.Rows
def notStar:Expr→Bool
  | .Starred ..=>false
  | _=>true
theorem star_cons {e:Expr}{es:List Expr}{env:Env} (h:notStar e=true):starEach (e :: es) env=(false,eval e env) :: starEach es env:=by
  cases e <;> first | rfl | (simp [notStar] at h)
section
variable {X:Cx}{e:Expr}{es:List Expr}{te:TE}{t:TA}
theorem pa_c (ha:PE X e te) (hr:PA X es t) (hs:notStar e=true:=by rfl):PA X (e :: es) (tCons te t):=pa_cons ha hr (star_cons hs)
theorem pw (i:Nat) {x:Str}{pos:Pos} (hv:Vis X.env.scope x) (hN:X.N[i]?=some x:=by rfl) (hd:(x==("__debug__" : Str))=false:=by decide) (hcd:(x==("__classdict__" : Str))=false:=by decide):PE X (.Name x pos) (tVar i):=pe_var hN hv hd hcd
end
end L2
namespace KM
theorem gcd_fmod (n d:Int):Int.gcd d (n.fmod d)=Int.gcd n d:=by
  apply Nat.dvd_antisymm
  · apply Int.dvd_gcd
    · have h1:((Int.gcd d (n.fmod d):Nat):Int) ∣ d:=Int.gcd_dvd_left ..
      have h2:((Int.gcd d (n.fmod d):Nat):Int) ∣ n.fmod d:=Int.gcd_dvd_right ..
      have h3:=Int.dvd_add h2 (Int.dvd_mul_of_dvd_left (c:=n.fdiv d) h1)
      rw [Int.fmod_add_mul_fdiv] at h3
      exact h3
    · exact Int.gcd_dvd_left ..
  · apply Int.dvd_gcd
    · exact Int.gcd_dvd_right ..
    · rw [Int.fmod_def]
      exact Int.dvd_sub (Int.gcd_dvd_left ..) (Int.dvd_mul_of_dvd_left (Int.gcd_dvd_right ..))
theorem fmod_natAbs_lt (n d:Int) (h:d≠0):(n.fmod d).natAbs<d.natAbs:=by
  rcases Int.lt_trichotomy d 0 with hd | hd | hd
  · have e:n.fmod d=-((-n).fmod (-d)):=by
      rw [Int.fmod_def,Int.fmod_def]
      have:(-n).fdiv (-d)=n.fdiv d:=Int.neg_fdiv_neg n d
      rw [this,Int.neg_mul];trivial
    have h1:=Int.fmod_nonneg_of_pos (-n) (b:=-d) (by trivial)
    have h2:=Int.fmod_lt_of_pos (-n) (b:=-d) (by trivial)
    trivial
  · exact absurd hd h
  · have h1:=Int.fmod_nonneg_of_pos n hd
    have h2:=Int.fmod_lt_of_pos n hd
    trivial
theorem gcd_zero_abs (n:Int):((Int.gcd n 0:Nat):Int)=if n<0 then -n else n:=by
  rw [Int.gcd_zero_right]
  split <;> trivial
theorem gcd_emod (n d:Int):Int.gcd d (n % d)=Int.gcd n d:=by
  by_cases h:d=0
  · subst h;rw [Int.emod_zero,Int.gcd_comm]
  · apply Nat.dvd_antisymm
    · apply Int.dvd_gcd
      · have h1:((Int.gcd d (n % d):Nat):Int) ∣ d:=Int.gcd_dvd_left ..
        have h2:((Int.gcd d (n % d):Nat):Int) ∣ n % d:=Int.gcd_dvd_right ..
        have h3:=Int.dvd_add h2 (Int.dvd_mul_of_dvd_left (c:=n / d) h1)
        rw [Int.emod_add_mul_ediv] at h3
        exact h3
      · exact Int.gcd_dvd_left ..
    · apply Int.dvd_gcd
      · exact Int.gcd_dvd_right ..
      · rw [Int.emod_def]
        exact Int.dvd_sub (Int.gcd_dvd_left ..) (Int.dvd_mul_of_dvd_left (Int.gcd_dvd_right ..))
end KM
namespace KM
def low (n d:Int):Int×Int:=if 0<d then (n / (Int.gcd n d:Nat),d / (Int.gcd n d:Nat)) else (-n / (Int.gcd n d:Nat),-d / (Int.gcd n d:Nat))
theorem gcd_pos {n d:Int} (h:d≠0):0<Int.gcd n d:=by
  apply Nat.pos_of_ne_zero
  intro e
  exact h (Int.gcd_eq_zero_iff.mp e).2
theorem gcd_abs (n d:Int):Int.gcd (if n<0 then -n else n) (if d<0 then -d else d)=Int.gcd n d:=by
  split <;> split <;> simp [Int.gcd_neg,Int.neg_gcd]
theorem low_spec (n d:Int) (h:d≠0):1≤(low n d).2∧(low n d).1*d=n*(low n d).2∧Int.gcd (low n d).1 (low n d).2=1∧(low n d).1.natAbs≤n.natAbs∧(low n d).2.natAbs≤d.natAbs:=by
  have g0:=gcd_pos (n:=n) h
  have gi:((Int.gcd n d:Nat):Int)≠0:=by trivial
  have d1:((Int.gcd n d:Nat):Int) ∣ n:=Int.gcd_dvd_left ..
  have d2:((Int.gcd n d:Nat):Int) ∣ d:=Int.gcd_dvd_right ..
  obtain ⟨a,ha⟩:=d1
  obtain ⟨b,hb⟩:=d2
  have ea:n / ((Int.gcd n d:Nat):Int)=a:=by
    conv=>lhs;lhs;rw [ha]
    exact Int.mul_ediv_cancel_left _ gi
  have eb:d / ((Int.gcd n d:Nat):Int)=b:=by
    conv=>lhs;lhs;rw [hb]
    exact Int.mul_ediv_cancel_left _ gi
  have ena:-n / ((Int.gcd n d:Nat):Int)=-a:=by
    have:-n=((Int.gcd n d:Nat):Int)*(-a):=by rw [Int.mul_neg];trivial
    rw [this]
    exact Int.mul_ediv_cancel_left _ gi
  have enb:-d / ((Int.gcd n d:Nat):Int)=-b:=by
    have:-d=((Int.gcd n d:Nat):Int)*(-b):=by rw [Int.mul_neg];trivial
    rw [this]
    exact Int.mul_ediv_cancel_left _ gi
  have hco:Int.gcd a b=1:=by
    have:=Int.gcd_ediv_gcd_ediv_gcd (i:=n) (j:=d) g0
    rw [ea,eb] at this
    exact this
  have hgp:(0:Int)<((Int.gcd n d:Nat):Int):=by trivial
  have habs:n.natAbs=Int.gcd n d*a.natAbs:=by
    conv=>lhs;rw [ha]
    rw [Int.natAbs_mul];rfl
  have hbbs:d.natAbs=Int.gcd n d*b.natAbs:=by
    conv=>lhs;rw [hb]
    rw [Int.natAbs_mul];rfl
  have la:a.natAbs≤n.natAbs:=by rw [habs];exact Nat.le_mul_of_pos_left _ g0
  have lb:b.natAbs≤d.natAbs:=by rw [hbbs];exact Nat.le_mul_of_pos_left _ g0
  have hab:a*d=n*b:=by
    generalize ((Int.gcd n d:Nat):Int)=g at ha hb
    subst ha hb
    rw [Int.mul_comm g a,Int.mul_assoc]
  unfold low
  split
  · rename_i hd
    refine ⟨?_,?_,?_,?_,?_⟩
    · show 1≤d / _
      rw [eb]
      have:0<b:=by
        apply Int.pos_of_mul_pos_right (a:=((Int.gcd n d:Nat):Int)) _ hgp
        rw [←hb];exact hd
      trivial
    · show n / _*d=n*(d / _)
      rw [ea,eb];exact hab
    · show Int.gcd (n / _) (d / _)=1
      rw [ea,eb];exact hco
    · show (n / _).natAbs≤_
      rw [ea];exact la
    · show (d / _).natAbs≤_
      rw [eb];exact lb
  · rename_i hd
    refine ⟨?_,?_,?_,?_,?_⟩
    · show 1≤-d / _
      rw [enb]
      have:0 < -b:=by
        apply Int.pos_of_mul_pos_right (a:=((Int.gcd n d:Nat):Int)) _ hgp
        rw [Int.mul_neg,←hb];trivial
      trivial
    · show -n / _*d=n*(-d / _)
      rw [ena,enb,Int.neg_mul,Int.mul_neg,hab]
    · show Int.gcd (-n / _) (-d / _)=1
      rw [ena,enb,Int.gcd_neg,Int.neg_gcd];exact hco
    · show (-n / _).natAbs≤_
      rw [ena,Int.natAbs_neg];exact la
    · show (-d / _).natAbs≤_
      rw [enb,Int.natAbs_neg];exact lb
end KM
namespace KM
section
variable {p0 p1 q0 q1:Int}
end
theorem fdiv_low {n d:Int} (hd:d≠0):(n.fdiv (if d<0 then -((Int.gcd n d:Nat):Int) else ((Int.gcd n d:Nat):Int)),d.fdiv (if d<0 then -((Int.gcd n d:Nat):Int) else ((Int.gcd n d:Nat):Int)))=low n d:=by
  have g0:(0:Int)≤((Int.gcd n d:Nat):Int):=Int.natCast_nonneg _
  unfold low
  by_cases h:d<0
  · rw [if_pos h,if_neg (by trivial)]
    have e:∀x:Int,x.fdiv (-((Int.gcd n d:Nat):Int))=-x / ((Int.gcd n d:Nat):Int):=fun x=>by
      rw [←Int.fdiv_eq_ediv_of_nonneg _ g0,←Int.neg_fdiv_neg,Int.neg_neg]
    rw [e,e]
  · rw [if_neg h,if_pos (by trivial),Int.fdiv_eq_ediv_of_nonneg _ g0,Int.fdiv_eq_ediv_of_nonneg _ g0]
end KM
namespace KM
abbrev Fra:=Int×Int
theorem low_sgn {n d:Int} (hd:0<d):(0<(low n d).1↔0<n)∧((low n d).1<0↔n<0):=by
  obtain ⟨h1,h2,_,_,_⟩:=low_spec n d (by trivial)
  generalize low n d=z at *
  obtain ⟨x,y⟩:=z
  dsimp only at *
  have hy:0<y:=by trivial
  constructor
  · constructor
    · intro h
      have:0<x*d:=Int.mul_pos h hd
      rw [h2] at this
      exact Int.pos_of_mul_pos_left this hy
    · intro h
      have:0<n*y:=Int.mul_pos h hy
      rw [←h2] at this
      exact Int.pos_of_mul_pos_left this hd
  · constructor
    · intro h
      have:x*d<0:=Int.mul_neg_of_neg_of_pos h hd
      rw [h2] at this
      apply Decidable.byContradiction
      intro hn
      have:=Int.mul_nonneg (show 0≤n by trivial) (show 0≤y by trivial)
      trivial
    · intro h
      have:n*y<0:=Int.mul_neg_of_neg_of_pos h hy
      rw [←h2] at this
      apply Decidable.byContradiction
      intro hn
      have:=Int.mul_nonneg (show 0≤x by trivial) (show 0≤d by trivial)
      trivial
end KM
namespace KM
def vl (p:Fra):Rat:=Rat.divInt p.1 p.2
theorem vl_low {n d:Int} (h:d≠0):vl (low n d)=Rat.divInt n d:=by
  obtain ⟨h1,h2,_⟩:=low_spec n d h
  exact (Rat.divInt_eq_divInt_iff (by trivial) h).mpr (by rw [h2])
theorem mul_nz {a b:Int} (h:a≠0) (k:b≠0):a*b≠0:=Int.mul_ne_zero h k
def lTim (p q:Fra):Fra:=low (p.1*q.1) (p.2*q.2)
theorem vl_tim {p q:Fra} (hp:p.2≠0) (hq:q.2≠0):vl (lTim p q)=vl p*vl q:=by
  unfold lTim
  rw [vl_low (mul_nz hp hq)]
  exact (Rat.divInt_mul_divInt _ _).symm
theorem vl_zero:vl (0,1)=0:=Rat.zero_divInt 1
end KM
namespace L2
open PySem PySem.Spec PyProof.Rows
section
variable {prog:Program}{w:World}{A:Around}{E:Value→Shared→Prop}{s:Shared}
theorem nextOf_tup {it t:Addr}{i:Nat}{its:Array Value}{x:Value}{Q:Value→Shared→Prop} (hit:s.heap.IsTupleIter it t i) (ht:s.heap.IsTuple t its) (hx:its[i]?=some x)
    (q:∀h',h'.IsTupleIter it t (i+1)→Heap.SameBut it s.heap h'→Q x { s with heap:=h' }):wpAny (model prog w) A (Builtin.SmallTypes.nextOf (.ref it)) Q E s:=by
  obtain ⟨o,e1,e2,e3⟩:=id hit;obtain ⟨u,e4,_,k,e5⟩:=ht;unfold Builtin.SmallTypes.nextOf
  refine wpAny_bind (wpAny_callSpecial?_slot (name:=Str.ofString "__next__") hit.typeIs F.slot_tuple_iterator_next (wpAny_call_entry F.slot_tuple_iterator_next hit.typeIs F.entry_tuple_iterator_next ?_ (F.args_tuple_iterator_next_1 _)))
  show wpAny _ _ (field (.ref it) 0 >>= _) _ _ s;refine wpAny_bind (wpAny_field e1 e3 (x:=.ref t) rfl ?_)
  show wpAny _ _ (if (Value.ref t==Value.none)=true then _ else _) _ _ s;rw [if_neg (show ¬((Value.ref t==Value.none)=true) from Bool.false_ne_true)]
  show wpAny _ _ (field (.ref it) 1 >>= _) _ _ s;refine wpAny_bind (wpAny_field e1 e3 (x:=.int i 0) rfl ?_)
  show wpAny _ _ (seqItems? (.ref t) >>= _) _ _ s;refine wpAny_bind (wpAny_seqItems e4 e5 ?_)
  simp only [Int.toNat_natCast,hx];refine wpAny_bind (wpAny_setField e1 e3 (by simp) (wpAny_pure ⟨x,rfl,wpAny_pure (q _ ?_ (Heap.SameBut.update ..))⟩))
  exact ⟨_,Heap.get?_update_self _ e1 (Obj.isFreed_of_fields (Obj.data_mapFields e3 _)),(Obj.cls_mapFields ..).trans e2,by rw [Obj.data_mapFields e3];simp [rawInt]⟩
theorem nextOf_tupEnd {it t:Addr}{i:Nat}{its:Array Value}{Q:Value→Shared→Prop} (hh:A.handled=none) (hit:s.heap.IsTupleIter it t i) (ht:s.heap.IsTuple t its) (hx:its[i]?=none)
    (q:∀h' e,Heap.ExtBut it s.heap h'→(∃o,h'.get? e=some o∧o.cls=.type "StopIteration")→E (.ref e) { s with heap:=h' }):wpAny (model prog w) A (Builtin.SmallTypes.nextOf (.ref it)) Q E s:=by
  obtain ⟨o,e1,e2,e3⟩:=id hit;obtain ⟨u,e4,_,k,e5⟩:=ht;unfold Builtin.SmallTypes.nextOf
  refine wpAny_bind (wpAny_callSpecial?_slot (name:=Str.ofString "__next__") hit.typeIs F.slot_tuple_iterator_next (wpAny_call_entry F.slot_tuple_iterator_next hit.typeIs F.entry_tuple_iterator_next ?_ (F.args_tuple_iterator_next_1 _)))
  show wpAny _ _ (field (.ref it) 0 >>= _) _ _ s;refine wpAny_bind (wpAny_field e1 e3 (x:=.ref t) rfl ?_)
  show wpAny _ _ (if (Value.ref t==Value.none)=true then _ else _) _ _ s;rw [if_neg (show ¬((Value.ref t==Value.none)=true) from Bool.false_ne_true)]
  show wpAny _ _ (field (.ref it) 1 >>= _) _ _ s;refine wpAny_bind (wpAny_field e1 e3 (x:=.int i 0) rfl ?_)
  show wpAny _ _ (seqItems? (.ref t) >>= _) _ _ s;refine wpAny_bind (wpAny_seqItems e4 e5 ?_)
  simp only [Int.toNat_natCast,hx];refine wpAny_bind (wpAny_rule (wpAny_bind (wpAny_setField e1 e3 (by simp) ?_)))
  show wpAny _ _ (newExc (.type "StopIteration") [] >>= _) _ _ _;refine wpAny_bind ?_;simp only [newExc,newTuple]
  refine wpAny_bind (wpAny_newObj_type ?_ (by size_fits));refine wpAny_bind (m:=firstArgMember _ _) (wpAny_of_eq (a:=Value.none) (by first | rfl | (simp only [firstArgMember];rfl)) ?_);refine wpAny_newObj_type ?_ (by size_fits)
  simp only [raiseNew];refine wpAny_bind (wpAny_handled ?_);first | rw [show A.in1.handled=none from hh] | rw [hh]
  refine wpAny_bind (wpAny_pure (wpAny_throw ?_));exact q _ _ (((Heap.SameBut.update ..).extBut.push _).push _) ⟨_,Heap.get?_push_size _ rfl,rfl⟩
end
def SqK (h:Heap) (l:Addr) (its:Array Value):Bool→Prop
  | true=>h.IsList l its
  | false=>h.IsTuple l its
def ItK (h:Heap) (it l:Addr) (i:Nat):Bool→Prop
  | true=>h.IsListIter it l i
  | false=>h.IsTupleIter it l i
theorem SqK.at {h h':Heap}{l:Addr}{its:Array Value}:∀{b:Bool},SqK h l its b→(∀o,h.get? l=some o→h'.get? l=some o)→SqK h' l its b
  | true,q,k=>Heap.IsList.at q k
  | false,q,k=>Heap.IsTuple.at q k
theorem ItK.at {h h':Heap}{it l:Addr}{i:Nat}:∀{b:Bool},ItK h it l i b→(∀o,h.get? it=some o→h'.get? it=some o)→ItK h' it l i b
  | true,q,k=>Heap.IsListIter.at q k
  | false,q,k=>Heap.IsTupleIter.at q k
theorem SqK.lt {h:Heap}{l:Addr}{its:Array Value}:∀{b:Bool},SqK h l its b→l<h.objs.size
  | true,⟨_,e,_⟩=>Heap.lt_size e
  | false,⟨_,e,_⟩=>Heap.lt_size e
theorem ItK.some {h:Heap}{it l:Addr}{i:Nat}:∀{b:Bool},ItK h it l i b→∃o,h.get? it=some o∧∀v,o.data≠.cell v
  | true,⟨o,e,_,d⟩=>⟨o,e,fun v z=>by rw [d] at z;cases z⟩
  | false,⟨o,e,_,d⟩=>⟨o,e,fun v z=>by rw [d] at z;cases z⟩
theorem drawsK {prog:Program}{w:World}{A:Around} (hh:A.handled=none) (it l:Addr) (hne:l≠it) (its:Array Value):∀b:Bool,
    Draws prog w A it [it,l] its.size (fun i v=>its[i]?=some v) (fun i h=>ItK h it l i b∧SqK h l its b)
  | true=>Draws.list hh it l hne its
  | false=>{
    live:=fun _ _ st=>let ⟨o,ho,_⟩:=st.1;⟨o,ho⟩
    frame:=fun _ _ _ st hk=>⟨Heap.IsTupleIter.at st.1 fun o e=>hk it (by simp) o e,Heap.IsTuple.at st.2 fun o e=>hk l (by simp) o e⟩
    item:=fun i s Q E hi st q=>nextOf_tup st.1 st.2 (x:=its[i]) (by simp [hi]) fun h' it' same=>q _ h' s.toks (by simp [hi]) ⟨it',Heap.IsTuple.extBut st.2 same.extBut hne⟩ same
    done:=fun s Q E st q=>nextOf_tupEnd hh st.1 st.2 (by simp) q }
end L2
namespace L2
open PySem PySem.Spec PyProof.Rows
structure Apart5 (z TI TO i1 i2:Addr):Prop where
  a1:TI≠z
  a2:TO≠z
  a3:i1≠z
  a4:i2≠z
  a5:TI≠TO
  a6:TI≠i1
  a7:TI≠i2
  a8:TO≠i1
  a9:TO≠i2
  a0:i1≠i2
section
variable {prog:Program}{w:World}{A:Around}{E:Value→Shared→Prop}{s:Shared}
variable {z TI TO i1 i2 l1 l2:Addr}{k:Nat}{xs ys:Array Value}{a b:Value}{c1 c2:Bool}
theorem zipItem {x y:Value}{Q:Value→Shared→Prop} (D:Apart5 z TI TO i1 i2) (n1:∀c,c=l1∨c=l2→c≠z∧c≠TO∧c≠i1∧c≠i2)
    (hz:IsZip s.heap z TI TO .none) (hTI:IsPair s.heap TI (.ref i1) (.ref i2)) (hTO:IsPair s.heap TO a b) (hh:A.handled=none)
    (h1:ItK s.heap i1 l1 k c1) (h2:ItK s.heap i2 l2 k c2) (q1:SqK s.heap l1 xs c1) (q2:SqK s.heap l2 ys c2) (hx:xs[k]?=some x) (hy:ys[k]?=some y)
    (hQ:∀h' tk,IsZip h' z TI TO (rawInt s.heap.objs.size)→IsPair h' TO x y→ItK h' i1 l1 (k+1) c1→ItK h' i2 l2 (k+1) c2→IsPair h' s.heap.objs.size x y→h'.objs.size=s.heap.objs.size+1→
      (∀c o,c≠z→c≠TO→c≠i1→c≠i2→s.heap.get? c=some o→h'.get? c=some o)→Q (.ref s.heap.objs.size) { s with heap:=h',toks:=tk }) :
    wpAny (model prog w) A (Builtin.«zip.__next__» ⟨[.ref z],[]⟩) (fun fin s'=>∃v,fin=.done (.ret v)∧Q v s') E s:=by
  obtain ⟨m1,m2,m3,m4⟩:=n1 l1 (.inl rfl)
  obtain ⟨m5,m6,m7,m8⟩:=n1 l2 (.inr rfl)
  have kx:k<xs.size:=(Array.getElem?_eq_some_iff.mp hx).1
  have ky:k<ys.size:=(Array.getElem?_eq_some_iff.mp hy).1
  have D1:=drawsK (prog:=prog) (w:=w) hh i1 l1 m3 xs c1
  have D2:=drawsK (prog:=prog) (w:=w) hh i2 l2 m8 ys c2
  show wpAny _ _ (field (.ref z) 2 >>= _) _ _ _;refine wpAny_bind (wpAny_field hz rfl (x:=.bool false) rfl ?_)
  show wpAny _ _ (field (.ref z) 3 >>= _) _ _ _;refine wpAny_bind (wpAny_field hz rfl (x:=.ref TI) rfl (wpAny_bind (wpAny_seqItems hTI rfl ?_)))
  show wpAny _ _ (Builtin.SmallTypes.ownedTupleIsFree (.ref z) >>= _) _ _ _;refine wpAny_bind ?_;unfold Builtin.SmallTypes.ownedTupleIsFree
  refine wpAny_bind (wpAny_field hz rfl (x:=.none) rfl (wpAny_pure ?_));simp only [if_true]
  refine wpAny_bind (wpAny_rule (wpAny_bind (wpAny_field hz rfl (x:=.ref TO) rfl (wpAny_bind (wpAny_setField_rec hz (by simp) fun g1 z1 t1=>?_)))))
  replace z1:IsZip g1 z TI TO .ellipsis:=z1
  refine wpAny_bind ?_;simp only [List.zipIdx_cons,List.zipIdx_nil,List.forIn_cons,List.forIn_nil];refine wpAny_bind (wpAny_bind (wpAny_onRaise ?_))
  show wpAny _ _ (Builtin.SmallTypes.nextOf (.ref i1) >>= _) _ _ _
  refine wpAny_bind (D1.item k _ _ _ kx ⟨h1.at fun o e=>t1.extBut _ _ D.a3 e,q1.at fun o e=>t1.extBut _ _ m1 e⟩ fun x' g2 tk2 p1 st1 t2=>wpAny_pure ?_)
  have ex:x=x':=Option.some.inj (hx.symm.trans p1)
  subst ex
  have TO2:IsPair g2 TO a b:=t2.extBut _ _ D.a8 (t1.extBut _ _ D.a2 hTO)
  refine wpAny_bind (wpAny_seqItems TO2 rfl (wpAny_bind (wpAny_updateSeq_pair TO2 fun g3 TO3 t3=>?_)))
  replace TO3:IsPair g3 TO x b:=TO3
  refine wpAny_bind (wpAny_letGo (wpAny_pure ?_));refine wpAny_bind (wpAny_bind (wpAny_onRaise ?_));show wpAny _ _ (Builtin.SmallTypes.nextOf (.ref i2) >>= _) _ _ _
  refine wpAny_bind (D2.item k _ _ _ ky ⟨h2.at fun o e=>t3.extBut _ _ D.a9.symm (t2.extBut _ _ D.a0.symm (t1.extBut _ _ D.a4 e)),q2.at fun o e=>t3.extBut _ _ m6 (t2.extBut _ _ m7 (t1.extBut _ _ m5 e))⟩ fun y' g4 tk4 p2 st2 t4=>wpAny_pure ?_)
  have ey:y=y':=Option.some.inj (hy.symm.trans p2)
  subst ey
  have TO4:IsPair g4 TO x b:=t4.extBut _ _ D.a9 TO3
  refine wpAny_bind (wpAny_seqItems TO4 rfl (wpAny_bind (wpAny_updateSeq_pair TO4 fun g5 TO5 t5=>?_)))
  replace TO5:IsPair g5 TO x y:=TO5
  refine wpAny_bind (wpAny_letGo (wpAny_pure (wpAny_pure ?_)));refine wpAny_bind (wpAny_seqItems TO5 rfl (wpAny_bind (wpAny_newTuple ?_)))
  have sz:g5.objs.size=s.heap.objs.size:=by rw [t5.1,t4.1,t3.1,t2.1,t1.1]
  have z5:IsZip g5 z TI TO .ellipsis:=t5.extBut _ _ D.a2.symm (t4.extBut _ _ D.a4.symm (t3.extBut _ _ D.a2.symm (t2.extBut _ _ D.a3.symm z1)))
  have keep:∀c o,c≠z→c≠TO→c≠i1→c≠i2→s.heap.get? c=some o→g5.get? c=some o:=fun c o d1 d2 d3 d4 e=>t5.extBut _ _ d2 (t4.extBut _ _ d4 (t3.extBut _ _ d2 (t2.extBut _ _ d3 (t1.extBut _ _ d1 e))))
  have it1:ItK g5 i1 l1 (k+1) c1:=st1.1.at fun o e=>t5.extBut _ _ D.a8.symm (t4.extBut _ _ D.a0 (t3.extBut _ _ D.a8.symm e))
  have it2:ItK g5 i2 l2 (k+1) c2:=st2.1.at fun o e=>t5.extBut _ _ D.a9.symm e
  have zlt:z<g5.objs.size:=Heap.lt_size z5
  show wpAny _ _ (Builtin.SmallTypes.ownedTupleHandOut (.ref z) (.ref g5.objs.size) >>= _) _ _ _;refine wpAny_bind ?_;unfold Builtin.SmallTypes.ownedTupleHandOut
  have z6:IsZip (g5.push { cls:=.type "tuple",data:=.seq #[x,y] }) z TI TO .ellipsis:=Heap.get?_push_of_some _ z5
  refine wpAny_bind (wpAny_setField_rec z6 (by simp) fun g7 z7 t7=>?_)
  replace z7:IsZip g7 z TI TO (rawInt g5.objs.size):=z7
  refine wpAny_setField_rec z7 (by simp) fun g8 z8 t8=>?_
  replace z8:IsZip g8 z TI TO (rawInt g5.objs.size):=z8
  have up:∀c o,c≠z→g5.get? c=some o→g8.get? c=some o:=fun c o d e=>t8.extBut _ _ d (t7.extBut _ _ d (Heap.get?_push_of_some _ e))
  have T8:IsPair g8 g5.objs.size x y:=t8.extBut _ _ (Nat.ne_of_gt zlt) (t7.extBut _ _ (Nat.ne_of_gt zlt) (Heap.get?_push_size _ rfl))
  have s8:g8.objs.size=g5.objs.size+1:=by rw [t8.1,t7.1,Heap.size_push]
  rw [sz] at z8 T8 s8
  refine wpAny_pure ⟨_,rfl,?_⟩;show Q (.ref g5.objs.size) _;rw [sz]
  exact hQ g8 _ z8 (up _ _ D.a2 TO5) (it1.at fun o e=>up _ o D.a3 e) (it2.at fun o e=>up _ o D.a4 e) T8 s8 fun c o d1 d2 d3 d4 e=>up c o d1 (keep c o d1 d2 d3 d4 e)
theorem zipEnd {Q:Fin→Shared→Prop} (hh:A.handled=none) (D:Apart5 z TI TO i1 i2) (n1:∀c,c=l1∨c=l2→c≠z∧c≠TO∧c≠i1∧c≠i2)
    (hz:IsZip s.heap z TI TO .none) (hTI:IsPair s.heap TI (.ref i1) (.ref i2)) (hTO:IsPair s.heap TO a b)
    (h1:ItK s.heap i1 l1 k c1) (h2:ItK s.heap i2 l2 k c2) (q1:SqK s.heap l1 xs c1) (q2:SqK s.heap l2 ys c2) (hend:xs.size=k∨(k<xs.size∧ys.size=k))
    (hE:∀h' e tk,(∀c o,c≠z→c≠TO→c≠i1→c≠i2→s.heap.get? c=some o→h'.get? c=some o)→(∃o,h'.get? e=some o∧o.cls=.type "StopIteration")→E (.ref e) { s with heap:=h',toks:=tk }) :
    wpAny (model prog w) A (Builtin.«zip.__next__» ⟨[.ref z],[]⟩) Q E s:=by
  obtain ⟨m1,m2,m3,m4⟩:=n1 l1 (.inl rfl)
  obtain ⟨m5,m6,m7,m8⟩:=n1 l2 (.inr rfl)
  have D1:=drawsK (prog:=prog) (w:=w) hh i1 l1 m3 xs c1
  have D2:=drawsK (prog:=prog) (w:=w) hh i2 l2 m8 ys c2
  show wpAny _ _ (field (.ref z) 2 >>= _) _ _ _;refine wpAny_bind (wpAny_field hz rfl (x:=.bool false) rfl ?_)
  show wpAny _ _ (field (.ref z) 3 >>= _) _ _ _;refine wpAny_bind (wpAny_field hz rfl (x:=.ref TI) rfl (wpAny_bind (wpAny_seqItems hTI rfl ?_)))
  show wpAny _ _ (Builtin.SmallTypes.ownedTupleIsFree (.ref z) >>= _) _ _ _;refine wpAny_bind ?_;unfold Builtin.SmallTypes.ownedTupleIsFree
  refine wpAny_bind (wpAny_field hz rfl (x:=.none) rfl (wpAny_pure ?_));simp only [if_true]
  refine wpAny_bind (wpAny_rule (wpAny_bind (wpAny_field hz rfl (x:=.ref TO) rfl (wpAny_bind (wpAny_setField_rec hz (by simp) fun g1 z1 t1=>?_)))))
  replace z1:IsZip g1 z TI TO .ellipsis:=z1
  refine wpAny_bind ?_;simp only [List.zipIdx_cons,List.zipIdx_nil,List.forIn_cons,List.forIn_nil];refine wpAny_bind (wpAny_bind (wpAny_onRaise ?_))
  show wpAny _ _ (Builtin.SmallTypes.nextOf (.ref i1) >>= _) _ _ _
  have st0:ItK g1 i1 l1 k c1∧SqK g1 l1 xs c1:=⟨h1.at fun o e=>t1.extBut _ _ D.a3 e,q1.at fun o e=>t1.extBut _ _ m1 e⟩
  rcases hend with hk | ⟨kx,hk⟩
  · refine wpAny_bind (D1.done _ _ _ (by rw [hk];exact st0) fun g2 e t2 he=>?_)
    obtain ⟨oe,e1,e2⟩:=he
    have z2:IsZip g2 z TI TO .ellipsis:=t2 _ _ D.a3.symm z1
    have ez:e≠z:=fun q=>by subst q;rw [z2] at e1;cases e1;simp at e2
    exact wpAny_setField_rec z2 (by simp) fun g3 _ t3=>hE g3 e _ (fun c o d1 _ d3 _ q=>t3.extBut _ _ d1 (t2 _ _ d3 (t1.extBut _ _ d1 q))) ⟨oe,t3.extBut _ _ ez e1,e2⟩
  · refine wpAny_bind (D1.item k _ _ _ kx st0 fun x g2 tk2 p1 st1 t2=>wpAny_pure ?_)
    have TO2:IsPair g2 TO a b:=t2.extBut _ _ D.a8 (t1.extBut _ _ D.a2 hTO)
    refine wpAny_bind (wpAny_seqItems TO2 rfl (wpAny_bind (wpAny_updateSeq_pair TO2 fun g3 TO3 t3=>?_)))
    refine wpAny_bind (wpAny_letGo (wpAny_pure ?_));refine wpAny_bind (wpAny_bind (wpAny_onRaise ?_));show wpAny _ _ (Builtin.SmallTypes.nextOf (.ref i2) >>= _) _ _ _
    have st2:ItK g3 i2 l2 k c2∧SqK g3 l2 ys c2:=⟨h2.at fun o e=>t3.extBut _ _ D.a9.symm (t2.extBut _ _ D.a0.symm (t1.extBut _ _ D.a4 e)),q2.at fun o e=>t3.extBut _ _ m6 (t2.extBut _ _ m7 (t1.extBut _ _ m5 e))⟩
    refine wpAny_bind (D2.done _ _ _ (by rw [hk];exact st2) fun g4 e t4 he=>?_)
    obtain ⟨oe,e1,e2⟩:=he
    have z4:IsZip g4 z TI TO .ellipsis:=t4 _ _ D.a4.symm (t3.extBut _ _ D.a2.symm (t2.extBut _ _ D.a3.symm z1))
    have ez:e≠z:=fun q=>by subst q;rw [z4] at e1;cases e1;simp at e2
    exact wpAny_setField_rec z4 (by simp) fun g5 _ t5=>hE g5 e _ (fun c o d1 d2 d3 d4 q=>t5.extBut _ _ d1 (t4 _ _ d4 (t3.extBut _ _ d2 (t2.extBut _ _ d3 (t1.extBut _ _ d1 q))))) ⟨oe,t5.extBut _ _ ez e1,e2⟩
end
end L2
namespace L2
open PySem PySem.Spec PyProof.Rows
def itN:Bool→String
  | true => "list_iterator"
  | false => "tuple_iterator"
abbrev zA (h:Heap) (l1:Addr) (c1:Bool):Heap:=h.push { cls:=.type (itN c1),data:=.fields #[.ref l1,.int 0 0] }
abbrev zB (h:Heap) (l1 l2:Addr) (c1 c2:Bool):Heap:=(zA h l1 c1).push { cls:=.type (itN c2),data:=.fields #[.ref l2,.int 0 0] }
abbrev zC (h:Heap) (l1 l2:Addr) (c1 c2:Bool):Heap:=(zB h l1 l2 c1 c2).push { cls:=.type "tuple",data:=.seq #[.ref h.objs.size,.ref (zA h l1 c1).objs.size] }
abbrev zD (h:Heap) (l1 l2:Addr) (c1 c2:Bool):Heap:=(zC h l1 l2 c1 c2).push { cls:=.type "tuple",data:=.seq #[.none,.none] }
abbrev zE (h:Heap) (l1 l2:Addr) (c1 c2:Bool):Heap:=(zD h l1 l2 c1 c2).push { cls:=.type "zip",data:=.fields #[.none,.bool false,.bool false,.ref (zB h l1 l2 c1 c2).objs.size,.ref (zC h l1 l2 c1 c2).objs.size] }
set_option maxHeartbeats 8000000 in
theorem zipNew (l1 l2:Addr) (xs ys:Array Value) (c1 c2:Bool) :
    Meets (Builtin.«zip.__new__» ⟨[.type "zip",.ref l1,.ref l2],[]⟩) (fun _ R s=>SqK s.heap l1 xs c1∧SqK s.heap l2 ys c2∧R (.ok (.ret (.ref (zD s.heap l1 l2 c1 c2).objs.size))) { s with heap:=zE s.heap l1 l2 c1 c2 }):=
  .of_wp fun prog w A R s h=>by
    obtain ⟨hp,g,d,tk,os⟩:=s;obtain ⟨q1,q2,h⟩:=h
    have hsub:=sub_zip
    have L2':SqK (Shared.heap ⟨zA hp l1 c1,g,d,tk,os⟩) l2 ys c2:=SqK.at q2 fun o e=>Heap.get?_push_of_some _ e
    cases c1 <;> cases c2
    · have g1:Heap.IsTuple (Shared.heap ⟨hp,g,d,tk,os⟩) l1 xs:=q1
      have g2:Heap.IsTuple (Shared.heap ⟨hp.push { cls:=.type "tuple_iterator",data:=.fields #[.ref l1,.int 0 0] },g,d,tk,os⟩) l2 ys:=L2'
      wp_walk using wpAny_pyIter_tuple g1,wpAny_pyIter_tuple g2
      exact ⟨_,rfl,h⟩
    · have g1:Heap.IsTuple (Shared.heap ⟨hp,g,d,tk,os⟩) l1 xs:=q1
      have g2:Heap.IsList (Shared.heap ⟨hp.push { cls:=.type "tuple_iterator",data:=.fields #[.ref l1,.int 0 0] },g,d,tk,os⟩) l2 ys:=L2'
      wp_walk using wpAny_pyIter_tuple g1,wpAny_pyIter_list g2
      exact ⟨_,rfl,h⟩
    · have g1:Heap.IsList (Shared.heap ⟨hp,g,d,tk,os⟩) l1 xs:=q1
      have g2:Heap.IsTuple (Shared.heap ⟨hp.push { cls:=.type "list_iterator",data:=.fields #[.ref l1,.int 0 0] },g,d,tk,os⟩) l2 ys:=L2'
      wp_walk using wpAny_pyIter_list g1,wpAny_pyIter_tuple g2
      exact ⟨_,rfl,h⟩
    · have g1:Heap.IsList (Shared.heap ⟨hp,g,d,tk,os⟩) l1 xs:=q1
      have g2:Heap.IsList (Shared.heap ⟨hp.push { cls:=.type "list_iterator",data:=.fields #[.ref l1,.int 0 0] },g,d,tk,os⟩) l2 ys:=L2'
      wp_walk using wpAny_pyIter_list g1,wpAny_pyIter_list g2
      exact ⟨_,rfl,h⟩
theorem itK_new {h:Heap}{it l:Addr}:∀{c:Bool},h.get? it=some { cls:=.type (itN c),data:=.fields #[.ref l,.int 0 0] }→ItK h it l 0 c
  | true,e=>⟨_,e,rfl,rfl⟩
  | false,e=>⟨_,e,rfl,rfl⟩
section
variable {prog:Program}{w:World}{A:Around}{E:Value→Shared→Prop}{s:Shared}
theorem call_zipK {l1 l2:Addr}{xs ys:Array Value}{c1 c2:Bool}{Q:Value→Shared→Prop} (q1:SqK s.heap l1 xs c1) (q2:SqK s.heap l2 ys c2)
    (h:∀h',IsZip h' (s.heap.objs.size+4) (s.heap.objs.size+2) (s.heap.objs.size+3) .none→IsPair h' (s.heap.objs.size+2) (.ref s.heap.objs.size) (.ref (s.heap.objs.size+1))→
      IsPair h' (s.heap.objs.size+3) .none .none→ItK h' s.heap.objs.size l1 0 c1→ItK h' (s.heap.objs.size+1) l2 0 c2→
      (∀c o,s.heap.get? c=some o→h'.get? c=some o)→Q (.ref (s.heap.objs.size+4)) { s with heap:=h' }) :
    wpAny (model prog w) A (call (.type "zip") [.ref l1,.ref l2]) Q E s:=by
  refine callType_new F.called_zip (by decide) (F.typeCall_zip_2 _ _) (F.newCall_zip_2 _ _) (fun obj=>F.args_object_init_3 obj _ _) F.entry_zip_new (zipNew l1 l2 xs ys c1 c2) ⟨q1,q2,?_⟩
  have s1:(zA s.heap l1 c1).objs.size=s.heap.objs.size+1:=Heap.size_push ..
  have s2:(zB s.heap l1 l2 c1 c2).objs.size=s.heap.objs.size+2:=by rw [Heap.size_push,s1]
  have s3:(zC s.heap l1 l2 c1 c2).objs.size=s.heap.objs.size+3:=by rw [Heap.size_push,s2]
  have s4:(zD s.heap l1 l2 c1 c2).objs.size=s.heap.objs.size+4:=by rw [Heap.size_push,s3]
  have g5:(zE s.heap l1 l2 c1 c2).get? (zD s.heap l1 l2 c1 c2).objs.size=some _:=Heap.get?_push_size _ rfl
  have g4:(zE s.heap l1 l2 c1 c2).get? (zC s.heap l1 l2 c1 c2).objs.size=some _:=Heap.get?_push_of_some _ (Heap.get?_push_size _ rfl)
  have g3:(zE s.heap l1 l2 c1 c2).get? (zB s.heap l1 l2 c1 c2).objs.size=some _:=Heap.get?_push_of_some _ (Heap.get?_push_of_some _ (Heap.get?_push_size _ rfl))
  have g2:(zE s.heap l1 l2 c1 c2).get? (zA s.heap l1 c1).objs.size=some _:=Heap.get?_push_of_some _ (Heap.get?_push_of_some _ (Heap.get?_push_of_some _ (Heap.get?_push_size _ rfl)))
  have g1:(zE s.heap l1 l2 c1 c2).get? s.heap.objs.size=some _:=Heap.get?_push_of_some _ (Heap.get?_push_of_some _ (Heap.get?_push_of_some _ (Heap.get?_push_of_some _ (Heap.get?_push_size _ rfl))))
  show _∧_
  rw [s2,s3,s4] at g5
  rw [s1,s2] at g3
  rw [s3] at g4
  rw [s1] at g2
  rw [s4]
  exact ⟨⟨_,g5,rfl⟩,h _ g5 g3 g4 (itK_new g1) (itK_new g2) fun c o x=>Heap.get?_push_of_some _ (Heap.get?_push_of_some _ (Heap.get?_push_of_some _ (Heap.get?_push_of_some _ (Heap.get?_push_of_some _ x))))⟩
theorem pyNext_zipItem {z TI TO i1 i2 l1 l2:Addr}{k:Nat}{xs ys:Array Value}{a b x y:Value}{c1 c2:Bool}{Q:Option Value→Shared→Prop} (D:Apart5 z TI TO i1 i2) (n1:∀c,c=l1∨c=l2→c≠z∧c≠TO∧c≠i1∧c≠i2)
    (hz:IsZip s.heap z TI TO .none) (hTI:IsPair s.heap TI (.ref i1) (.ref i2)) (hTO:IsPair s.heap TO a b) (hh:A.handled=none)
    (h1:ItK s.heap i1 l1 k c1) (h2:ItK s.heap i2 l2 k c2) (q1:SqK s.heap l1 xs c1) (q2:SqK s.heap l2 ys c2) (hx:xs[k]?=some x) (hy:ys[k]?=some y)
    (hQ:∀h' tk,IsZip h' z TI TO (rawInt s.heap.objs.size)→IsPair h' TO x y→ItK h' i1 l1 (k+1) c1→ItK h' i2 l2 (k+1) c2→IsPair h' s.heap.objs.size x y→h'.objs.size=s.heap.objs.size+1→
      (∀c o,c≠z→c≠TO→c≠i1→c≠i2→s.heap.get? c=some o→h'.get? c=some o)→Q (some (.ref s.heap.objs.size)) { s with heap:=h',toks:=tk }) :
    wpAny (model prog w) A (pyNext (.ref z)) Q E s:=by
  have hT:s.TypeIs (.ref z) "zip" := ⟨_,hz,rfl⟩
  unfold pyNext
  exact wpAny_bind (wpAny_attempt (wpAny_callSpecial?_slot (name:=Str.ofString "__next__") hT F.slot_zip_next (wpAny_call_entry F.slot_zip_next hT F.entry_zip_next
    (zipItem D n1 hz hTI hTO hh h1 h2 q1 q2 hx hy fun h' tk a1 a2 a3 a4 a5 a6 a7=>wpAny_pure (hQ h' tk a1 a2 a3 a4 a5 a6 a7)) (F.args_zip_next_1 _))))
theorem pyNext_zipEnd {z TI TO i1 i2 l1 l2:Addr}{k:Nat}{xs ys:Array Value}{a b:Value}{c1 c2:Bool}{Q:Option Value→Shared→Prop} (hh:A.handled=none) (D:Apart5 z TI TO i1 i2) (n1:∀c,c=l1∨c=l2→c≠z∧c≠TO∧c≠i1∧c≠i2)
    (hz:IsZip s.heap z TI TO .none) (hTI:IsPair s.heap TI (.ref i1) (.ref i2)) (hTO:IsPair s.heap TO a b)
    (h1:ItK s.heap i1 l1 k c1) (h2:ItK s.heap i2 l2 k c2) (q1:SqK s.heap l1 xs c1) (q2:SqK s.heap l2 ys c2) (hend:xs.size=k∨(k<xs.size∧ys.size=k))
    (hQ:∀h' tk,(∀c o,c≠z→c≠TO→c≠i1→c≠i2→s.heap.get? c=some o→h'.get? c=some o)→Q none { s with heap:=h',toks:=tk }):wpAny (model prog w) A (pyNext (.ref z)) Q E s:=by
  have hT:s.TypeIs (.ref z) "zip" := ⟨_,hz,rfl⟩
  unfold pyNext
  refine wpAny_bind (wpAny_attempt (wpAny_callSpecial?_slot (name:=Str.ofString "__next__") hT F.slot_zip_next (wpAny_call_entry F.slot_zip_next hT F.entry_zip_next
    (zipEnd hh D n1 hz hTI hTO h1 h2 q1 q2 hend fun h' e tk hk he=>?_) (F.args_zip_next_1 _))))
  obtain ⟨o,ho,hc⟩:=he
  refine wpAny_bind (wpAny_isInstance (T := "StopIteration") (b:=true) ⟨o,ho,hc⟩ isSubtype_stop (wpAny_pure (hQ _ tk hk)))
end
theorem Inv.turnedL {X:Cx}{pins:List (Addr×Obj)}{σ:St}{H:Hp}{s:Shared}{h':Heap}{t':Nat}{ch:List Addr} (I:Inv X pins σ H s) (hf:∀b∈ch,FpOk X pins H b) (k:∀b u,b∉ch→s.heap.get? b=some u→h'.get? b=some u) :
    Inv X pins σ H { s with heap:=h',toks:=t' }:=by
  refine I.step (g':=s.gens) (d':=s.drawn) (ch:=ch) (fun b hb=>?_) (fun b o _ _ hc e _=>k b o hc e) (fun b o _ _ hc e _=>⟨o.slots,k b o hc e⟩) (fun _ _ _ _ n=>n)
    (fun b o hc e=>⟨o,k b o hc e⟩) (fun _ _ e=>e) (fun _ _ _ e=>e) (fun b ps e=>⟨#[],by rw [e];simp⟩) (fun m hm=>?_) (fun b u e=>?_) I.bare
  · obtain ⟨f0,f1,f2,f3,f4,f5⟩:=hf b hb
    exact ⟨f3,f1,f4,f5⟩
  · obtain ⟨o,es,ep,ho,r⟩:=hm
    exact ⟨o,es,ep,k _ o (fun z=>(hf _ z).2.1 rfl) ho,r⟩
  · refine (I.hok b u e).stay (fun c v hc q=>k c v (fun z=>?_) q) (fun _ q=>q) fun _ _ q=>q
    have hcn:=(hf c z).1
    rcases hc with rfl | hc
    · rw [e] at hcn;cases hcn
    · rw [hc] at hcn;cases hcn
def SqC (K:PySem.W.Frag) (H:Hp) (a:Addr) (xs:List V):Bool→Prop
  | true=>SqL K H a xs
  | false=>SqT K H a xs
theorem Inv.seqC {X:Cx}{pins:List (Addr×Obj)}{σ:St}{H:Hp}{s:Shared}{a:Addr}{xs:List V} (I:Inv X pins σ H s):∀{c:Bool},SqC X.K H a xs c→∃its:List Value,Vals xs its∧SqK s.heap a its.toArray c
  | true,q=>let ⟨its,rv,p,_⟩:=I.list q;⟨its,rv,p.isList⟩
  | false,q=>let ⟨its,rv,p,_⟩:=I.tuple q;⟨its,rv,p⟩
theorem Inv.seqC_inj {X:Cx}{pins:List (Addr×Obj)}{σ:St}{H:Hp}{s:Shared}{a:Addr}{xs ys:List V} (I:Inv X pins σ H s):∀{c:Bool},SqC X.K H a xs c→SqC X.K H a ys c→xs=ys
  | true,p,q=>I.list_inj p q
  | false,p,q=>I.tuple_inj p q
theorem boot_zip:bootBuiltins "zip" = some (.type "zip"):=by decide +kernel
end L2
namespace L2
open PySem PySem.Spec PyProof.Rows
section
variable {X:Cx}{K:PySem.W.Frag}
end
def Sz (m:Nat) (i:Int):Prop:=i.natAbs<2 ^ m
theorem Sz.mono {m n:Nat}{i:Int} (h:Sz m i) (k:m≤n):Sz n i:=Nat.lt_of_lt_of_le h (Nat.pow_le_pow_right (by decide) k)
theorem Sz.mul {m n:Nat}{i j:Int} (h:Sz m i) (k:Sz n j):Sz (m+n) (i*j):=by
  unfold Sz at *
  rw [Int.natAbs_mul,Nat.pow_add]
  exact Nat.mul_lt_mul'' h k
theorem Sz.neg {m:Nat}{i:Int} (h:Sz m i):Sz m (-i):=by
  unfold Sz at *
  trivial
theorem Sz.le {m:Nat}{i j:Int} (h:Sz m j) (k:i.natAbs≤j.natAbs):Sz m i:=Nat.lt_of_le_of_lt k h
theorem Sz.log {m:Nat}{i:Int} (h:Sz m i) (h0:i≠0):i.natAbs.log2<m:=(Nat.log2_lt (by trivial)).mpr h
theorem Sz.bits {m:Nat}{i:Int} (h:Sz m i):Builtin.Int.intBits i≤m:=by
  unfold Builtin.Int.intBits
  by_cases h0:i=0
  · subst h0;exact Nat.zero_le _
  · have:=h.log h0
    rw [if_neg (by simpa using h0)]
    trivial
def CMulB (i j:Int):Prop:=Ex2 fun m n=>Sz m i∧Sz n j∧m+n≤134217728
section
variable {X:Cx}
theorem op_mulB:OpR X (binaryOp .Mult) (rI CMulB fun i j=>.int (i*j)):=opI fun _ _ _ _ _ _ _ hc q=>by
  obtain ⟨m,n,h1,h2,h3⟩:=hc
  exact mul_int q (PyProof.Rows.mulOk_of_bits h1.bits h2.bits h3)
def CDivS (_ j:Int):Prop:=j≠0∧Sz 9000 j
theorem op_fdivS:OpR X (binaryOp .FloorDiv) (rI CDivS fun i j=>.int (i.fdiv j)):=opI fun i j _ _ _ _ _ hc q=>
  floordiv_int hc.1 q (.inl (PyProof.noPylong_of_log2 (hc.2.log hc.1)))
end
end L2
namespace L2
open PySem PySem.Spec PyProof.Rows
theorem same_lst {H H':Hp}{D:Addr}{o:HO} (hD:H D=none) (k:Same H H'):Same H (upd H' D o):=fun b u e=>by
  rw [upd_ne (ne_of_none e hD)];exact k b u e
theorem SameE.free {b p:Addr}{H H9:Hp}{t9:Int} (s:SameE (Eb b) H H9) (B:Bx H9 b t9) (h:H9 p=none):H p=none:=by
  cases e:H p with
  | none=>rfl
  | some o=>
    by_cases hb:p=b
    · obtain ⟨c,x,eb,_⟩:=B
      rw [←hb,h] at eb;cases eb
    · rw [s.old p o hb e] at h;cases h
mutual
theorem IsD.narrow {E F:Addr→Prop}{H:Hp} (k:∀a,F a→E a):∀{v:V}{d:PyData},IsD E H v d→IsD F H v d
  | _,_,.non=>.non
  | _,_,.bl b=>.bl b
  | _,_,.int i=>.int i
  | _,_,.str x=>.str x
  | _,_,.lst h ne r=>.lst h (fun z=>ne (k _ z)) (IsAll.narrow k r)
  | _,_,.tup h r=>.tup h (IsAll.narrow k r)
theorem IsAll.narrow {E F:Addr→Prop}{H:Hp} (k:∀a,F a→E a):∀{vs:List V}{ds:List PyData},IsAll E H vs ds→IsAll F H vs ds
  | _,_,.nil=>.nil
  | _,_,.cons h r=>.cons (IsD.narrow k h) (IsAll.narrow k r)
end
theorem iteSame {x:V}{A B:Prop} (h:B):if (!decide (x=x))=true then A else B:=by rw [decide_eq_true rfl];exact iteF h
end L2
namespace L2
open PySem PySem.Spec PyProof.Rows
abbrev fr (z:Int×Int):HO:=.tup [.int z.1,.int z.2]
abbrev nTim (n1 _ n2 _:Int):Int:=n1*n2
abbrev dAdd (_ d1 _ d2:Int):Int:=d1*d2
def cmpI (i j:Int):Int:=if i<j then -1 else if j<i then 1 else 0
inductive spCmp_ (vs:List V) (H:Hp) (Q:VK):Prop
  | mk (a b:Addr) (n1 d1 n2 d2:Int) (h0:vs=[.ref a,.ref b]) (h1:H a=some (.tup [.int n1,.int d1])) (h2:H b=some (.tup [.int n2,.int d2])) (h3:Sz 4000 n1) (h4:Sz 4000 d1) (h5:Sz 4000 n2) (h6:Sz 4000 d2) (h7:Q (.int (cmpI (n1*d2) (n2*d1))) H)
def spCmp:Sp:=fun vs H Q _=>spCmp_  vs H Q
theorem mulS {i j:Int} (h1:Sz 4000 i) (h2:Sz 4000 j):CMulB i j:=⟨4000,4000,h1,h2,by decide⟩
theorem mulS9 {i j:Int} (h1:Sz 4000 i) (h2:Sz 4000 j):Sz 9000 (i*j):=(h1.mul h2).mono (by decide)
theorem gcdS {n d:Int} (hd:d≠0) (h:Sz 9000 d):Sz 9000 ((Int.gcd n d:Nat):Int):=h.le (by
  rw [Int.natAbs_natCast]
  exact Nat.le_of_dvd (by trivial) (Int.ofNat_dvd_left.mp (Int.gcd_dvd_right ..)))
structure Fb (b:Nat) (n d:Int):Prop where
  sn:Sz b n
  sd:Sz b d
  pos:1≤d
  co:Int.gcd n d=1
theorem Fb.low {b:Nat}{n d:Int} (h1:Sz b n) (h2:Sz b d) (hd:d≠0):Fb b (KM.low n d).1 (KM.low n d).2:=by
  obtain ⟨a,_,c,e,f⟩:=KM.low_spec n d hd
  exact ⟨h1.le e,h2.le f,a,c⟩
end L2
namespace L2
open PySem PySem.Spec PyProof.Rows
structure Nw (H:Hp) (p:Addr) (o:HO) (H':Hp):Prop where
  fr:H p=none
  sm:Same H H'
  at':H' p=some o
theorem Nw.mk' {H:Hp}{p:Addr}{o:HO} (h:H p=none):Nw H p o (upd H p o):=⟨h,Same.new h,upd_same⟩
section
variable {X:Cx}{es:List Expr}{t:TA}{pos:Pos}{K:PySem.W.Frag}
def tTupA (t:TA):TE:=fun σ H Q=>t σ H fun xs H1=>xs.length≤10000∧∀p H',Nw H1 p (.tup xs) H'→Q (.ref p) H'
def tLstA (t:TA):TE:=fun σ H Q=>t σ H fun xs H1=>xs.length≤10000∧∀p H',Nw H1 p (.lst xs) H'→Q (.ref p) H'
theorem sz_of {n:Nat} (h:n≤10000):n≤sizeLine:=by rw [sizeLine_eq];trivial
theorem pe_tupA {x1} (h:PA X es t):PE X (.Tuple es x1 pos) (tTupA t):=by
  intro pins s σ H Q I hq
  refine wpAny_Tuple_spliced (thn (h pos pins s σ H _ I hq) fun us s1 ⟨xs,H1,I1,r,z',q⟩=>⟨by rw [←r.length];exact sz_of z',?_⟩)
  have z:=sz_of z'
  have hf:H1 s1.heap.objs.size=none:=I1.hok.fresh (Nat.le_refl _)
  refine ⟨.ref s1.heap.objs.size,upd H1 s1.heap.objs.size (.tup xs),I1.laid (t':=s1.toks) (fun b u e=>Heap.get?_push_of_some _ e) (Nat.le_refl _) ?_,rfl,q _ _ (.mk' hf)⟩
  exact ⟨z,us,r,⟨_,Heap.get?_push_size _ rfl,rfl,_,rfl⟩,_,Heap.get?_push_size _ rfl,rfl⟩
theorem pe_lstA (h:PA X es t):PE X (.List es pos) (tLstA t):=by
  intro pins s σ H Q I hq
  refine wpAny_List_spliced (thn (h pos pins s σ H _ I hq) fun us s1 ⟨xs,H1,I1,r,z',q⟩=>⟨by rw [←r.length];exact sz_of z',?_⟩)
  have z:=sz_of z'
  have hf:H1 s1.heap.objs.size=none:=I1.hok.fresh (Nat.le_refl _)
  refine ⟨.ref s1.heap.objs.size,upd H1 s1.heap.objs.size (.lst xs),I1.laid (t':=s1.toks) (fun b u e=>Heap.get?_push_of_some _ e) (Nat.le_refl _) ?_,rfl,q _ _ (.mk' hf)⟩
  exact ⟨z,us,0,r,Heap.get?_push_size _ rfl⟩
inductive rCatA_ (x:V) (y:V) (H:Hp) (Q:VK):Prop
  | mk (l:_) (b:_) (xs:_) (zs:_) (h0:x=.ref l) (h1:y=.ref b) (h2:H l=some (.lst xs)) (h3:H b=some (.lst zs)) (h4:xs.length+zs.length≤10000) (h5:∀p H',Nw H p (.lst (xs++zs)) H'→Q (.ref p) H')
def rCatA:R2:=fun x y H Q=>rCatA_  x y H Q
theorem op_catA:OpR X (binaryOp .Add) rCatA:=fun pins s σ H x y v u Q I rx ry ⟨l,b,xs,zs,e1,e2,h1,h2,hz,q⟩=>
  op_cat pins s σ H x y v u Q I rx ry ⟨l,b,xs,zs,e1,e2,h1,h2,sz_of hz,fun p hp=>q p _ (.mk' hp)⟩
inductive rSlA_ (K:PySem.W.Frag) (x:V) (lo:Option Int) (hi:Option Int) (H:Hp) (Q:VK):Prop
  | mk (a:_) (xs:_) (h0:x=.ref a) (h1:SqL K H a xs) (h2:∀p H',Nw H p (.lst (cutV xs lo hi)) H'→Q (.ref p) H')
def rSlA (K:PySem.W.Frag):V→Option Int→Option Int→Hp→VK→Prop:=fun x lo hi H Q=>rSlA_ K x lo hi H Q
theorem sl_listA (e:X.K=K:=by rfl):SlR X (rSlA K):=by
  subst e
  exact fun pins s σ H x v vl vu lo hi sl Q I rx hs pl pu ⟨a,xs,e,h,q⟩=>sl_list pins s σ H x v vl vu lo hi sl Q I rx hs pl pu ⟨a,xs,e,h,fun p hp=>q p _ (.mk' hp)⟩
inductive rRepA_ (x:V) (y:V) (H:Hp) (Q:VK):Prop
  | mk (l:_) (k:_) (xs:_) (h0:x=.ref l) (h1:y=.int k) (h2:H l=some (.lst xs)) (h3:-(2 ^ 63)≤k) (h4:k<2 ^ 63) (h5:xs.length*k.toNat≤10000) (h6:∀p H',Nw H p (.lst (List.replicate k.toNat xs).flatten) H'→Q (.ref p) H')
def rRepA:R2:=fun x y H Q=>rRepA_  x y H Q
theorem op_repA:OpR X (binaryOp .Mult) rRepA:=fun pins s σ H x y v u Q I rx ry ⟨l,k,xs,e1,e2,h1,h2,h3,hz,q⟩=>
  op_rep pins s σ H x y v u Q I rx ry ⟨l,k,xs,e1,e2,h1,h2,h3,sz_of hz,fun p hp=>q p _ (.mk' hp)⟩
inductive rTupleA_ (K:PySem.W.Frag) (xs:List V) (H:Hp) (Q:VK):Prop
  | mk (p:_) (ys:_) (h0:xs=[.ref p]) (h1:SqL K H p ys) (h2:∀l H',Nw H l (.tup ys) H'→Q (.ref l) H')
def rTupleA (K:PySem.W.Frag):List V→Hp→VK→Prop:=fun xs H Q=>rTupleA_ K xs H Q
theorem call_tuple_ofA (e:X.K=K:=by rfl):CallR X (.type "tuple") (rTupleA K):=by
  subst e
  exact fun pins s σ H xs us Q I r ⟨p,ys,e,h,q⟩=>call_tuple_of pins s σ H xs us Q I r ⟨p,ys,e,.inl ⟨h,fun l hl=>q l _ (.mk' hl)⟩⟩
end
structure Ch (H:Hp) (p:Addr) (xs:List V) (H':Hp):Prop where
  at':H' p=some (.lst xs)
  ol:∀a o,a≠p→H a=some o→H' a=some o
  fre:∀a,a≠p→H a=none→H' a=none
theorem Ch.mk' {H:Hp}{p:Addr}{xs:List V}:Ch H p xs (upd H p (.lst xs)):=⟨upd_same,fun a o n h=>by rw [upd_ne n];exact h,fun a n h=>by rw [upd_ne n];exact h⟩
theorem Ch.tup {H H':Hp}{p a:Addr}{xs ys zs:List V} (c:Ch H p xs H') (h:H a=some (.tup ys)) (hp:H p=some (.lst zs)):H' a=some (.tup ys):=c.ol a _ (ne_of h hp (by intro z;cases z)) h
section
variable {X:Cx}
inductive rAppA_ (x:V) (vs:List V) (H:Hp) (Q:VK):Prop
  | mk (l:_) (xs:_) (y:_) (h0:x=.ref l) (h1:vs=[y]) (h2:H l=some (.lst xs)) (h3:xs.length≤10000) (h4:∀H',Ch H l (xs++[y]) H'→Q .non H')
def rAppA:V→List V→Hp→VK→Prop:=fun x vs H Q=>rAppA_  x vs H Q
theorem mt_appendA:MtM X "list.append" rAppA:=fun pins s σ H x vs v us Q I rx rv ⟨l,xs,y,e1,e2,h,hz,q⟩=>mt_append pins s σ H x vs v us Q I rx rv ⟨l,xs,y,e1,e2,h,(by rw [sizeLine_eq];trivial),q _ .mk'⟩
end
inductive spLowA_ (vs:List V) (H:Hp) (Q:VK):Prop
  | mk (n d:Int) (h0:vs=[.int n,.int d]) (h1:d≠0) (h2:Sz 9000 d) (h3:∀p H',Nw H p (fr (KM.low n d)) H'→Q (.ref p) H')
def spLowA:Sp:=fun vs H Q _=>spLowA_  vs H Q
inductive spBinA_ (num den:Int→Int→Int→Int→Int) (vs:List V) (H:Hp) (Q:VK):Prop
  | mk (a b:Addr) (n1 d1 n2 d2:Int) (h0:vs=[.ref a,.ref b]) (h1:H a=some (.tup [.int n1,.int d1])) (h2:H b=some (.tup [.int n2,.int d2])) (h3:(Sz 4000 n1∧Sz 4000 d1∧Sz 4000 n2∧Sz 4000 d2∧den n1 d1 n2 d2≠0)) (h4:∀p H',Nw H p (fr (KM.low (num n1 d1 n2 d2) (den n1 d1 n2 d2))) H'→Q (.ref p) H')
def spBinA (num den:Int→Int→Int→Int→Int):Sp:=fun vs H Q _=>spBinA_ num den vs H Q
end L2
namespace L2
open PySem PySem.Spec PyProof.Rows
theorem Fb.small {b:Nat}{n d:Int} (h1:n.natAbs<2 ^ b) (h2:d.natAbs<2 ^ b) (h3:1≤d) (h4:Int.gcd n d=1):Fb b n d:=⟨h1,h2,h3,h4⟩
theorem Bx.ch {H H':Hp}{b p:Addr}{t:Int}{xs:List V} (h:Bx H b t) (k:Ch H p xs H') (ne:b≠p):Bx H' b t:=by
  obtain ⟨c,x,e,q⟩:=h
  exact ⟨c,x,k.ol b _ ne e,q⟩
theorem Bx.ne {H:Hp}{b p:Addr}{t:Int} (h:Bx H b t) (hp:H p=none):b≠p:=fun z=>by
  obtain ⟨c,x,e,_⟩:=h
  rw [z,hp] at e;cases e
end L2
namespace L2
open PySem PySem.Spec PyProof.Rows
section
variable {X:Cx}{e:Expr}{te:TE}{st:Expr}{ts:TO}{p2 pos:Pos}{K:PySem.W.Frag}
inductive rInsA_ (x:V) (vs:List V) (H:Hp) (Q:VK):Prop
  | mk (l:_) (xs:_) (k:_) (y:_) (h0:x=.ref l) (h1:vs=[.int k,y]) (h2:H l=some (.lst xs)) (h3:0≤k) (h4:k≤xs.length) (h5:xs.length≤10000) (h6:∀H',Ch H l (xs.take k.toNat++y :: xs.drop k.toNat) H'→Q .non H')
def rInsA:V→List V→Hp→VK→Prop:=fun x vs H Q=>rInsA_  x vs H Q
theorem mt_insertA:MtM X "list.insert" rInsA:=by
  intro pins s σ H x vs v us Q I rx rv h
  obtain ⟨l,xs,k,y,rfl,rfl,hH,h0,h1,hz,q⟩:=h
  cases rx
  obtain ⟨u1,u2,rfl,r1,r2⟩:=rv.two
  obtain ⟨t1,rfl⟩:=r1
  obtain ⟨z,its,n,r,hl,e⟩:=I.lstM hH
  have hf:Builtin.List.listFitsIndex k=true:=by
    unfold Builtin.List.listFitsIndex
    simp
    trivial
  refine call_meets F.slot_list_insert ⟨_,e,rfl⟩ F.entry_list_insert (F.args_list_insert_3 _ _ _) (AutoSeq1.list_insert_list_int_val_1 l its.toArray n k t1 u2 (by simp [hf]) (by rw [List.size_toArray];trivial)) ⟨e,?_⟩
  refine ⟨.non,_,I.lset (its':=its.take k.toNat++u2 :: its.drop k.toNat) hH e ?_ ((r.take k.toNat).append (.cons r2 (r.drop k.toNat))) ?_,rfl,q _ .mk'⟩
  · have hk:¬k<0:=by trivial
    have hm:min k.toNat its.length=k.toNat:=by trivial
    simp only [if_neg hk,List.size_toArray,hm]
    apply Array.ext'
    simp
    exact List.take_of_length_le (by rw [List.length_drop];trivial)
  · rw [List.length_append,List.length_cons,List.length_take,List.length_drop,sizeLine_eq]
    trivial
end
end L2
namespace L2
open PySem PySem.Spec PyProof.Rows
end L2
namespace L2
open PySem PySem.Spec PyProof.Rows
def S (l:List Nat):Str:=⟨l.toArray⟩
theorem S_inj {a b:List Nat} (h:S a=S b):a=b:=by
  have:a.toArray=b.toArray:=by injection h
  simpa using this
theorem S_app (a b:List Nat):S a++S b=S (a++b):=by
  show (⟨a.toArray++b.toArray⟩:Str)=⟨(a++b).toArray⟩
  simp
theorem S_len (a:List Nat):(S a).length=a.length:=by
  show a.toArray.size=_
  simp
theorem S_list (a:List Nat):(S a).cps.toList=a:=rfl
theorem foldl_app (k:Nat) (l:List Nat):∀acc:List Nat,(List.replicate k l.toArray).foldl (·++·) acc.toArray=(acc++(List.replicate k l).flatten).toArray:=by
  induction k with
  | zero=>intro acc;simp
  | succ k ih=>
    intro acc
    rw [List.replicate_succ,List.foldl_cons,List.replicate_succ,List.flatten_cons]
    have:acc.toArray++l.toArray=(acc++l).toArray:=by simp
    rw [this,ih,List.append_assoc]
theorem join_flat:∀ls:List (List Nat),Str.join (S []) (ls.map S)=S ls.flatten
  | []=>rfl
  | [a]=>by
    show S a=S (a++[])
    rw [List.append_nil]
  | a :: b :: r=>by
    have e:Str.join (S []) ((a :: b :: r).map S)=S a++S []++Str.join (S []) ((b :: r).map S):=rfl
    rw [e,join_flat (b :: r),S_app,S_app,List.append_nil]
    rfl
section
variable {X:Cx}{K:PySem.W.Frag}
inductive rMulS_ (x:V) (y:V) (H:Hp) (Q:VK):Prop
  | mk (l:_) (n:_) (h0:x=.str (S l)) (h1:y=.int n) (h2:1≤n) (h3:n≤1000) (h4:l.length≤100) (h5:Q (.str (S (List.replicate n.toNat l).flatten)) H)
def rMulS:R2:=fun x y H Q=>rMulS_  x y H Q
theorem op_mulS:OpR X (binaryOp .Mult) rMulS:=by
  intro pins s σ H x y v u Q I rx ry h
  obtain ⟨l,n,rfl,rfl,h1,h2,h3,q⟩:=h
  obtain ⟨t,rfl⟩:=rx
  obtain ⟨t',rfl⟩:=ry
  have hlen:(S l).length=l.length:=S_len l
  have hmul:l.length*n.toNat≤100*1000:=Nat.mul_le_mul h3 (by trivial)
  refine PySem.P.mul_str ?_ ?_ ?_ ?_
  · rw [decide_eq_false (by trivial),decide_eq_false (by trivial)];rfl
  · intro _ _
    rw [hlen]
    have:(100:Int)<(2 ^ 63 - 1) / n:=by
      have:(100+1)*n≤2 ^ 63 - 1:=by trivial
      have:=(Int.le_ediv_iff_mul_le (by trivial:0<n)).mpr this
      trivial
    trivial
  · intro _ _
    rw [hlen]
    unfold Builtin.Str.tooLong
    rw [decide_eq_false]
    rw [sizeLine_eq]
    trivial
  · rw [if_neg (by trivial)]
    by_cases hn:(n==1 || (S l).length==0)=true
    · rw [if_pos hn]
      refine ⟨.str (S l),H,I,⟨t,rfl⟩,?_⟩
      have e:(List.replicate n.toNat l).flatten=l:=by
        rw [hlen] at hn
        have hn':n=1∨l.length=0:=by simpa using hn
        rcases hn' with rfl | hn'
        · simp
        · have:l=[]:=List.eq_nil_of_length_eq_zero hn'
          subst this
          simp
      rw [e] at q
      exact q
    · rw [if_neg hn]
      have e:(⟨(List.replicate n.toNat (S l).cps).foldl (·++·) #[]⟩:Str)=S (List.replicate n.toNat l).flatten:=by
        have e:=foldl_app n.toNat l []
        rw [List.nil_append] at e
        exact congrArg Str.mk e
      rw [e]
      refine ⟨?_,.str (S (List.replicate n.toNat l).flatten),H,I.tok _,⟨_,rfl⟩,q⟩
      rw [S_len,len_rep,sizeLine_eq,Nat.mul_comm]
      trivial
inductive rJoin_ (K:PySem.W.Frag) (x:V) (vs:List V) (H:Hp) (Q:VK):Prop
  | mk (a:_) (ls:_) (h0:x=.str (S [])) (h1:vs=[.ref a]) (h2:SqL K H a ((ls:List (List Nat)).map fun l=>V.str (S l))) (h3:(ls.map (·.length)).sum≤10000) (h4:Q (.str (S ls.flatten)) H)
def rJoin (K:PySem.W.Frag):V→List V→Hp→VK→Prop:=fun x vs H Q=>rJoin_ K x vs H Q
theorem vals_strs {ls:List (List Nat)}:∀{us:List Value},Vals (ls.map fun l=>V.str (S l)) us→StrsAre us (ls.map S):=by
  induction ls with
  | nil=>intro us h;cases h;exact .nil
  | cons l r ih=>
    intro us h
    cases h with
    | cons h t=>
      obtain ⟨tk,rfl⟩:=h
      exact .cons _ _ (ih t)
theorem mt_join (ek:X.K=K:=by rfl):MtR X "str.join" (rJoin K):=by
  subst ek
  intro pins s σ H x vs v us Q I rx rv h
  obtain ⟨a,ls,rfl,rfl,hS,hz,q⟩:=h
  obtain ⟨t,rfl⟩:=rx
  obtain ⟨u,rfl,ru⟩:=rv.one
  obtain rfl:u=Value.ref a:=ru
  obtain ⟨its,r,ht,_⟩:=I.list hS
  have e1:((ls.map S).map (·.length)).sum=(ls.map (·.length)).sum:=by
    rw [List.map_map]
    congr 1
  refine join_list (ys:=ls.map S) ht.isList (by simpa using vals_strs r) ?_ fun t' k=>?_
  · rw [e1,show (S []).length=0 from rfl]
    trivial
  · have:=join_plain_closes (S []) (ls.map S)
    rw [eq_of_beq this,join_flat]
    exact ⟨.str (S ls.flatten),H,I.tok k,⟨_,rfl⟩,q⟩
inductive rAddS_ (x:V) (y:V) (H:Hp) (Q:VK):Prop
  | mk (a:_) (b:_) (h0:x=.str (S a)) (h1:y=.str (S b)) (h2:a.length+b.length≤10000) (h3:Q (.str (S (a++b))) H)
def rAddS:R2:=fun x y H Q=>rAddS_  x y H Q
theorem op_addS:OpR X (binaryOp .Add) rAddS:=fun pins s σ H x y v u Q I rx ry ⟨a,b,e1,e2,hz,q⟩=>
  op_add_str pins s σ H x y v u Q I rx ry ⟨S a,S b,e1,e2,by rw [S_len,S_len];exact sz_of hz,by rw [S_app];exact q⟩
end
theorem letters_eq:Str.ofString "abcdefghijklmnopqrstuvwxyz" = S ((List.range 26).map (97+·)):=by decide +kernel
theorem empty_eq:Str.ofString "" = S []:=by decide +kernel
theorem letter_at {i:Int} (h0:-26≤i) (h1:i<26):atI ((Str.ofString "abcdefghijklmnopqrstuvwxyz").cps.toList) i=some (97+(i % 26).toNat):=by
  rw [letters_eq,S_list]
  have:∀k:Fin 52,atI ((List.range 26).map (97+·)) ((k.val:Int) - 26)=some (97+(((k.val:Int) - 26) % 26).toNat):=by decide +kernel
  have e:=this ⟨(i+26).toNat,by trivial⟩
  simp only at e
  rw [show (((i+26).toNat:Nat):Int) - 26=i by trivial] at e
  exact e
theorem step11 {f:Int}{j k:Nat} (hj:j<26) (hk:k<26) (h:(f+11*(j:Int)) % 26=(f+11*(k:Int)) % 26):j=k:=by trivial
end L2
namespace L2
open PySem PySem.Spec PyProof.Rows
structure NameC (l:List Nat):Prop where
  lo:1≤l.length
  hi:l.length≤8
  az:∀c∈l,97≤c∧c≤122
abbrev strV (l:List Nat):V:=.str (S l)
def nm (c k:Nat):List Nat:=List.replicate (1+k) c
theorem rep1 (n c:Nat):(List.replicate n [c]).flatten=List.replicate n c:=by
  induction n with
  | zero=>rfl
  | succ n ih=>rw [List.replicate_succ,List.flatten_cons,ih,List.replicate_succ];rfl
theorem nm_ok {c k:Nat} (hk:k<8) (h1:97≤c) (h2:c≤122):NameC (nm c k):=⟨by simp [nm],by simp [nm];trivial,fun d hd=>by
  have:=List.eq_of_mem_replicate hd
  trivial⟩
theorem cutV_take {xs:List V}{m:Int} (h:0≤m):cutV xs none (some m)=xs.take m.toNat:=by
  unfold cutV
  have e:m=((m.toNat:Nat):Int):=by trivial
  rw [HT.sIx_none,e,HT.sIx_nat]
  simp only [Int.toNat_natCast,List.drop_zero,Nat.sub_zero]
  by_cases hm:m.toNat≤xs.length
  · rw [Nat.min_eq_left hm]
  · rw [Nat.min_eq_right (by trivial),List.take_of_length_le (Nat.le_refl _),List.take_of_length_le (by trivial)]
theorem heads_nodup {ls:List (List Nat)}{f:Int} (hl:ls.length≤26) (h:∀(j:Nat) (l:List Nat),ls[j]?=some l→l.head?=some (97+((f+11*(j:Int)) % 26).toNat)):ls.Nodup:=by
  rw [List.nodup_iff_pairwise_ne,List.pairwise_iff_getElem]
  intro i j hi hj hij e
  have h1:=h i ls[i] (List.getElem?_eq_getElem hi)
  have h2:=h j ls[j] (List.getElem?_eq_getElem hj)
  rw [e,h2] at h1
  injection h1 with h1
  have a1:=Int.emod_nonneg (f+11*(i:Int)) (by decide:(26:Int)≠0)
  have a2:=Int.emod_nonneg (f+11*(j:Int)) (by decide:(26:Int)≠0)
  have:=step11 (f:=f) (j:=i) (k:=j) (by trivial) (by trivial) (by trivial)
  trivial
theorem SameE.ch {b D:Addr}{H H1 H2:Hp}{xs:List V} (s:SameE (Eb b) H H1) (c:Ch H1 D xs H2) (hD:H D=none):SameE (Eb b) H H2:=
  ⟨fun a u ne h=>c.ol a u (ne_of_none h hD) (s.old a u ne h),fun a us h=>c.ol a _ (ne_of_none h hD) (s.tup a us h)⟩
theorem SameE.up {b D:Addr}{H H1:Hp}{o:HO} (s:SameE (Eb b) H H1) (hD:H D=none):SameE (Eb b) H (upd H1 D o):=
  ⟨fun a u ne h=>by rw [upd_ne (ne_of_none h hD)];exact s.old a u ne h,fun a us h=>by rw [upd_ne (ne_of_none h hD)];exact s.tup a us h⟩
end L2
namespace L2
open PySem PySem.Spec PyProof.Rows
def strT (x:Str):Prop:=x.length≤300∧∀c∈x.cps.toList,c<128
mutual
inductive Wt:PyData→Nat→Nat→Prop
  | non {k:Nat}:Wt .none 1 k
  | bl (b:Bool) {k:Nat}:Wt (.bool b) 1 k
  | int {i:Int} (h:Sz 1900 i) {k:Nat}:Wt (.int i) 1 k
  | str {x:Str} (h:strT x) {k:Nat}:Wt (.str x) 1 k
  | list {xs:List PyData}{n k:Nat} (h:WtL xs n k):Wt (.list xs) (n+1) (k+1)
  | tuple {xs:List PyData}{n k:Nat} (h:WtL xs n k):Wt (.tuple xs) (n+1) (k+1)
inductive WtL:List PyData→Nat→Nat→Prop
  | nil {k:Nat}:WtL [] 0 k
  | cons {x:PyData}{xs:List PyData}{m n k:Nat} (h:Wt x m k) (r:WtL xs n k):WtL (x :: xs) (m+n) k
end
mutual
theorem Wt.deep:∀{d:PyData}{n k:Nat},Wt d n k→∀{l:Nat},k≤l→Wt d n l
  | _,_,_,.non,_,_=>.non
  | _,_,_,.bl b,_,_=>.bl b
  | _,_,_,.int h,_,_=>.int h
  | _,_,_,.str h,_,_=>.str h
  | _,_,_,.list h,l,hl=>by
    obtain ⟨m,rfl⟩:∃m,l=m+1:=⟨l - 1,by trivial⟩
    exact .list (WtL.deep h (by trivial))
  | _,_,_,.tuple h,l,hl=>by
    obtain ⟨m,rfl⟩:∃m,l=m+1:=⟨l - 1,by trivial⟩
    exact .tuple (WtL.deep h (by trivial))
theorem WtL.deep:∀{ds:List PyData}{n k:Nat},WtL ds n k→∀{l:Nat},k≤l→WtL ds n l
  | _,_,_,.nil,_,_=>.nil
  | _,_,_,.cons h r,_,hl=>.cons (Wt.deep h hl) (WtL.deep r hl)
end
theorem Wt.pos {d:PyData}{n k:Nat} (h:Wt d n k):1≤n:=by cases h <;> trivial
mutual
theorem Wt.dep:∀{d:PyData}{n k:Nat},Wt d n k→d.depth≤k
  | _,_,_,.non=>by simp [PyData.depth]
  | _,_,_,.bl b=>by simp [PyData.depth]
  | _,_,_,.int h=>by simp [PyData.depth]
  | _,_,_,.str h=>by simp [PyData.depth]
  | _,_,_,.list h=>by simp only [PyData.depth];exact Nat.succ_le_succ (WtL.dep h)
  | _,_,_,.tuple h=>by simp only [PyData.depth];exact Nat.succ_le_succ (WtL.dep h)
theorem WtL.dep:∀{ds:List PyData}{n k:Nat},WtL ds n k→PyData.depthAll ds≤k
  | _,_,_,.nil=>by simp [PyData.depthAll]
  | _,_,_,.cons h r=>by simp only [PyData.depthAll];exact Nat.max_le.mpr ⟨Wt.dep h,WtL.dep r⟩
end
mutual
theorem Wt.sho:∀{d:PyData}{n k:Nat},Wt d n k→d.showable=true
  | _,_,_,.non=>by simp [PyData.showable]
  | _,_,_,.bl b=>by simp [PyData.showable]
  | _,_,_,.int (i:=i) h=>by
    simp only [PyData.showable,decide_eq_true_iff]
    by_cases h0:i=0
    · subst h0;decide
    · exact Nat.lt_trans (h.log h0) (by decide)
  | _,_,_,.str h=>by simp [PyData.showable]
  | _,_,_,.list h=>by simp only [PyData.showable];exact WtL.sho h
  | _,_,_,.tuple h=>by simp only [PyData.showable];exact WtL.sho h
theorem WtL.sho:∀{ds:List PyData}{n k:Nat},WtL ds n k→PyData.showableAll ds=true
  | _,_,_,.nil=>by simp [PyData.showableAll]
  | _,_,_,.cons h r=>by simp only [PyData.showableAll,Bool.and_eq_true];exact ⟨Wt.sho h,WtL.sho r⟩
end
mutual
theorem Wt.nod:∀{d:PyData}{n k:Nat},Wt d n k→d.hasDict=false
  | _,_,_,.non=>by simp [PyData.hasDict]
  | _,_,_,.bl b=>by simp [PyData.hasDict]
  | _,_,_,.int h=>by simp [PyData.hasDict]
  | _,_,_,.str h=>by simp [PyData.hasDict]
  | _,_,_,.list h=>by simp only [PyData.hasDict];exact WtL.nod h
  | _,_,_,.tuple h=>by simp only [PyData.hasDict];exact WtL.nod h
theorem WtL.nod:∀{ds:List PyData}{n k:Nat},WtL ds n k→PyData.hasDictAll ds=false
  | _,_,_,.nil=>by simp [PyData.hasDictAll]
  | _,_,_,.cons h r=>by simp only [PyData.hasDictAll,Bool.or_eq_false_iff];exact ⟨Wt.nod h,WtL.nod r⟩
end
mutual
theorem Wt.len:∀{d:PyData}{n k:Nat},Wt d n k→d.shown.length+2≤3010*n
  | _,_,_,.non=>by
    rw [PyData.shown]
    decide +kernel
  | _,_,_,.bl b=>by
    rw [PyData.shown]
    cases b <;> decide +kernel
  | _,_,_,.int (i:=i) h=>by
    rw [PyData.shown]
    have hl:i.natAbs.log2<1920:=by
      by_cases h0:i=0
      · subst h0;decide
      · exact Nat.lt_trans (h.log h0) (by decide)
    have:=int_text_len_1921 hl
    trivial
  | _,_,_,.str (x:=x) h=>by
    rw [PyData.shown]
    have:=PySem.StrLaws.reprText_len x (fun c hc=>Nat.lt_trans (h.2 c hc) (by decide))
    have:=h.1
    trivial
  | _,_,_,.list (xs:=xs) (n:=n) h=>by
    rw [PyData.shown]
    have h1:=listText_len_le (PyData.shownAll xs)
    have h2:=WtL.len h
    trivial
  | _,_,_,.tuple (xs:=xs) (n:=n) h=>by
    rw [PyData.shown]
    have h1:=tupleText_len_le (PyData.shownAll xs)
    have h2:=WtL.len h
    trivial
theorem WtL.len:∀{ds:List PyData}{n k:Nat},WtL ds n k→((PyData.shownAll ds).map (·.length)).sum+2*(PyData.shownAll ds).length≤3010*n
  | _,_,_,.nil=>by simp [PyData.shownAll]
  | _,_,_,.cons (x:=x) (xs:=xs) (m:=m) (n:=n) h r=>by
    rw [PyData.shownAll,List.map_cons,List.sum_cons,List.length_cons]
    have h1:=Wt.len h
    have h2:=WtL.len r
    have h3:=h.pos
    trivial
end
end L2
namespace L2
open PySem PySem.Spec PyProof.Rows
mutual
theorem Wt.can:∀{d:PyData}{n k:Nat},Wt d n k→d.canLay0=true
  | _,_,_,.non=>by simp [PyData.canLay0]
  | _,_,_,.bl b=>by simp [PyData.canLay0]
  | _,_,_,.int h=>by simp [PyData.canLay0]
  | _,_,_,.str (x:=x) h=>by
    simp only [PyData.canLay0]
    unfold PySem.PyData.strOk
    rw [Array.all_eq_true]
    intro i hi
    have:=h.2 x.cps[i] (by simp)
    simp
    trivial
  | _,_,_,.list h=>by simp only [PyData.canLay0];exact WtL.can h
  | _,_,_,.tuple h=>by simp only [PyData.canLay0];exact WtL.can h
theorem WtL.can:∀{ds:List PyData}{n k:Nat},WtL ds n k→PyData.canLayAll0 ds=true
  | _,_,_,.nil=>by simp [PyData.canLayAll0]
  | _,_,_,.cons h r=>by simp only [PyData.canLayAll0,Bool.and_eq_true];exact ⟨Wt.can h,WtL.can r⟩
end
section
variable {X:Cx}
inductive rEqD_ (ne:Bool) (x:V) (y:V) (H:Hp) (Q:VK):Prop
  | mk (d e:PyData) (E F:Addr→Prop) (m n k l:Nat) (h0:IsD E H x d) (h1:IsD F H y e) (h2:Wt d m k) (h3:Wt e n l) (h4:k≤60) (h5:Q (.bl (if ne then !PyData.eqv d e else PyData.eqv d e)) H)
def rEqD (ne:Bool):R2:=fun x y H Q=>rEqD_ ne x y H Q
theorem op_eqD (hu:X.A.units+64<cLine):OpR X (compareOp .Eq) (rEqD false):=by
  intro pins s σ H x y v u Q I rx ry h
  obtain ⟨d,e,E,F,m,n,k,l,hd,he,wd,we,hk,q⟩:=h
  obtain ⟨as,ra⟩:=hd.reads I.hok rx
  obtain ⟨bs,rb⟩:=he.reads I.hok ry
  exact PySem.SeqAt.compareEq_reads ra rb wd.can we.can (by have:=wd.dep;trivial) ⟨.bl _,H,I,rfl,q⟩
theorem op_neD (hu:X.A.units+64<cLine):OpR X (compareOp .NotEq) (rEqD true):=by
  intro pins s σ H x y v u Q I rx ry h
  obtain ⟨d,e,E,F,m,n,k,l,hd,he,wd,we,hk,q⟩:=h
  obtain ⟨as,ra⟩:=hd.reads I.hok rx
  obtain ⟨bs,rb⟩:=he.reads I.hok ry
  exact PySem.SeqAt.compareNe_reads ra rb wd.can we.can (by have:=wd.dep;trivial) ⟨.bl _,H,I,rfl,q⟩
inductive rStrW_ (xs:List V) (H:Hp) (Q:VK):Prop
  | mk (a:Addr) (d:PyData) (E:Addr→Prop) (n k:Nat) (h0:xs=[.ref a]) (h1:IsD E H (.ref a) d) (h2:Wt d n k) (h3:n≤5500) (h4:k≤50) (h5:Q (.str d.shown) H)
def rStrW:List V→Hp→VK→Prop:=fun xs H Q=>rStrW_  xs H Q
theorem call_strW {k:Nat} (hr:Room k X.A):CallR X (.type "str") rStrW:=fun pins s σ H xs us Q I r ⟨a,d,E,n,k,e,hd,w,hn,hk,q⟩=>
  call_str_data hr pins s σ H xs us Q I r ⟨a,d,E,e,hd,w.sho,w.nod,by have:=w.dep;trivial,by have:=w.len;rw [sizeLine_eq];trivial,q⟩
end
abbrev ED:Addr→Prop:=fun _=>True
abbrev frD (p:KM.Fra):PyData:=.tuple [.int p.1,.int p.2]
structure TieD where
  bg:List Nat
  en:List Nat
  most:KM.Fra
  gain:KM.Fra
  price:KM.Fra
abbrev tieD (t:TieD):PyData:=.tuple [.str (S t.bg),.str (S t.en),frD t.most,frD t.gain,frD t.price]
abbrev netD (ls:List (List Nat)) (ts:List TieD):PyData:=.tuple [.tuple (ls.map fun l=>.str (S l)),.tuple (ts.map tieD)]
theorem isF {H:Hp}{o:Addr}{p:KM.Fra} (h:H o=some (.tup [.int p.1,.int p.2])):IsD ED H (.ref o) (frD p):=.tup h (.cons (.int _) (.cons (.int _) .nil))
theorem isF_inv {E:Addr→Prop}{H:Hp}{v:V}{p:KM.Fra} (h:IsD E H v (frD p)):∃o,v=.ref o∧H o=some (.tup [.int p.1,.int p.2]):=by
  cases h with
  | @tup a xs _ h r=>
    cases r with
    | cons h1 r=>
    cases r with
    | cons h2 r=>
    cases r
    cases h1
    cases h2
    exact ⟨a,rfl,h⟩
theorem IsD.tupS {E F:Addr→Prop}{H H':Hp}{v:V}{d:PyData} (h:IsD ED H v d) (k:SameE E H H'):IsD ED H' v d:=h.mono ⟨fun _ _ n _=>absurd trivial n,k.tup⟩
theorem IsAll.tupS {E:Addr→Prop}{H H':Hp}{v:List V}{d:List PyData} (h:IsAll ED H v d) (k:SameE E H H'):IsAll ED H' v d:=h.mono ⟨fun _ _ n _=>absurd trivial n,k.tup⟩
theorem IsD.tupC {H H':Hp}{v:V}{d:PyData}{p:Addr}{xs ys:List V} (h:IsD ED H v d) (k:Ch H p xs H') (hp:H p=some (.lst ys)):IsD ED H' v d:=h.mono ⟨fun _ _ n _=>absurd trivial n,fun _ _ e=>k.tup e hp⟩
theorem IsD.sm {E:Addr→Prop}{H H':Hp}{v:V}{d:PyData} (h:IsD E H v d) (k:Same H H'):IsD E H' v d:=h.mono k.toE
theorem isStrs {H:Hp}:∀ls:List (List Nat),IsAll ED H (ls.map strV) (ls.map fun l=>.str (S l))
  | []=>.nil
  | _ :: r=>.cons (.str _) (isStrs r)
theorem strT_name {l:List Nat} (h:NameC l):strT (S l):=⟨by rw [S_len];have:=h.hi;trivial,fun c hc=>by have:=h.az c hc;trivial⟩
theorem wtL_map {α:Type}{f:α→PyData}{m k:Nat}:∀{xs:List α},(∀x∈xs,Wt (f x) m k)→WtL (xs.map f) (m*xs.length) k
  | [],_=>.nil
  | x :: r,h=>by
    have e:m*(x :: r).length=m+m*r.length:=by rw [List.length_cons,Nat.mul_succ,Nat.add_comm]
    rw [e]
    exact .cons (h x (by simp)) (wtL_map fun y hy=>h y (List.mem_cons_of_mem _ hy))
end L2
namespace L2
open PySem PySem.Spec PyProof.Rows
inductive spFrB_ (c:Nat) (lo:Int) (vs:List V) (H:Hp) (Q:VK):Prop
  | mk (b:Addr) (t:Int) (h0:vs=[.ref b]) (h1:Bx H b t) (h2:0≤t) (h3:t≤900000) (h4:∀o n d t' H',SameE (Eb b) H H'→H' o=some (.tup [.int n,.int d])→Fb c n d→lo≤n→Bx H' b t'→t≤t'→t'≤t+6→Q (.ref o) H')
def spFrB (c:Nat) (lo:Int):Sp:=fun vs H Q _=>spFrB_ c lo vs H Q
theorem low_fb6 {n d:Int} (hn:1≤n) (hn2:n≤60) (hd:1≤d) (hd2:d≤60):Fb 6 (KM.low n d).1 (KM.low n d).2∧1≤(KM.low n d).1:=by
  have a:Sz 6 n:=by show n.natAbs<64;trivial
  have b:Sz 6 d:=by show d.natAbs<64;trivial
  refine ⟨Fb.low a b (by trivial),?_⟩
  have:=(KM.low_sgn (n:=n) (d:=d) (by trivial)).1.mpr (by trivial)
  trivial
theorem ifC {c:Bool}{a b:Int}{σ:St}{H:Hp}{Q:VK} (h:Q (.int (if c=true then a else b)) H):if c=true then tC (.int a) σ H Q else tC (.int b) σ H Q:=by
  cases c with
  | true=>exact iteT h
  | false=>exact iteF h
theorem log9 {m:Int} (h0:0<m) (h1:m<1099511627776):m.natAbs.log2<9000:=by
  have a:Sz 40 m:=by show m.natAbs<1099511627776;trivial
  exact Nat.lt_trans (a.log (by trivial)) (by decide)
end L2
namespace L2
open PySem PySem.Spec PyProof.Rows
theorem step_on {n f r:Int} (h0:0≤f) (h1:f<n) (r0:0≤r) (r1:r<n - 1):0≤(f+1+r) % n∧(f+1+r) % n<n∧(f+1+r) % n≠f:=by
  have hn:0<n:=by trivial
  refine ⟨Int.emod_nonneg _ (by trivial),Int.emod_lt_of_pos _ hn,?_⟩
  by_cases h:f+1+r<n
  · rw [Int.emod_eq_of_lt (by trivial) h];trivial
  · have e:(f+1+r) % n=f+1+r - n:=by
      have h2:(f+1+r) % n=(f+1+r - n) % n:=by rw [Int.sub_emod_right]
      rw [h2,Int.emod_eq_of_lt (by trivial) (by trivial)]
    rw [e];trivial
theorem atI_map {α:Type}{xs:List α}{k:Int}{f:α→V} (h0:0≤k) (h:k.toNat<xs.length):atI (xs.map f) k=some (f xs[k.toNat]):=by
  have q:=atI_nat (xs:=xs.map f) (j:=k.toNat) (v:=f xs[k.toNat]) (by rw [List.getElem?_map];simp [h])
  rwa [Int.toNat_of_nonneg h0] at q
end L2
namespace L2
theorem nodup_inj {α:Type}{ls:List α} (h:ls.Nodup) {i j:Nat} (hi:i<ls.length) (hj:j<ls.length) (e:ls[i]=ls[j]):i=j:=by
  have p:=List.pairwise_iff_getElem.mp h
  rcases Nat.lt_trichotomy i j with q | q | q
  · exact absurd e (p i j hi hj q)
  · exact q
  · exact absurd e.symm (p j i hj hi q)
end L2
namespace L2
open PySem PySem.Spec PyProof.Rows
theorem ifE {c:Bool}{ta tb:TE}{σ:St}{H:Hp}{Q:VK} (I:V→Hp→Prop) (rest:∀v H',I v H'→Q v H') (h1:c=true→(∀v H',I v H'→Q v H')→ta σ H Q) (h2:c=false→(∀v H',I v H'→Q v H')→tb σ H Q) :
    if c=true then ta σ H Q else tb σ H Q:=by
  cases c with
  | true=>exact iteT (h1 rfl rest)
  | false=>exact iteF (h2 rfl rest)
end L2
namespace L2
end L2
namespace L2
open PySem PySem.Spec PyProof.Rows
theorem IsAll.take {E:Addr→Prop}{H:Hp}:∀{xs:List V}{ds:List PyData} (n:Nat),IsAll E H xs ds→IsAll E H (xs.take n) (ds.take n)
  | _,_,0,_=>by simp;exact .nil
  | _,_,_+1,.nil=>by simp;exact .nil
  | _,_,n+1,.cons h r=>by simp;exact .cons h (IsAll.take n r)
end L2
namespace L2
open PySem PySem.Spec PyProof.Rows
open AutoSeq1 (wpAny_loadPart')
set_option maxHeartbeats 4000000 in
theorem enumNewT (l:Addr) (its:Array Value) (n:Nat) (dct:Option Addr) (sl:Array (Option Value)) :
    Meets (Builtin.«enumerate.__new__» ⟨[.type "enumerate",.ref l],[]⟩) (fun _ R s=>s.heap.get? l=some { cls:=.type "tuple",dict:=dct,data:=.seq its n,slots:=sl }∧
      R (.ok (.ret (.ref (s.heap.push { cls:=.type "tuple_iterator",data:=.fields #[.ref l,.int 0 0] }).objs.size))) { s with heap:=(s.heap.push { cls:=.type "tuple_iterator",data:=.fields #[.ref l,.int 0 0] }).push { cls:=.type "enumerate",data:=.fields #[.none,.bool false,.ref s.heap.objs.size,rawInt 0,.none,.none] } }):=
  .of_wp fun prog w A R s h=>by
    obtain ⟨hp,g,d,tk,os⟩:=s;obtain ⟨hl,h⟩:=h;have hsub:=sub_enumerate
    have hT:Heap.IsTuple (Shared.heap ⟨hp,g,d,tk,os⟩) l its:=⟨_,hl,rfl,n,rfl⟩
    wp_walk using wpAny_loadPart' hl
    refine wpAny_stack_any fun st=>wpAny_pure ?_;split
    · rename_i c _ _ _ _ _;cases (c==Value.type "enumerate")
      · wp_walk using wpAny_loadPart' hl,wpAny_pyIter_tuple hT
        exact ⟨_,rfl,h⟩
      · wp_walk using wpAny_loadPart' hl,wpAny_pyIter_tuple hT
        exact ⟨_,rfl,h⟩
    · wp_walk using wpAny_loadPart' hl,wpAny_pyIter_tuple hT
      exact ⟨_,rfl,h⟩
section
variable {prog:Program}{w:World}{A:Around}{E:Value→Shared→Prop}{s:Shared}
theorem call_enumK {l:Addr}{its:Array Value}{Q:Value→Shared→Prop}:∀{c:Bool},SqK s.heap l its c→
    (∀h',IsEnum h' (s.heap.objs.size+1) s.heap.objs.size 0 .none→ItK h' s.heap.objs.size l 0 c→(∀b o,s.heap.get? b=some o→h'.get? b=some o)→Q (.ref (s.heap.objs.size+1)) { s with heap:=h' })→
    wpAny (model prog w) A (call (.type "enumerate") [.ref l]) Q E s
  | true,q,h=>call_enumerate_list q fun h' a b _ k=>h h' a b k
  | false,q,h=>by
    obtain ⟨⟨c,dct,dt,sl⟩,hl,hc,n,hd⟩:=q
    dsimp only at hc hd
    subst hc hd
    refine callType_new F.called_enumerate (by decide) (F.typeCall_enumerate_1 _) (F.newCall_enumerate_1 _) (fun obj=>F.args_object_init_2 obj _) F.entry_enumerate_new (enumNewT l its n dct sl) ⟨hl,?_⟩
    have hz:(s.heap.push { cls:=.type "tuple_iterator",data:=.fields #[.ref l,.int 0 0] }).objs.size=s.heap.objs.size+1:=Heap.size_push ..
    show _∧_
    rw [hz]
    have he:IsEnum ((s.heap.push { cls:=.type "tuple_iterator",data:=.fields #[.ref l,.int 0 0] }).push { cls:=.type "enumerate",data:=.fields #[.none,.bool false,.ref s.heap.objs.size,rawInt 0,.none,.none] }) (s.heap.objs.size+1) s.heap.objs.size 0 .none:=by
      rw [←hz];exact Heap.get?_push_size _ rfl
    exact ⟨⟨_,he,rfl⟩,h _ he ⟨_,Heap.get?_push_of_some _ (Heap.get?_push_size _ rfl),rfl,rfl⟩ fun b o e=>Heap.get?_push_of_some _ (Heap.get?_push_of_some _ e)⟩
end
def IteK (K:PySem.W.Frag) (a:Addr) (c:Bool):It:=
  ⟨fun i H=>Ex2 fun xs x=>SqC K H a xs c∧xs[i]?=some x,fun i H v H'=>Ex2 fun T x=>H T=none∧v=.ref T∧H'=upd H T (.tup [.int (i:Int),x])∧∀xs,SqC K H a xs c→xs[i]?=some x,fun i H=>∃xs,SqC K H a xs c∧xs.length=i⟩
theorem turn_enumK {P:Program}{w:World}{K:PySem.W.Frag}{es:List Expr}{kk:Nat}{pos:Pos} (a e it:Addr) (c:Bool) (hne:e≠it) (hae:a≠e) (hai:a≠it) :
    Turn P w K (.Tuple es kk pos) (IteK K a c) [e,it] e (fun i h=>(∃old,IsEnum h e it i old)∧ItK h it a i c) where
  mem:=by simp
  obj:=fun i h st b hb=>by
    obtain ⟨⟨old,he⟩,hi⟩:=st
    have hb':b=e∨b=it:=by simpa using hb
    rcases hb' with rfl | rfl
    · exact ⟨_,he,fun v z=>by have z':Data.fields _=Data.cell v:=z;cases z'⟩
    · exact hi.some
  keep:=fun i h h' st k=>by
    obtain ⟨⟨old,he⟩,hi⟩:=st
    exact ⟨⟨old,k e (by simp) _ he⟩,hi.at fun o q=>k it (by simp) o q⟩
  item:=by
    intro X hP hw hK hc i pins s σ H E I hf st hg
    subst hP hw hK
    obtain ⟨⟨old,he⟩,hit⟩:=st
    obtain ⟨xs,x,hq,hx⟩:=hg
    obtain ⟨its,rv,p⟩:=I.seqC hq
    obtain ⟨u,hu,ru⟩:=rv.get hx
    have hnT:H s.heap.objs.size=none:=I.fresh
    have hiu:i<its.length:=(List.getElem?_eq_some_iff.mp hu).1
    have D:=drawsK (prog:=X.prog) (w:=X.w) (A:=X.A.in1) (I.ok.hd hc) it a hai its.toArray c
    refine wpAny_pyNext_enum_itemD D he ⟨hit,p⟩ (by simpa using hiu) hne (by simp;exact ⟨hne,Ne.symm hae⟩) fun u' h' tk hP ho st' hT hsz hk=>?_
    have eu:u=u':=by
      have:its.toArray[i]?=some u':=hP
      rw [List.getElem?_toArray,hu] at this
      exact Option.some.inj this
    subst eu
    refine ⟨_,rfl,wpAny_letOwnedTupleGo_enum (s:={ s with heap:=h',toks:=tk+1 }) ho fun h'' he'' hs''=>?_⟩
    have helt:e<s.heap.objs.size:=Heap.lt_size he
    have hilt:it<s.heap.objs.size:=let ⟨_,y,_⟩:=hit.some;Heap.lt_size y
    have hT'':h''.get? s.heap.objs.size=some { cls:=.type "tuple",data:=.seq #[.int i tk,u] }:=(hs''.2 _ (Nat.ne_of_gt helt)).trans hT
    refine ⟨.ref s.heap.objs.size,upd H s.heap.objs.size (.tup [.int (i:Int),x]),I.turnedNew (ch:=[e,it]) (t':=tk+1) hf (fun b o hb q=>?_) (Nat.le_refl _) ?_,rfl,⟨_,x,hnT,rfl,rfl,fun ys hy=>by rw [I.seqC_inj hy hq];exact hx⟩,⟨⟨u,?_⟩,st'.1.at fun o q=>(hs''.2 _ (Ne.symm hne)).trans q⟩,fun b hb=>?_⟩
    · have h1:b≠e:=fun z=>hb (by simp [z])
      have h2:b≠it:=fun z=>hb (by simp [z])
      exact (hs''.2 b h1).trans (hk b o h1 h2 q)
    · exact ⟨by show 2≤sizeLine;decide,[.int i tk,u],.cons ⟨_,rfl⟩ (.cons ru .nil),⟨_,hT'',rfl,_,rfl⟩,_,hT'',rfl⟩
    · simpa using he''
    · have hb':b=e∨b=it:=by simpa using hb
      have hlt:b<s.heap.objs.size:=by rcases hb' with rfl | rfl <;> assumption
      rw [upd_ne (Nat.ne_of_lt hlt)]
      exact (hf b hb).1
  done:=by
    intro X hP hw hK hc i pins s σ H E I hf st hg
    subst hP hw hK
    obtain ⟨⟨old,he⟩,hit⟩:=st
    obtain ⟨xs,hq,hx⟩:=hg
    obtain ⟨its,rv,p⟩:=I.seqC hq
    have hl:=rv.length
    have D:=drawsK (prog:=X.prog) (w:=X.w) (A:=X.A.in1) (I.ok.hd hc) it a hai its.toArray c
    have ei:i=its.toArray.size:=by simp;trivial
    refine wpAny_pyNext_enum_endD D he (by rw [ei] at hit;exact ⟨hit,p⟩) fun h' eb=>⟨rfl,I.turnedL (ch:=[e,it]) (t':=s.toks) hf fun b o hb q=>eb b o (fun z=>hb (by simp [z])) q⟩
  self:=fun _ _ _ _ _ st h=>by
    obtain ⟨⟨old,he⟩,_⟩:=st
    exact wpAny_pyIter_enum he h
def iEnumK (K:PySem.W.Frag) (ta:TA):TI:=fun σ H R=>ta σ H fun vs H1=>Ex2 fun a c=>vs=[.ref a]∧(∃xs,SqC K H1 a xs c)∧R (IteK K a c) H1
theorem pi_enumK {X:Cx}{K:PySem.W.Frag}{es:List Expr}{kk:Nat}{tp:Pos}{a:Expr}{ta:TA}{p pos:Pos} (hg:Gl X "enumerate") (hm:X.mg "enumerate" = none) (ha:PA X [a] ta) (hs:starEach [a] X.env=[(false,eval a X.env)]:=by rfl) (ek:X.K=K:=by rfl) :
    PI X (.Tuple es kk tp) (.Call (.Name "enumerate" p) [a] [] pos) (iEnumK K ta):=by
  subst ek
  intro pins s σ H R I h
  refine Call_ (ld_blt I hg hm boot_enumerate (PyProof.Rows.callWith_type1 (thn (ha pos pins s σ H _ I h) fun us s1 ⟨vs,H1,I1,r1,q1⟩=>?_) hs rfl))
  obtain ⟨a,c,rfl,⟨xs,hq⟩,q⟩:=q1
  obtain ⟨u,rfl,ru⟩:=r1.one
  obtain rfl:u=.ref a:=ru
  obtain ⟨its,rv,p⟩:=I1.seqC hq
  have d1:=p.lt
  refine call_enumK p fun h' hE hI hk=>wpAny_pyIter_enum hE ?_
  have I2:Inv X pins σ H1 { s1 with heap:=h',toks:=s1.toks }:=I1.kept hk
  refine ⟨s1.heap.objs.size+1,[s1.heap.objs.size+1,s1.heap.objs.size],_,_,H1,rfl,I2,turn_enumK a (s1.heap.objs.size+1) s1.heap.objs.size c (Nat.succ_ne_self _) (Nat.ne_of_lt (Nat.lt_succ_of_lt d1)) (Nat.ne_of_lt d1),⟨⟨_,hE⟩,hI⟩,fun b hb=>?_,q⟩
  have hb':b=s1.heap.objs.size+1∨b=s1.heap.objs.size:=by simpa using hb
  have hle:s1.heap.objs.size≤b:=by rcases hb' with rfl | rfl <;> trivial
  exact I1.fpOk hle (I1.hok.fresh hle)
section
variable {X:Cx}
end
end L2
namespace L2
open PySem PySem.Spec PyProof.Rows
end L2
namespace L2
open PySem PySem.Spec PyProof.Rows
theorem IsAll.drop {E:Addr→Prop}{H:Hp}:∀{xs:List V}{ds:List PyData} (n:Nat),IsAll E H xs ds→IsAll E H (xs.drop n) (ds.drop n)
  | _,_,0,h=>by simpa using h
  | _,_,_+1,.nil=>by simp;exact .nil
  | _,_,n+1,.cons h r=>by simp;exact IsAll.drop n r
section
variable {z:Nat}{E:Addr→Prop}{H H':Hp}{n m k:Nat}{v:V}{xs ys:List V}
theorem cutV_drop1:cutV xs (some 1) none=xs.drop 1:=by
  unfold cutV
  rw [HT.sIx_none,show (1:Int)=((1:Nat):Int) from rfl,HT.sIx_nat]
  cases xs with
  | nil=>simp
  | cons x r=>simp
end
section
variable {X:Cx}
end
end L2
namespace HT
open PySem PySem.Spec PyProof.Rows
section
variable {prog:Program}{w:World}{A:Around}{E:Value→Shared→Prop}{s:Shared}
theorem getItem_tuple_whole {t sl:Addr}{items:Array Value}{vl vu:Value}{lo hi:Option Int}{Q:Value→Shared→Prop} (ht:IsTup s.heap t items) (hs:s.heap.IsSliceOf sl vl vu .none) (pl:IsPart vl lo) (pu:IsPart vu hi)
    (h1:sIx items.size 0 lo=0) (h2:sIx items.size items.size hi=items.size) (h:Q (.ref t) s):wpAny (model prog w) A (getItem (.ref t) (.ref sl)) Q E s:=by
  obtain ⟨os,hos,hcs,hds⟩:=id hs
  have hTs:s.TypeIs (.ref sl) "slice" := ⟨os,hos,hcs⟩
  unfold getItem
  try with_reducible refine wpAny_holding ?_
  first | refine wpAny_bind (wpAny_pure ?_) | skip
  refine wpAny_bind (wpAny_sequenceKey ht.typeIs (by decide) ?_)
  refine wpAny_bind (wpAny_callSpecial?_slot (name:=Str.ofString "__getitem__") ht.typeIs PyProof.Rows.slot_tuple_getitem
    (wpAny_call_entry PyProof.Rows.slot_tuple_getitem ht.typeIs entry_tuple_getitem ?_ (args_tuple_getitem _ _)))
  show wpAny _ _ (Builtin.Tuple.tupleItemsOf (.ref t) >>= _) _ _ s
  refine wpAny_bind (tupleItemsOf_ ht ?_)
  refine wpAny_bind (wpAny_typeOf hTs ?_)
  rw [if_pos (by decide)]
  refine wpAny_bind (sliceApplied_gen hs pl pu ?_)
  have hyes:((((sIx items.size 0 lo:Nat):Int)==0 && (1:Int)==1 && (sIx items.size items.size hi - sIx items.size 0 lo)==items.size)=true):=by
    rw [h1,h2];simp
  show wpAny _ _ (if (((sIx items.size 0 lo:Nat):Int)==0 && (1:Int)==1 && (sIx items.size items.size hi - sIx items.size 0 lo)==items.size)=true then _ else _) _ _ s
  rw [if_pos hyes]
  refine wpAny_bind (m:=Builtin.Tuple.tupleIsExact _) (wpAny_bind (wpAny_typeOf ht.typeIs (wpAny_pure ?_)))
  rw [if_pos (by decide)]
  exact wpAny_bind (wpAny_rule (wpAny_pure ⟨_,rfl,wpAny_pure h⟩))
end
end HT
namespace L2
open PySem PySem.Spec PyProof.Rows
section
variable {X:Cx}{K:PySem.W.Frag}
inductive rSlTA_ (K:PySem.W.Frag) (x:V) (lo:Option Int) (hi:Option Int) (H:Hp) (Q:VK):Prop
  | mk (a:_) (xs:_) (h0:x=.ref a) (h1:SqT K H a xs) (h2:H a=some (.tup xs)) (h3:∀p H',Same H H'→H' p=some (.tup (cutV xs lo hi))→Q (.ref p) H')
def rSlTA (K:PySem.W.Frag):V→Option Int→Option Int→Hp→VK→Prop:=fun x lo hi H Q=>rSlTA_ K x lo hi H Q
theorem sl_tupA (e:X.K=K:=by rfl):SlR X (rSlTA K):=by
  subst e
  intro pins s σ H x v vl vu lo hi sl Q I rx hs pl pu h
  obtain ⟨a,xs,rfl,hx,ha,q⟩:=h
  by_cases hw:HT.sIx xs.length 0 lo=0∧HT.sIx xs.length xs.length hi=xs.length
  · cases rx
    obtain ⟨its,r,ht,hz⟩:=I.tuple hx
    have hlen:its.toArray.size=xs.length:=by rw [List.size_toArray];exact r.length.symm
    refine ⟨"tuple",_,PyProof.Rows.slot_tuple_getitem.lookup,ht.typeIs,?_⟩
    refine HT.getItem_tuple_whole ht hs pl pu (by rw [hlen];exact hw.1) (by rw [hlen];exact hw.2) ⟨.ref a,H,I,rfl,q a H (Same.refl _) ?_⟩
    have:cutV xs lo hi=xs:=by
      unfold cutV
      rw [hw.1,hw.2,List.drop_zero,Nat.sub_zero,List.take_length]
    rw [this];exact ha
  · exact sl_tup pins s σ H _ v vl vu lo hi sl Q I rx hs pl pu ⟨a,xs,rfl,hx,hw,fun p hp=>q p _ (Same.new hp) upd_same⟩
end
end L2
namespace L2
open PySem PySem.Spec PyProof.Rows
theorem snocInd {α:Type}{p:List α→Prop} (h0:p []) (h1:∀l a,p l→p (l++[a])) (l:List α):p l:=by
  have:∀r:List α,p r.reverse:=fun r=>by
    induction r with
    | nil=>exact h0
    | cons a r ih=>rw [List.reverse_cons];exact h1 _ _ ih
  have h:=this l.reverse
  rwa [List.reverse_reverse] at h
def once (ks:List Key):List Key:=ks.foldl (fun σ k=>if σ.any (fun x=>decide (x=k)) then σ else σ++[k]) []
theorem once_snoc (ks:List Key) (k:Key):once (ks++[k])=if (once ks).any (fun x=>decide (x=k)) then once ks else once ks++[k]:=by
  unfold once
  rw [List.foldl_append]
  rfl
theorem once_len:∀(ks:List Key),(once ks).length≤ks.length:=by
  intro ks
  induction ks using snocInd with
  | h0=>exact Nat.le_refl _
  | h1 ks k ih=>
    rw [once_snoc,List.length_append]
    split
    · simp;trivial
    · rw [List.length_append];simp;trivial
theorem once_mem (ks:List Key):∀j,j∈once ks↔j∈ks:=by
  induction ks using snocInd with
  | h0=>exact fun j=>Iff.rfl
  | h1 ks k ih=>
    intro j
    rw [once_snoc,List.mem_append,List.mem_singleton]
    split
    · rename_i h
      rw [ih]
      constructor
      · exact .inl
      · rintro (z | z)
        · exact z
        · obtain ⟨x,hx,e⟩:=List.any_eq_true.mp h
          rw [z,←ih,←of_decide_eq_true e];exact hx
    · rw [List.mem_append,List.mem_singleton,ih]
theorem once_nodup (ks:List Key):(once ks).length=ks.length↔ks.Nodup:=by
  induction ks using snocInd with
  | h0=>exact ⟨fun _=>List.nodup_nil,fun _=>rfl⟩
  | h1 ks k ih=>
    rw [once_snoc,List.length_append,List.nodup_append]
    have ol:=once_len ks
    by_cases h:(once ks).any (fun x=>decide (x=k))=true
    · rw [if_pos h]
      obtain ⟨x,hx,e⟩:=List.any_eq_true.mp h
      have hk:k∈ks:=by rw [←of_decide_eq_true e];exact (once_mem ks x).mp hx
      constructor
      · intro z;simp at z;trivial
      · intro z;exact absurd rfl (z.2.2 k hk k (by simp))
    · rw [if_neg h,List.length_append]
      have hk:k∉ks:=fun z=>h (List.any_eq_true.mpr ⟨k,(once_mem ks k).mpr z,by simp⟩)
      constructor
      · intro z
        refine ⟨ih.mp (by simpa using z),by simp,fun a ha b hb e=>?_⟩
        rw [List.mem_singleton] at hb
        rw [←hb,←e] at hk
        exact hk ha
      · intro z
        rw [ih.mpr z.1]
def keyV:Key→V
  | .inl i=>.int i
  | .inr x=>.str x
theorem keyV_is {k:Key}{u:Value} (h:RelV (keyV k) u):keyIs k u=true∧u.scannable=true:=by
  cases k with
  | inl i=>obtain ⟨t,rfl⟩:=h;exact ⟨keyIs_int i t,rfl⟩
  | inr x=>obtain ⟨t,rfl⟩:=h;exact ⟨keyIs_str x t,rfl⟩
section
variable {prog:Program}{w:World}{A:Around}{R:Result→Shared→Prop}{it:Addr}{fp wr:List Addr}{G:Array GenState→Array GenState→Prop}{P:Nat→Value→Prop}{St:Nat→Shared→Prop}
abbrev IsSetK (prog:Program) (w:World) (h:Heap) (a:Addr) (ks:List Key):Prop:=h.SetOf (mixKind prog w) a (fun j=>(once ks).any (fun x=>decide (x=j))) (once ks).length
theorem isSetK_but {h h':Heap}{a:Addr}{ks:List Key} (H:IsSetK prog w h a ks) (k:∀o,h.get? a=some o→h'.get? a=some o):IsSetK prog w h' a ks:=
  let ⟨o,es,ep,t,ho,r⟩:=H
  ⟨o,es,ep,t,k o ho,r⟩
theorem setK_eq {h:Heap}{a:Addr}{f g:Key→Bool}{n m:Nat} (H:h.SetOf (mixKind prog w) a f n) (e:∀k,f k=g k) (en:n=m):h.SetOf (mixKind prog w) a g m:=by
  cases en
  cases (funext e:f=g)
  exact H
theorem fill_set {ks:List Key} (W:WalksS prog w A.in1 it fp wr G ks.length P St) {a:Addr} (ha:a∉fp) (hv:∀i v,P i v→∀k,ks[i]?=some k→keyIs k v=true∧v.scannable=true) (hb:ks.length+1<scanBound) :
    ∀(r i:Nat) (s:Shared),ks.length - i=r→i≤ks.length→St i s→IsSetK prog w s.heap a (ks.take i)→
      (∀s',Moved (a :: wr) G s s'→IsSetK prog w s'.heap a ks→R (.ok (.ret .none)) s')→codeAny (model prog w) A (.builtin "set.update.loop" ⟨[.ref a,.ref it],[]⟩) R s:=by
  have nw:a∉wr:=fun z=>ha (W.sub _ z)
  have up:∀b∈wr,b∈a :: wr:=fun b z=>List.mem_cons_of_mem _ z
  intro r
  induction r with
  | zero=>
    intro i s hr hi st hS hR
    have e:i=ks.length:=by trivial
    rw [e] at st hS
    rw [List.take_length] at hS
    refine codeAny_builtin F.entry_set_update_loop ?_
    rw [A.under_plainId F.plain_set_update_loop]
    show wpAny _ _ (pyNext (Value.ref it) >>= _) _ _ _
    refine wpAny_bind (W.done s _ _ st fun s' m=>?_)
    show wpAny _ _ (ret .none) _ _ _
    exact wpAny_pure (hR s' (m.mono up) (isSetK_but hS fun o ho=>m.heap a o nw ho))
  | succ r ih=>
    intro i s hr hi st hS hR
    have lt:i<ks.length:=by trivial
    refine codeAny_builtin F.entry_set_update_loop ?_
    rw [A.under_plainId F.plain_set_update_loop]
    show wpAny _ _ (pyNext (Value.ref it) >>= _) _ _ _
    refine wpAny_bind (W.item i s _ _ lt st fun v s' pv st' m=>?_)
    obtain ⟨kv,sv⟩:=hv i v pv ks[i] (List.getElem?_eq_getElem lt)
    have hS':IsSetK prog w s'.heap a (ks.take i):=isSetK_but hS fun o ho=>m.heap a o nw ho
    have l1:(once (ks.take i)).length+1<scanBound:=by
      have:=once_len (ks.take i)
      rw [List.length_take] at this
      trivial
    show wpAny _ _ (holding [v] (setAdd a v) >>= _) _ _ _
    refine wpAny_bind (wpAny_holding ?_)
    unfold setAdd
    refine wpAny_holding (wpAny_bind ((mixKind prog w).pyHash (k:=ks[i]) kv (wpAny_setAddHashed_of (knd:=mixKind prog w) (s:={ s' with toks:=s'.toks+1 }) kv sv hS' l1 fun h2 sb hS2=>?_)))
    have nx:IsSetK prog w h2 a (ks.take (i+1)):=by
      rw [List.take_succ_eq_append_getElem lt]
      refine setK_eq hS2 (fun j=>?_) ?_
      · rw [once_snoc]
        split
        · rename_i z
          by_cases q:j=ks[i]
          · subst q;rw [z];rfl
          · rw [decide_eq_false q,Bool.or_false]
        · rw [List.any_append]
          congr 1
          rw [List.any_cons,List.any_nil,Bool.or_false]
          by_cases q:j=ks[i]
          · rw [decide_eq_true q,decide_eq_true q.symm]
          · rw [decide_eq_false q,decide_eq_false (Ne.symm q)]
      · rw [once_snoc]
        split
        · rfl
        · rw [List.length_append];rfl
    refine wpAny_pure ⟨plainId_quiet F.plain_set_update_loop _,ih (i+1) _ (by trivial) lt (W.frame _ s' _ _ st' (Nat.le_succ _) fun b z o e=>?_) nx fun s2 m2 hS3=>?_⟩
    · rw [sb.2 b (fun q=>ha (q▸z))];exact e
    · refine hR s2 (.trans W.gtrans ((m.mono up).then_heap (Nat.le_succ _) fun b o z e=>?_) m2) hS3
      rw [sb.2 b (fun q=>z (q▸List.mem_cons_self))];exact e
end
theorem sub_tup_set:isSubtype (.type "tuple") (.type "set")=pure false:=by
  rw [isSubtype_type]
  kernel_rfl
theorem sub_tup_fset:isSubtype (.type "tuple") (.type "frozenset")=pure false:=by
  rw [isSubtype_type]
  kernel_rfl
section
variable {prog:Program}{w:World}{A:Around}{E:Value→Shared→Prop}{s:Shared}
abbrev set0 (led:Bool):Obj:={ cls:=.type "set",dict:=none,data:=.set #[] 0 (.fresh 0 0 led) }
theorem isSetK_0 {h:Heap}{a:Addr}{led:Bool} (e:h.get? a=some (set0 led)):IsSetK prog w h a []:=
  ⟨_,#[],0,_,e,⟨rfl,rfl,rfl⟩,rfl,fun x hx=>(by simp at hx),fun k=>(by simp [once]),by decide,by rfl,rfl⟩
set_option maxHeartbeats 4000000 in
theorem init_setK {l:Addr}{vs:List Value}{ks:List Key}{led:Bool}{c:Bool} (hh:A.handled=none) (hl:if c=true then s.heap.IsList l vs.toArray else s.heap.IsTuple l vs.toArray) (hn:vs.length=ks.length)
    (hk:∀(i:Nat) v,vs[i]?=some v→∀k,ks[i]?=some k→keyIs k v=true∧v.scannable=true) (hb:ks.length+1<scanBound) {R:Fin→Shared→Prop}
    (h:∀h' tk,IsSetK prog w h' s.heap.objs.size ks→(∀b o,b<s.heap.objs.size→s.heap.get? b=some o→h'.get? b=some o)→R (.done (.ret .none)) { s with heap:=h',toks:=tk }) :
    wpAny (model prog w) A (Builtin.«set.__init__» ⟨[.ref s.heap.objs.size,.ref l],[]⟩) R E { s with heap:=s.heap.push (set0 led) }:=by
  have hS:(s.heap.push (set0 led)).get? s.heap.objs.size=some (set0 led):=Heap.get?_push_size _ rfl
  have hT:Shared.TypeIs { s with heap:=s.heap.push (set0 led) } (.ref s.heap.objs.size) "set" := ⟨_,hS,rfl⟩
  have vget:∀(i:Nat) v,vs.toArray[i]?=some v→∀k,ks[i]?=some k→keyIs k v=true∧v.scannable=true:=fun i v e=>hk i v (by simpa using e)
  have sz:vs.toArray.size=ks.length:=by rw [List.size_toArray];exact hn
  have hS2:∀o:Obj,((s.heap.push (set0 led)).push o).get? s.heap.objs.size=some (set0 led):=fun o=>Heap.get?_push_of_some _ hS
  have lS:∀{x:Obj},s.heap.get? l=some x→l<s.heap.objs.size:=fun e=>Heap.lt_size e
  have neI:s.heap.objs.size≠(s.heap.push (set0 led)).objs.size:=by rw [Heap.size_push];trivial
  have fin:∀(s':Shared) (o:Obj),Moved (s.heap.objs.size :: [(s.heap.push (set0 led)).objs.size]) (fun a b=>b=a) { s with heap:=(s.heap.push (set0 led)).push o } s'→IsSetK prog w s'.heap s.heap.objs.size ks→R (.done (.ret .none)) s':=fun s' o m q=>by
    obtain ⟨h',g',d',tk',os'⟩:=s'
    cases (show g'=s.gens from m.gens)
    cases (show d'=s.drawn from m.drawn)
    cases (show os'=s.os from m.os)
    refine h h' tk' q fun b o hb e=>m.heap b o (fun z=>?_) (Heap.get?_push_of_some _ (Heap.get?_push_of_some _ e))
    rw [Heap.size_push] at z
    have z':b=s.heap.objs.size∨b=s.heap.objs.size+1:=by simpa using z
    have hb':(b:Nat)<s.heap.objs.size:=hb
    rcases z' with z' | z'
    · exact absurd z' (Nat.ne_of_lt hb')
    · exact absurd z' (Nat.ne_of_lt (Nat.lt_succ_of_lt hb'))
  cases c with
  | true=>
    have hl':s.heap.IsList l vs.toArray:=hl
    obtain ⟨⟨oc,od,oo,os⟩,e1,rfl,n,rfl⟩:=hl'
    have e2:(s.heap.push (set0 led)).get? l=some ⟨.type "list",od,.seq vs.toArray n,os⟩:=Heap.get?_push_of_some _ e1
    have q1:=PySem.F.sub_list_set
    have q2:=PySem.F.sub_list_frozenset
    have q3:(Value.type "list" == Value.type "dict")=false:=by decide
    have l1:(s.heap.push (set0 led)).IsList l vs.toArray:=⟨_,e2,rfl,n,rfl⟩
    unfold Builtin.«set.__init__» noKeywords Builtin.Frozenset.updateFrom
    generalize hPI:pyIter=PI
    wp_walk
    subst hPI
    have ll:=lS e1
    refine wpAny_pyIter_list l1 (wpAny_bind (wpAny_runValue ?_))
    have ne1:l≠(s.heap.push (set0 led)).objs.size:=by rw [Heap.size_push];exact Nat.ne_of_lt (Nat.lt_succ_of_lt ll)
    refine fill_set (a:=s.heap.objs.size) (ks:=ks) (sz▸(Walks.list (by simpa using hh) _ l ne1 vs.toArray).toS) ?_ vget hb (ks.length - 0) 0 _ rfl (Nat.zero_le _) ⟨⟨_,Heap.get?_push_size _ rfl,rfl,rfl⟩,l1.push _⟩ (isSetK_0 (hS2 _)) fun s' m q=>?_
    · intro z
      have z':s.heap.objs.size=(s.heap.push (set0 led)).objs.size∨s.heap.objs.size=l:=by simpa using z
      rcases z' with z' | z'
      · exact neI z'
      · exact absurd z' (Nat.ne_of_gt ll)
    · exact wpAny_pure (wpAny_pure (fin s' _ m q))
  | false=>
    have hl':s.heap.IsTuple l vs.toArray:=hl
    obtain ⟨⟨oc,od,oo,os⟩,e1,rfl,n,rfl⟩:=hl'
    have e2:(s.heap.push (set0 led)).get? l=some ⟨.type "tuple",od,.seq vs.toArray n,os⟩:=Heap.get?_push_of_some _ e1
    have q1:=sub_tup_set
    have q2:=sub_tup_fset
    have q3:(Value.type "tuple" == Value.type "dict")=false:=by decide
    have l1:(s.heap.push (set0 led)).IsTuple l vs.toArray:=⟨_,e2,rfl,n,rfl⟩
    unfold Builtin.«set.__init__» noKeywords Builtin.Frozenset.updateFrom
    generalize hPI:pyIter=PI
    wp_walk
    subst hPI
    have ll:=lS e1
    refine wpAny_pyIter_tuple l1 (wpAny_bind (wpAny_runValue ?_))
    have ne1:l≠(s.heap.push (set0 led)).objs.size:=by rw [Heap.size_push];exact Nat.ne_of_lt (Nat.lt_succ_of_lt ll)
    refine fill_set (a:=s.heap.objs.size) (ks:=ks) (sz▸(Walks.tuple (by simpa using hh) _ l ne1 vs.toArray).toS) ?_ vget hb (ks.length - 0) 0 _ rfl (Nat.zero_le _) ⟨⟨_,Heap.get?_push_size _ rfl,rfl,rfl⟩,l1.at fun o e=>Heap.get?_push_of_some _ e⟩ (isSetK_0 (hS2 _)) fun s' m q=>?_
    · intro z
      have z':s.heap.objs.size=(s.heap.push (set0 led)).objs.size∨s.heap.objs.size=l:=by simpa using z
      rcases z' with z' | z'
      · exact neI z'
      · exact absurd z' (Nat.ne_of_gt ll)
    · exact wpAny_pure (wpAny_pure (fin s' _ m q))
set_option maxHeartbeats 4000000 in
theorem call_setK {l:Addr}{vs:List Value}{ks:List Key}{c:Bool}{Q:Value→Shared→Prop} (hh:A.handled=none) (hl:if c=true then s.heap.IsList l vs.toArray else s.heap.IsTuple l vs.toArray) (hn:vs.length=ks.length)
    (hk:∀(i:Nat) v,vs[i]?=some v→∀k,ks[i]?=some k→keyIs k v=true∧v.scannable=true) (hb:ks.length+1<scanBound)
    (h:∀h' tk,IsSetK prog w h' s.heap.objs.size ks→(∀b o,b<s.heap.objs.size→s.heap.get? b=some o→h'.get? b=some o)→Q (.ref s.heap.objs.size) { s with heap:=h',toks:=tk }) :
    wpAny (model prog w) A (call (.type "set") [.ref l]) Q E s:=by
  have T:=PySem.F.called_set
  obtain ⟨_,_,t0⟩:=T.mro
  have t1:=T.notType
  have t2:=T.canCreate
  have t3:=T.made
  have t4:=T.sub
  have t5:=PySem.F.typeCall_set_1 (.ref l)
  refine wpAny_call (codeAny_of_tree ?_)
  show wpAny _ _ (callAny (Value.type "set") _) _ _ s
  refine wpAny_pure ⟨Code.quiet_builtin _ (by decide +kernel),codeAny_builtin PySem.F.entry_type_call ?_⟩
  rw [A.under_plain (weight_type_call_type "set" [Value.ref l] []) rfl]
  repeat (any_goals first | assumption | wp_step)
  refine codeAny_mono (code_set_new_1 (.ref l) (E:=E) (Q₁:=fun v s1=>∃led,v=.ref s.heap.objs.size∧s1={ s with heap:=s.heap.push (set0 led) }) fun led=>⟨led,rfl,rfl⟩) fun r s1 hr=>?_
  cases r with
  | error e=>exact hr
  | ok f=>
    cases f with
    | ret v=>
      obtain ⟨led,rfl,rfl⟩:=hr
      have hT:Shared.TypeIs { s with heap:=s.heap.push (set0 led) } (.ref s.heap.objs.size) "set" := ⟨_,Heap.get?_push_size _ rfl,rfl⟩
      have t6:=T.init.lookup
      have t7:=T.init.bind (.ref s.heap.objs.size)
      repeat (any_goals first | assumption | wp_step)
      refine codeAny_mono (codeAny_call_builtin (R:=wants (fun v s2=>v=.none∧Ex2 fun h' tk=>s2={ s with heap:=h',toks:=tk }∧IsSetK prog w h' s.heap.objs.size ks∧∀b o,b<s.heap.objs.size→s.heap.get? b=some o→h'.get? b=some o) E) T.init.plain PySem.F.entry_set_init (check_set_init_1 hT ?_)) fun r2 s2 hr2=>?_
      · exact init_setK (by simpa using hh) hl hn hk hb fun h' tk q kp=>⟨rfl,h',tk,rfl,q,kp⟩
      · cases r2 with
        | error e=>exact hr2
        | ok f=>
          cases f with
          | ret v=>
            obtain ⟨rfl,h',tk,rfl,q,kp⟩:=hr2
            repeat (any_goals first | assumption | wp_step)
            exact h _ _ q kp
          | _=>exact hr2.elim
    | _=>exact hr.elim
end
theorem boot_ty_set:bootBuiltins "set" = some (.type "set"):=by decide +kernel
def rSetLen (K:PySem.W.Frag) (x:V) (H:Hp) (Q:VK):Prop:=Ex2 fun a ks=>x=.ref a∧(SqL K H a (ks.map keyV)∨SqT K H a (ks.map keyV))∧ks.length≤4000∧Q (.int ((once ks).length:Nat)) H
def tSetLen (K:PySem.W.Frag) (te:TE):TE:=fun σ H Q=>te σ H fun x H1=>rSetLen K x H1 Q
section
variable {X:Cx}{K:PySem.W.Frag}{e:Expr}{te:TE}{p1 p2 p3 p4:Pos}
theorem vals_keys:∀{ks:List Key}{us:List Value},Vals (ks.map keyV) us→us.length=ks.length∧∀(i:Nat) v,us[i]?=some v→∀k,ks[i]?=some k→keyIs k v=true∧v.scannable=true
  | [],_,.nil=>⟨rfl,fun i v e=>by simp at e⟩
  | k :: r,_,.cons h t=>by
    obtain ⟨a,b⟩:=vals_keys (ks:=r) t
    refine ⟨by simp [a],fun i v e j f=>?_⟩
    cases i with
    | zero=>
      simp at e f
      subst e f
      exact keyV_is h
    | succ i=>exact b i v (by simpa using e) j (by simpa using f)
theorem len_setK {A:Around}{E:Value→Shared→Prop}{s:Shared}{prog:Program}{w:World}{a:Addr}{ks:List Key}{Q:Value→Shared→Prop} (H:IsSetK prog w s.heap a ks) (hb:ks.length≤4000) (h:Q (.int ((once ks).length:Nat) (s.toks+1)) { s with toks:=s.toks+1+1 }) :
    wpAny (model prog w) A (call (.builtin "len") [.ref a]) Q E s:=by
  obtain ⟨o,es,ep,t,ho,hx,hd,_,_,hlt,hf,hn⟩:=H
  have:=once_len ks
  refine PySem.call_len_set ho hx hd hf (by trivial) ?_
  rw [hn];exact h
theorem pe_setLen (he:PE X e te) (hc:X.calm=true) (hg1:Gl X "len") (hm1:X.mg "len" = none) (hg2:Gl X "set") (hm2:X.mg "set" = none) (ek:X.K=K:=by rfl) (hs:notStar e=true:=by rfl) :
    PE X (.Call (.Name "len" p1) [.Call (.Name "set" p2) [e] [] p3] [] p4) (tSetLen K te):=by
  subst ek
  intro pins s σ H Q I h
  refine wpAny_Call_Name_kw (ld_blt I hg1 hm1 boot_b_len ?_ (by decide) (by decide))
  refine PyProof.Rows.callWith_builtin1 ?_ (star_cons rfl) rfl
  refine Calls.spliced_cons ?_
  refine wpAny_Call_Name_kw (ld_blt I hg2 hm2 boot_ty_set ?_ (by decide) (by decide))
  refine PyProof.Rows.callWith_type1 ?_ (star_cons hs) rfl
  refine thn (pa_c he pa_nil hs p3 pins s σ H (fun xs H1=>match xs with | [x]=>rSetLen X.K x H1 Q | _=>False) I h) fun us s1 ⟨vs,H1,I1,r1,q1⟩=>?_
  match vs,r1,q1 with
  | [x],r1,q1=>
  obtain ⟨u,rfl,ru⟩:=vals1 r1
  obtain ⟨a,ks,rfl,hq,hz,q⟩:=q1
  cases ru
  have go:∀(its:List Value) (c:Bool),Vals (ks.map keyV) its→(if c=true then s1.heap.IsList a its.toArray else s1.heap.IsTuple a its.toArray)→wpAny (model X.prog X.w) X.A (call (.type "set") [.ref a]) (fun v s2=>wpAny (model X.prog X.w) X.A (call (.builtin "len") [v]) (EP X pins σ Q) X.xe s2) X.xe s1:=fun its c rv hl=>by
    obtain ⟨z1,z2⟩:=vals_keys rv
    refine call_setK (I1.ok.hd hc) hl z1 z2 (by show ks.length+1<4096;trivial) fun h' tk S kp=>?_
    have I2:Inv X pins σ H1 { s1 with heap:=h',toks:=tk }:=I1.kept fun b o e=>kp b o (Heap.lt_size e) e
    exact len_setK (s:={ s1 with heap:=h',toks:=tk }) S hz ⟨.int _,H1,I2.tok _,⟨_,rfl⟩,q⟩
  have fin:=fun (v:Value) (s2:Shared) (z:wpAny (model X.prog X.w) X.A (call (.builtin "len") [v]) (EP X pins σ Q) X.xe s2)=>(Calls.spliced_nil z:wpAny (model X.prog X.w) X.A (spliced []) (fun vs s3=>wpAny (model X.prog X.w) X.A (call (.builtin "len") (v :: vs)) (EP X pins σ Q) X.xe s3) X.xe s2)
  rcases hq with hq | hq
  · obtain ⟨its,rv,p,_⟩:=I1.list hq
    exact thn (go its true rv p.isList) fun v s2 z=>fin v s2 z
  · obtain ⟨its,rv,p,_⟩:=I1.tuple hq
    exact thn (go its false rv p) fun v s2 z=>fin v s2 z
end
end L2
namespace L2
open PySem PySem.Spec PyProof.Rows
section
variable {X:Cx}{K:PySem.W.Frag}{o e:Expr}{es:List Expr}{to:TE}{t:TA}{name:Str}{apos cpos:Pos}{T id:String}{r:V→List V→Hp→VK→Prop}
theorem pe_bm_k (pa:PlainAttrs T) (slot:Slot T name id) (hty:typeOf (.builtin id)=pure (.type "method_descriptor")) (hm:MtR X id r) (ho:PE X o to) (ha:PA X (e :: es) t) (ek:X.K=K:=by rfl)
    (h1:attributeBase o name X.env (eval o X.env)=eval o X.env:=by rfl)
    (h2:((backTo cpos (starEach (e :: es) X.env)).all (fun x=>!x.1) && (backToKw cpos (keywordEach [] X.env)).all (fun x=>x.1.isSome) && decide ((e :: es).length+([]:List Keyword).length+(if ([]:List Keyword).isEmpty then 0 else 1)<30))=true:=by rfl)
    (h3:(apos.endLine==cpos.line)=true:=by rfl) (h4:starEach (e :: es) X.env=(false,eval e X.env) :: starEach es X.env:=by rfl) (h5:(backTo cpos (starEach es X.env)).any (·.1)=false:=by rfl) :
    PE X (.Call (.Attribute o name apos) (e :: es) [] cpos) (tBM K T r to t):=by
  subst ek
  exact pe_bm pa slot hty hm ho ha h1 h2 h3 h4 h5
end
end L2
namespace L2
theorem seqH {t u:TS}{D:Ends}{σ:St}{H:Hp} (h:∀D':Ends,(∀σ' H',u D σ' H'→D'.nx σ' H')→t D' σ H):tSeq t u D σ H:=h { D with nx:=u D } fun _ _ z=>z
theorem seqR {t u:TS}{D:Ends}{σ:St}{H:Hp} (h:∀D':Ends,(∀σ' H',u D σ' H'→D'.nx σ' H')→(∀v H',D.rt v H'→D'.rt v H')→t D' σ H):tSeq t u D σ H:=h { D with nx:=u D } (fun _ _ z=>z) fun _ _ z=>z
theorem bodyH {t:TS}{D:Ends}{σ:St}{H:Hp} (h:∀D':Ends,(∀σ' H',D.nx σ' H'→D'.nx σ' H')→t D' σ H):t D σ H:=h D fun _ _ z=>z
theorem bodyR {t:TS}{D:Ends}{σ:St}{H:Hp} (h:∀D':Ends,(∀σ' H',D.nx σ' H'→D'.nx σ' H')→(∀v H',D.rt v H'→D'.rt v H')→t D' σ H):t D σ H:=h D (fun _ _ z=>z) fun _ _ z=>z
end L2
namespace L2
open PySem PySem.Spec PyProof.Rows
section
variable {X:Cx}
end
end L2
namespace L2
open PySem PySem.Spec PyProof.Rows
section
variable {K:PySem.W.Frag}{a a1 a2 D:Addr}{H1:Hp}{σc:St}{g:TG}{te:TE}{tt:TT}{Q:VK}{xs ys:List V}
theorem map_range_snoc {α:Type} (f:Nat→α) (i:Nat):(List.range i).map f++[f i]=(List.range (i+1)).map f:=by
  rw [List.range_succ,List.map_append];rfl
theorem map_range_get {α β:Type} (f:Nat→β) (h:α→β) (l:List α) (e:∀(i:Nat) (x:α),l[i]?=some x→f i=h x):(List.range l.length).map f=l.map h:=by
  apply List.ext_getElem?
  intro i
  rw [List.getElem?_map,List.getElem?_map]
  by_cases hi:i<l.length
  · rw [List.getElem?_range hi,List.getElem?_eq_getElem hi]
    show some (f i)=some (h l[i])
    rw [e i l[i] (List.getElem?_eq_getElem hi)]
  · rw [List.getElem?_eq_none (by simp;trivial),List.getElem?_eq_none (by trivial)];rfl
theorem comp_mapJ {J:It}{n:Nat} (f:Nat→V) (hz:n≤10000) (hD:H1 D=none) (hgo:∀i H',i<n→Same H1 H'→J.go i H') (hst:∀H',Same H1 H'→J.stop n H')
    (hs:∀i x H' H'' (R:VK),i<n→Same H1 H'→J.yld i H' x H''→(∀H4,Same H' H4→R (f i) H4)→g x σc H'' fun σ2 H2=>Back σc σ2∧te σ2 H2 R)
    (hd:∀H',Same H1 H'→H' D=some (.lst ((List.range n).map f))→Q (.ref D) H'):CompW J σc g tT te D H1 Q:=by
  refine comp_each (n:=n) (fun i H' zs=>zs=(List.range i).map f∧H' D=some (.lst zs)∧Same H1 H') (sz_of hz) ⟨rfl,upd_same,same_lst hD (Same.refl _)⟩ ?_ ?_ ?_ ?_ ?_
  · rintro i H' zs ⟨rfl,q,_⟩
    exact ⟨q,by simp⟩
  · rintro i H' zs hi ⟨_,_,sm⟩
    exact hgo i H' hi sm
  · rintro H' zs ⟨_,_,sm⟩
    exact hst H' sm
  · rintro i H' zs x H'' hi ⟨rfl,q,sm⟩ y
    exact hs i x H' H'' _ hi sm y fun H4 s4=>⟨s4 _ _ q,map_range_snoc f i,upd_same,same_lst hD (sm.trans s4)⟩
  · rintro H' zs ⟨rfl,q,sm⟩
    exact hd H' sm q
theorem comp_mapL (f:Nat→V) (hz:xs.length≤10000) (hD:H1 D=none) (ha:H1 a=some (.lst xs))
    (hs:∀i x H' (R:VK),xs[i]?=some x→Same H1 H'→(∀H4,Same H' H4→R (f i) H4)→g x σc H' fun σ2 H2=>Back σc σ2∧te σ2 H2 R)
    (hd:∀H',Same H1 H'→H' D=some (.lst ((List.range xs.length).map f))→Q (.ref D) H'):CompW (Itl K a) σc g tT te D H1 Q:=by
  refine comp_mapJ (n:=xs.length) f hz hD (fun i H' hi sm=>⟨xs,xs[i],SqL.of (sm _ _ ha),by simp [hi]⟩) (fun H' sm=>⟨xs,SqL.of (sm _ _ ha),Nat.le_refl _⟩) ?_ hd
  rintro i x H' H'' R hi sm ⟨rfl,ex⟩ k
  exact hs i x H'' R (ex _ (SqL.of (sm _ _ ha))) sm k
end
end L2
namespace L2
theorem joinS {t u:TS}{D:Ends}{σ:St}{H:Hp} (I:St→Hp→Prop) (rest:∀σ' H',I σ' H'→u D σ' H') (h:(∀σ' H',I σ' H'→u D σ' H')→t { D with nx:=u D } σ H):tSeq t u D σ H:=h rest
end L2
namespace L2
open PySem PySem.Spec PyProof.Rows
section
variable {X:Cx}{tg:Expr}
end
end L2
namespace L2
open PySem PySem.Spec PyProof.Rows
section
variable {X:Cx}{K:PySem.W.Frag}{o e:Expr}{es:List Expr}{to:TE}{t:TA}{name:Str}{apos cpos:Pos}{id:String}{r:V→List V→Hp→VK→Prop}
end
end L2
namespace L2
open PySem PyProof.Rows
section
variable {X:Cx}{elt tg iter:Expr}{ifs:List Expr}{scope:Scope}{pos:Pos}{N':List Str}{L:Nat}{src:List Nat}{wi:TI}{g:TG}{tt:TT}{te:TE}
end
end L2
namespace HT
open PySem PySem.Spec PyProof.Rows
section
variable {prog:Program}{w:World}{A:Around}{E:Value→Shared→Prop}{s:Shared}
end
end HT
namespace L2
open PySem PySem.Spec PyProof.Rows
section
variable {X:Cx}{K:PySem.W.Frag}
end
section
variable {X:Cx}{e:Expr}{te:TE}{st:Expr}{ts:TO}{p2 pos:Pos}
end
end L2
namespace L2
open PySem PySem.Spec PyProof.Rows
end L2
namespace L2
open PySem PySem.Spec PyProof.Rows
section
variable {H H' H'':Hp}{z n k m:Nat}{v:V}{E:Addr→Prop}{b th th' p:Addr}{xs ys zs:List V}
end
section
variable {E:Addr→Prop}{z:Nat}{H0:Hp}{σ:St}{n k m:Nat}{te tb:TE}{ta:TA}{v:V}{i:Nat}{p:Addr}{xs:List V}{K:PySem.W.Frag}
end
section
variable {b th:Addr}{H0:Hp}{σ:St}{zs:List V}{ta:TA}{te:TE}{n i:Nat}{Q:VK}{K:PySem.W.Frag}
end
end L2
namespace L2
open PySem PySem.Spec PyProof.Rows
theorem seqA {te:TE}{i:Nat}{u:TS}{D:Ends}{σ:St}{H:Hp} (h:∀Q:VK,(∀v H',u D (σ.set i (some v)) H'→Q v H')→te σ H Q):tSeq (tAsg te (gName i)) u D σ H:=h _ fun _ _ z=>z
theorem seqP {ta:TA}{i j:Nat}{u:TS}{D:Ends}{σ:St}{H:Hp} (h:∀Q:List V→Hp→Prop,(∀v w H',u D ((σ.set i (some v)).set j (some w)) H'→Q [v,w] H')→ta σ H Q):tSeq (tPar i j ta) u D σ H:=h _ fun _ _ _ z=>⟨_,_,rfl,z⟩
theorem len1 {α:Type}{P:List α→Prop} (h:∀a,P [a]):∀us:List α,us.length=1→P us:=fun us hl=>by
  cases us with
  | nil=>cases hl
  | cons a r=>cases r with
    | nil=>exact h a
    | cons b r=>simp at hl
theorem len2 {α:Type}{P:List α→Prop} (h:∀a b,P [a,b]):∀us:List α,us.length=2→P us:=fun us hl=>by
  cases us with
  | nil=>cases hl
  | cons a r=>exact len1 (P:=fun r=>P (a :: r)) (fun b=>h a b) r (by simpa using hl)
theorem len3 {α:Type}{P:List α→Prop} (h:∀a b c,P [a,b,c]):∀us:List α,us.length=3→P us:=fun us hl=>by
  cases us with
  | nil=>cases hl
  | cons a r=>exact len2 (P:=fun r=>P (a :: r)) (fun b c=>h a b c) r (by simpa using hl)
end L2
namespace L2
open PySem PySem.Spec PyProof.Rows
theorem vals_get:∀{xs:List V}{us:List Value},xs.length=us.length→(∀(i:Nat) x u,xs[i]?=some x→us[i]?=some u→RelV x u)→Vals xs us
  | [],[],_,_=>.nil
  | x :: xs,u :: us,hl,h=>.cons (h 0 x u rfl rfl) (vals_get (by simpa using hl) fun i y w e1 e2=>h (i+1) y w e1 e2)
section
variable {X:Cx}{a:Expr}{ta:TA}{p p2 pos pos2:Pos}
end
end L2
namespace L2
open PySem PySem.Spec PyProof.Rows
abbrev IsZipO (h:Heap) (z TI TO:Addr) (f0:Value) (b:Bool):Prop:=h.get? z=some { cls:=.type "zip",dict:=none,data:=.fields #[f0,.bool b,.bool false,.ref TI,.ref TO],slots:=#[] }
theorem wpAny_alive {M:Model}{A:Around}{E:Value→Shared→Prop}{s:Shared}{a:Addr}{o:Obj}{Q:Option Obj→Shared→Prop} (e:s.heap.get? a=some o) (h:Q (some o) s):wpAny M A (loadIfAlive a) Q E s:=fun Γ p hΓ=>by
  unfold loadIfAlive
  rw [Sem.wp_loadIfAlive,e]
  exact h
section
variable {prog:Program}{w:World}{A:Around}{E:Value→Shared→Prop}{s:Shared}
variable {z TI TO i1 i2 l1 l2 T:Addr}{k:Nat}{xs ys:Array Value}{bb:Bool}{c1 c2:Bool}{oT:Obj}
theorem notFree {Q:Bool→Shared→Prop} (hz:IsZipO s.heap z TI TO (rawInt T) bb) (hT:s.heap.get? T=some oT)
    (h:∀h',IsZipO h' z TI TO (rawInt T) true→Heap.SameBut z s.heap h'→Q false { s with heap:=h' }):wpAny (model prog w) A (Builtin.SmallTypes.ownedTupleIsFree (.ref z)) Q E s:=by
  unfold Builtin.SmallTypes.ownedTupleIsFree
  refine wpAny_bind (wpAny_field hz rfl (x:=rawInt T) rfl ?_)
  show wpAny _ _ (loadIfAlive ((T:Int).toNat) >>= _) _ _ _
  refine wpAny_bind (wpAny_alive (a:=(T:Int).toNat) (by rw [Int.toNat_natCast];exact hT) ?_)
  simp only [Option.isNone_some,Bool.false_eq_true,if_false]
  refine wpAny_bind (wpAny_field hz rfl (x:=.bool bb) rfl ?_)
  cases bb with
  | true=>exact wpAny_pure (h s.heap hz (Heap.SameBut.refl ..))
  | false=>
    refine wpAny_bind (wpAny_setField_rec hz (by simp) fun h' e sb=>wpAny_pure (h h' e sb))
theorem zipItem2 {x y:Value}{Q:Value→Shared→Prop} (D:Apart5 z TI TO i1 i2) (n1:∀c,c=l1∨c=l2→c≠z∧c≠TO∧c≠i1∧c≠i2)
    (hz:IsZipO s.heap z TI TO (rawInt T) bb) (hT:s.heap.get? T=some oT) (hTI:IsPair s.heap TI (.ref i1) (.ref i2)) (hh:A.handled=none)
    (h1:ItK s.heap i1 l1 k c1) (h2:ItK s.heap i2 l2 k c2) (q1:SqK s.heap l1 xs c1) (q2:SqK s.heap l2 ys c2) (hx:xs[k]?=some x) (hy:ys[k]?=some y)
    (hQ:∀h' tk,IsZipO h' z TI TO (rawInt T) true→ItK h' i1 l1 (k+1) c1→ItK h' i2 l2 (k+1) c2→IsPair h' s.heap.objs.size x y→
      (∀c o,c≠z→c≠i1→c≠i2→s.heap.get? c=some o→h'.get? c=some o)→Q (.ref s.heap.objs.size) { s with heap:=h',toks:=tk }) :
    wpAny (model prog w) A (Builtin.«zip.__next__» ⟨[.ref z],[]⟩) (fun fin s'=>∃v,fin=.done (.ret v)∧Q v s') E s:=by
  obtain ⟨m1,m2,m3,m4⟩:=n1 l1 (.inl rfl)
  obtain ⟨m5,m6,m7,m8⟩:=n1 l2 (.inr rfl)
  have kx:k<xs.size:=(Array.getElem?_eq_some_iff.mp hx).1
  have ky:k<ys.size:=(Array.getElem?_eq_some_iff.mp hy).1
  have D1:=drawsK (prog:=prog) (w:=w) hh i1 l1 m3 xs c1
  have D2:=drawsK (prog:=prog) (w:=w) hh i2 l2 m8 ys c2
  show wpAny _ _ (field (.ref z) 2 >>= _) _ _ _;refine wpAny_bind (wpAny_field hz rfl (x:=.bool false) rfl ?_)
  show wpAny _ _ (field (.ref z) 3 >>= _) _ _ _;refine wpAny_bind (wpAny_field hz rfl (x:=.ref TI) rfl (wpAny_bind (wpAny_seqItems hTI rfl ?_)))
  show wpAny _ _ (Builtin.SmallTypes.ownedTupleIsFree (.ref z) >>= _) _ _ _
  refine wpAny_bind (notFree hz hT fun g1 z1 t1=>?_)
  simp only [Bool.false_eq_true,if_false]
  refine wpAny_bind ?_
  rw [←Array.forIn_toList]
  simp only [List.forIn_cons,List.forIn_nil]
  refine wpAny_bind (wpAny_bind (wpAny_holding ?_))
  show wpAny _ _ (Builtin.SmallTypes.nextOf (.ref i1) >>= _) _ _ _
  refine wpAny_bind (D1.item k _ _ _ kx ⟨h1.at fun o e=>t1.extBut _ _ D.a3 e,q1.at fun o e=>t1.extBut _ _ m1 e⟩ fun x' g2 tk2 p1 st1 t2=>wpAny_pure ?_)
  have ex:x=x':=Option.some.inj (hx.symm.trans p1)
  subst ex
  refine wpAny_pure ?_
  refine wpAny_bind (wpAny_bind (wpAny_holding ?_))
  show wpAny _ _ (Builtin.SmallTypes.nextOf (.ref i2) >>= _) _ _ _
  refine wpAny_bind (D2.item k _ _ _ ky ⟨h2.at fun o e=>t2.extBut _ _ D.a0.symm (t1.extBut _ _ D.a4 e),q2.at fun o e=>t2.extBut _ _ m7 (t1.extBut _ _ m5 e)⟩ fun y' g4 tk4 p2 st2 t4=>wpAny_pure ?_)
  have ey:y=y':=Option.some.inj (hy.symm.trans p2)
  subst ey
  refine wpAny_pure (wpAny_pure ?_)
  refine wpAny_bind (wpAny_newTuple ?_ (by show 2≤sizeLine;rw [sizeLine_eq];decide))
  have sz:g4.objs.size=s.heap.objs.size:=by rw [t4.1,t2.1,t1.1]
  have z4:IsZipO g4 z TI TO (rawInt T) true:=t4.extBut _ _ D.a4.symm (t2.extBut _ _ D.a3.symm z1)
  refine wpAny_pure ⟨_,rfl,?_⟩
  show Q (.ref g4.objs.size) _
  have pu:IsPair (g4.push { cls:=.type "tuple",data:=.seq #[x,y] }) g4.objs.size x y:=Heap.get?_push_size _ rfl
  rw [sz] at pu ⊢
  exact hQ _ _ (Heap.get?_push_of_some _ z4) ((st1.1.at fun o e=>t4.extBut _ _ D.a0 e).at fun o e=>Heap.get?_push_of_some _ e) (st2.1.at fun o e=>Heap.get?_push_of_some _ e) pu
    fun c o d1 d3 d4 e=>Heap.get?_push_of_some _ (t4.extBut _ _ d4 (t2.extBut _ _ d3 (t1.extBut _ _ d1 e)))
theorem zipEnd2 {Q:Fin→Shared→Prop} (hh:A.handled=none) (D:Apart5 z TI TO i1 i2) (n1:∀c,c=l1∨c=l2→c≠z∧c≠TO∧c≠i1∧c≠i2)
    (hz:IsZipO s.heap z TI TO (rawInt T) bb) (hT:s.heap.get? T=some oT) (hTI:IsPair s.heap TI (.ref i1) (.ref i2))
    (h1:ItK s.heap i1 l1 k c1) (h2:ItK s.heap i2 l2 k c2) (q1:SqK s.heap l1 xs c1) (q2:SqK s.heap l2 ys c2) (hend:xs.size=k∨(k<xs.size∧ys.size=k))
    (hE:∀h' e tk,(∀c o,c≠z→c≠i1→c≠i2→s.heap.get? c=some o→h'.get? c=some o)→(∃o,h'.get? e=some o∧o.cls=.type "StopIteration")→E (.ref e) { s with heap:=h',toks:=tk }) :
    wpAny (model prog w) A (Builtin.«zip.__next__» ⟨[.ref z],[]⟩) Q E s:=by
  obtain ⟨m1,m2,m3,m4⟩:=n1 l1 (.inl rfl)
  obtain ⟨m5,m6,m7,m8⟩:=n1 l2 (.inr rfl)
  have D1:=drawsK (prog:=prog) (w:=w) hh i1 l1 m3 xs c1
  have D2:=drawsK (prog:=prog) (w:=w) hh i2 l2 m8 ys c2
  show wpAny _ _ (field (.ref z) 2 >>= _) _ _ _;refine wpAny_bind (wpAny_field hz rfl (x:=.bool false) rfl ?_)
  show wpAny _ _ (field (.ref z) 3 >>= _) _ _ _;refine wpAny_bind (wpAny_field hz rfl (x:=.ref TI) rfl (wpAny_bind (wpAny_seqItems hTI rfl ?_)))
  show wpAny _ _ (Builtin.SmallTypes.ownedTupleIsFree (.ref z) >>= _) _ _ _
  refine wpAny_bind (notFree hz hT fun g1 z1 t1=>?_)
  simp only [Bool.false_eq_true,if_false]
  refine wpAny_bind ?_
  rw [←Array.forIn_toList]
  simp only [List.forIn_cons,List.forIn_nil]
  refine wpAny_bind (wpAny_bind (wpAny_holding ?_))
  show wpAny _ _ (Builtin.SmallTypes.nextOf (.ref i1) >>= _) _ _ _
  have st0:ItK g1 i1 l1 k c1∧SqK g1 l1 xs c1:=⟨h1.at fun o e=>t1.extBut _ _ D.a3 e,q1.at fun o e=>t1.extBut _ _ m1 e⟩
  rcases hend with hk | ⟨kx,hk⟩
  · refine wpAny_bind (D1.done _ _ _ (by rw [hk];exact st0) fun g2 e t2 he=>?_)
    exact hE g2 e _ (fun c o d1 d3 _ q=>t2 _ _ d3 (t1.extBut _ _ d1 q)) he
  · refine wpAny_bind (D1.item k _ _ _ kx st0 fun x g2 tk2 p1 st1 t2=>wpAny_pure ?_)
    refine wpAny_pure ?_
    refine wpAny_bind (wpAny_bind (wpAny_holding ?_))
    show wpAny _ _ (Builtin.SmallTypes.nextOf (.ref i2) >>= _) _ _ _
    have st2:ItK g2 i2 l2 k c2∧SqK g2 l2 ys c2:=⟨h2.at fun o e=>t2.extBut _ _ D.a0.symm (t1.extBut _ _ D.a4 e),q2.at fun o e=>t2.extBut _ _ m7 (t1.extBut _ _ m5 e)⟩
    refine wpAny_bind (D2.done _ _ _ (by rw [hk];exact st2) fun g4 e t4 he=>?_)
    exact hE g4 e _ (fun c o d1 d3 d4 q=>t4 _ _ d4 (t2.extBut _ _ d3 (t1.extBut _ _ d1 q))) he
structure ZS (h:Heap) (z TI TO i1 i2 l1 l2:Addr) (c1 c2:Bool) (xs ys:Array Value) (k:Nat) (wr:List Addr):Prop where
  z:(IsZip h z TI TO .none∧Ex2 fun a b=>IsPair h TO a b)∨Ex3 fun (T:Addr) (o:Obj) (bb:Bool)=>IsZipO h z TI TO (rawInt T) bb∧h.get? T=some o∧T∉wr
  t:IsPair h TI (.ref i1) (.ref i2)
  a:ItK h i1 l1 k c1
  b:ItK h i2 l2 k c2
  c:SqK h l1 xs c1
  d:SqK h l2 ys c2
theorem ZS.keep {h h':Heap}{wr:List Addr} (st:ZS h z TI TO i1 i2 l1 l2 c1 c2 xs ys k wr) (hw:z∉wr∧TI∉wr∧TO∉wr∧i1∉wr∧i2∉wr∧l1∉wr∧l2∉wr) (kp:∀c o,c∉wr→h.get? c=some o→h'.get? c=some o):ZS h' z TI TO i1 i2 l1 l2 c1 c2 xs ys k wr:=by
  obtain ⟨w1,w2,w3,w4,w5,w6,w7⟩:=hw
  refine ⟨?_,kp _ _ w2 st.t,st.a.at fun o e=>kp _ o w4 e,st.b.at fun o e=>kp _ o w5 e,st.c.at fun o e=>kp _ o w6 e,st.d.at fun o e=>kp _ o w7 e⟩
  rcases st.z with ⟨h1,a,b,h2⟩ | ⟨T,o,bb,h1,h2,h3⟩
  · exact .inl ⟨kp _ _ w1 h1,a,b,kp _ _ w3 h2⟩
  · exact .inr ⟨T,o,bb,kp _ _ w1 h1,kp _ _ h3 h2,h3⟩
theorem zip_next {x y:Value}{Q:Option Value→Shared→Prop}{wr:List Addr} (D:Apart5 z TI TO i1 i2) (n1:∀c,c=l1∨c=l2→c≠z∧c≠TO∧c≠i1∧c≠i2) (hw:∀c∈wr,c<s.heap.objs.size)
    (st:ZS s.heap z TI TO i1 i2 l1 l2 c1 c2 xs ys k wr) (hh:A.handled=none) (hx:xs[k]?=some x) (hy:ys[k]?=some y)
    (hQ:∀h' tk,ZS h' z TI TO i1 i2 l1 l2 c1 c2 xs ys (k+1) wr→IsPair h' s.heap.objs.size x y→(∀c o,c≠z→c≠TO→c≠i1→c≠i2→s.heap.get? c=some o→h'.get? c=some o)→Q (some (.ref s.heap.objs.size)) { s with heap:=h',toks:=tk }) :
    wpAny (model prog w) A (pyNext (.ref z)) Q E s:=by
  obtain ⟨m1,m2,m3,m4⟩:=n1 l1 (.inl rfl)
  obtain ⟨m5,m6,m7,m8⟩:=n1 l2 (.inr rfl)
  rcases st.z with ⟨hz,a,b,hTO⟩ | ⟨T,o,bb,hz,hT,hn⟩
  · refine pyNext_zipItem D n1 hz st.t hTO hh st.a st.b st.c st.d hx hy fun h' tk zo TO' t1 t2 T' sz keep=>hQ h' tk ⟨.inr ⟨_,_,false,zo,T',fun q=>?_⟩,keep _ _ D.a1 D.a5 D.a6 D.a7 st.t,t1,t2,st.c.at fun o e=>keep _ o m1 m2 m3 m4 e,st.d.at fun o e=>keep _ o m5 m6 m7 m8 e⟩ T' keep
    exact absurd (hw _ q) (Nat.lt_irrefl _)
  · have hT':s.TypeIs (.ref z) "zip" := ⟨_,hz,rfl⟩
    unfold pyNext
    refine wpAny_bind (wpAny_attempt (wpAny_callSpecial?_slot (name:=Str.ofString "__next__") hT' F.slot_zip_next (wpAny_call_entry F.slot_zip_next hT' F.entry_zip_next
      (zipItem2 D n1 hz hT st.t hh st.a st.b st.c st.d hx hy fun h' tk zo t1 t2 T' keep=>wpAny_pure ?_) (F.args_zip_next_1 _))))
    have Tz:T≠z∧T≠i1∧T≠i2∨True:=.inr trivial
    refine hQ h' tk ⟨.inr ?_,keep _ _ D.a1 D.a6 D.a7 st.t,t1,t2,st.c.at fun o e=>keep _ o m1 m3 m4 e,st.d.at fun o e=>keep _ o m5 m7 m8 e⟩ T' fun c o d1 d2 d3 d4 e=>keep c o d1 d3 d4 e
    by_cases e1:T=z
    · exact ⟨T,_,true,zo,by rw [e1];exact zo,hn⟩
    by_cases e2:T=i1
    · obtain ⟨o',e',_⟩:=t1.some
      exact ⟨T,o',true,zo,by rw [e2];exact e',hn⟩
    by_cases e3:T=i2
    · obtain ⟨o',e',_⟩:=t2.some
      exact ⟨T,o',true,zo,by rw [e3];exact e',hn⟩
    exact ⟨T,o,true,zo,keep _ _ e1 e2 e3 hT,hn⟩
theorem zip_end {Q:Option Value→Shared→Prop}{wr:List Addr} (D:Apart5 z TI TO i1 i2) (n1:∀c,c=l1∨c=l2→c≠z∧c≠TO∧c≠i1∧c≠i2)
    (st:ZS s.heap z TI TO i1 i2 l1 l2 c1 c2 xs ys k wr) (hh:A.handled=none) (hend:xs.size=k∨(k<xs.size∧ys.size=k))
    (hQ:∀h' tk,(∀c o,c≠z→c≠TO→c≠i1→c≠i2→s.heap.get? c=some o→h'.get? c=some o)→Q none { s with heap:=h',toks:=tk }) :
    wpAny (model prog w) A (pyNext (.ref z)) Q E s:=by
  rcases st.z with ⟨hz,a,b,hTO⟩ | ⟨T,o,bb,hz,hT,hn⟩
  · exact pyNext_zipEnd hh D n1 hz st.t hTO st.a st.b st.c st.d hend hQ
  · have hT':s.TypeIs (.ref z) "zip" := ⟨_,hz,rfl⟩
    unfold pyNext
    refine wpAny_bind (wpAny_attempt (wpAny_callSpecial?_slot (name:=Str.ofString "__next__") hT' F.slot_zip_next (wpAny_call_entry F.slot_zip_next hT' F.entry_zip_next
      (zipEnd2 hh D n1 hz hT st.t st.a st.b st.c st.d hend fun h' e tk hk he=>?_) (F.args_zip_next_1 _))))
    obtain ⟨o,ho,hc⟩:=he
    refine wpAny_bind (wpAny_isInstance (T := "StopIteration") (b:=true) ⟨o,ho,hc⟩ isSubtype_stop (wpAny_pure (hQ _ tk fun c o d1 _ d3 d4 e=>hk c o d1 d3 d4 e)))
theorem zip_keys_miss:typeLookup (.type "zip") "keys" = pure none:=am_miss_of_fast (by kernel_rfl)
theorem zip_getattr_none:typeLookup (.type "zip") "__getattr__" = pure none:=am_miss_of_fast (by kernel_rfl)
theorem entry_zip_getattribute:entryFor table "zip.__getattribute__" = some Builtin.«object.__getattribute__»:=
  entryFor_alias (id' := "object.__getattribute__") (by kernel_rfl) (by decide +kernel) (by decide +kernel) (by kernel_rfl)
theorem zip_getattribute_miss (a:Addr) (vs:Array Value) (name:Str) (u:Tok) (hmiss:typeLookup (.type "zip") name=pure none) (hname:(["__module__", "__name__", "__qualname__", "__doc__", "__annotations__"]:List Str).contains name=false) (hsz:name.length+100≤sizeLine) :
    Meets (Builtin.«object.__getattribute__» ⟨[.ref a,.str name u],[]⟩) (fun A R s=>s.heap.get? a=some { cls:=.type "zip",dict:=none,data:=.fields vs,slots:=#[] }∧raisesAttr (.ref a) name A R s):=
  Meets.of_wp fun prog w A R s hs=>by
    obtain ⟨hp,g,d,tk,os⟩:=s
    obtain ⟨hx,hs⟩:=hs
    have hT:(⟨hp,g,d,tk,os⟩:Shared).TypeIs (.ref a) "zip" := ⟨_,hx,rfl⟩
    unfold Builtin.«object.__getattribute__»
    repeat (any_goals (first | assumption | wp_step))
    simp only [hname,Bool.false_eq_true,if_false]
    repeat (any_goals (first | assumption | wp_step))
    exact wpAny_raiseAttrError hs.1 hs.2 (attrMsg_fits (by decide +kernel) hsz)
theorem getAttr_zip_miss {a:Addr}{vs:Array Value}{name:Str} (hmiss:typeLookup (.type "zip") name=pure none) (hname:(["__module__", "__name__", "__qualname__", "__doc__", "__annotations__"]:List Str).contains name=false) (hsz:name.length+100≤sizeLine) {Q:Option Value→Shared→Prop} (hx:s.heap.get? a=some { cls:=.type "zip",dict:=none,data:=.fields vs,slots:=#[] }) (hA:A.handled=none)
    (h:∀h' tk,(∀b o,s.heap.get? b=some o→h'.get? b=some o)→Q none { s with heap:=h',toks:=tk }) :
    wpAny (model prog w) A (getAttr? (.ref a) name) Q E s:=by
  obtain ⟨hp,g,d,tk,os⟩:=s
  have hT:∀tk',(⟨hp,g,d,tk',os⟩:Shared).TypeIs (.ref a) "zip" := fun _=>⟨_,hx,rfl⟩
  have f1:=sub_AttributeError
  have f3:=F.slot_zip_getattribute.lookup
  have f4:=F.slot_zip_getattribute.bind (.ref a)
  have f5:=zip_getattr_none
  unfold getAttr? getAttrBy? getAttrBy
  repeat (any_goals (first | assumption | exact hT _ | ((with_reducible show wpAny _ _ (call (Value.builtin "zip.__getattribute__") _ _) _ _ _);refine call_meets F.slot_zip_getattribute (hT _) entry_zip_getattribute (F.args_zip_getattribute_2 _ _) (zip_getattribute_miss a vs name _ hmiss hname hsz) ⟨hx,hA,fun h' tk' e hx'=>?_⟩) | wp_step))
  obtain ⟨t',u',he⟩:=hx'.there
  show wpAny _ _ (getattributeRaised _ _ _ _ _ _ _) _ _ _
  unfold getattributeRaised
  repeat (any_goals (first | assumption | wp_step))
  exact h _ _ hx'.keeps
theorem getAttr_zip_keys {a:Addr}{vs:Array Value}{Q:Option Value→Shared→Prop} (hx:s.heap.get? a=some { cls:=.type "zip",dict:=none,data:=.fields vs,slots:=#[] }) (hA:A.handled=none)
    (h:∀h' tk,(∀b o,s.heap.get? b=some o→h'.get? b=some o)→Q none { s with heap:=h',toks:=tk }) :
    wpAny (model prog w) A (getAttr? (.ref a) "keys") Q E s:=getAttr_zip_miss zip_keys_miss (by decide +kernel) (by rw [sizeLine_eq];decide) hx hA h
end
end L2
namespace L2
open PySem PySem.Spec PyProof.Rows
theorem entry_dict_update_loop:entryFor table "dict.update.loop" = some Builtin.«dict.update.loop»:=entryFor_of_tree (by kernel_rfl)
theorem plain_dict_update_loop:plainId "dict.update.loop" = true:=by decide +kernel
theorem stored_new {kvs:List (Key×Value)}{k:Key}{v:Value} (h:k∉kvs.map (·.1)):stored kvs k v=kvs++[(k,v)]:=by
  unfold stored
  rw [if_neg]
  intro z
  obtain ⟨x,hx,e⟩:=List.any_eq_true.mp z
  exact h (by rw [←of_decide_eq_true e];exact List.mem_map_of_mem hx)
theorem keys_zip {α β:Type}:∀{ks:List α}{us:List β},ks.length=us.length→(ks.zip us).map (·.1)=ks
  | [],[],_=>rfl
  | k :: ks,u :: us,h=>by simp [keys_zip (ks:=ks) (us:=us) (by simpa using h)]
section
variable {prog:Program}{w:World}{A:Around}{E:Value→Shared→Prop}{R:Result→Shared→Prop}
variable {z TI TO i1 i2 l1 l2 d:Addr}{xs ys:Array Value}{c1 c2:Bool}{ks:List Key}
theorem fill_dict (D:Apart5 z TI TO i1 i2) (n1:∀c,c=l1∨c=l2→c≠z∧c≠TO∧c≠i1∧c≠i2) (hd:z≠d∧TI≠d∧TO≠d∧i1≠d∧i2≠d∧l1≠d∧l2≠d)
    (hh:A.handled=none) (hk:∀(i:Nat) v,xs[i]?=some v→∀k,ks[i]?=some k→keyIs k v=true) (lx:xs.size=ks.length) (ly:ys.size=ks.length) (nd:ks.Nodup) (hz:ks.length≤4000) :
    ∀(r i:Nat) (tk0:Tok) (s:Shared),ks.length - i=r→i≤ks.length→ZS s.heap z TI TO i1 i2 l1 l2 c1 c2 xs ys i [d]→s.heap.DictOf (mixKind prog w) d ((ks.zip ys.toList).take i)→
      (∀h' tk,h'.DictOf (mixKind prog w) d (ks.zip ys.toList)→(∀c o,c≠z→c≠TO→c≠i1→c≠i2→c≠d→s.heap.get? c=some o→h'.get? c=some o)→R (.ok (.ret .none)) { s with heap:=h',toks:=tk })→
      codeAny (model prog w) A (.builtin "dict.update.loop" ⟨[.ref d,.ref z,.int (i:Nat) tk0,.none],[]⟩) R s:=by
  intro r
  induction r with
  | zero=>
    intro i tk0 s hr hi st hD hR
    have e:i=ks.length:=by trivial
    have lz:(ks.zip ys.toList).length=ks.length:=by simp [ly]
    rw [e,←lz,List.take_length] at hD
    refine codeAny_builtin entry_dict_update_loop ?_
    rw [A.under_plainId plain_dict_update_loop]
    show wpAny _ _ (pyNext (Value.ref z) >>= _) _ _ _
    refine wpAny_bind (zip_end D n1 st (by simpa using hh) (.inl (by rw [e,lx])) fun h' tk keep=>?_)
    show wpAny _ _ (Builtin.Dict.addKeywords d [] >>= _) _ _ _
    refine wpAny_bind (wpAny_pure (wpAny_pure ?_))
    obtain ⟨o,es,ep,ho,q⟩:=hD
    exact hR h' tk ⟨o,es,ep,keep d o hd.1.symm hd.2.2.1.symm hd.2.2.2.1.symm hd.2.2.2.2.1.symm ho,q⟩ fun c o d1 d2 d3 d4 _ e=>keep c o d1 d2 d3 d4 e
  | succ r ih=>
    intro i tk0 s hr hi st hD hR
    have lt:i<ks.length:=by trivial
    have hx:xs[i]?=some xs[i]:=Array.getElem?_eq_getElem (by trivial)
    have hy:ys[i]?=some ys[i]:=Array.getElem?_eq_getElem (by trivial)
    have kv:=hk i _ hx ks[i] (List.getElem?_eq_getElem lt)
    have dlt:d<s.heap.objs.size:=let ⟨o,es,ep,ho,_⟩:=hD;Heap.lt_size ho
    refine codeAny_builtin entry_dict_update_loop ?_
    rw [A.under_plainId plain_dict_update_loop]
    show wpAny _ _ (pyNext (Value.ref z) >>= _) _ _ _
    refine wpAny_bind (zip_next D n1 (fun c hc=>by rw [List.mem_singleton.mp hc];exact dlt) st (by simpa using hh) hx hy fun h' tk st' T' keep=>?_)
    have hD':h'.DictOf (mixKind prog w) d ((ks.zip ys.toList).take i):=let ⟨o,es,ep,ho,q⟩:=hD;⟨o,es,ep,keep d o hd.1.symm hd.2.2.1.symm hd.2.2.2.1.symm hd.2.2.2.2.1.symm ho,q⟩
    refine wpAny_bind (wpAny_holding (wpAny_bind (wpAny_tryCatch ?_)))
    unfold Builtin.Dict.pairItems
    refine wpAny_bind (wpAny_typeOf (show Shared.TypeIs { s with heap:=h',toks:=tk } (.ref s.heap.objs.size) "tuple" from ⟨_,T',rfl⟩) ?_)
    rw [if_pos (by decide)]
    refine wpAny_bind (wpAny_seqItems T' rfl (wpAny_pure ?_))
    show wpAny _ _ (holding [xs[i],ys[i]] (dictSet d xs[i] ys[i])) _ _ _
    have nk:ks[i]∉((ks.zip ys.toList).take i).map (·.1):=by
      rw [List.map_take,keys_zip (by simp [ly])]
      intro q
      obtain ⟨j,hj,e⟩:=List.getElem_of_mem q
      rw [List.length_take] at hj
      rw [List.getElem_take] at e
      have:=nodup_inj nd (by trivial) lt e
      trivial
    have lz:((ks.zip ys.toList).take i).length≤sizeLine:=by rw [List.length_take,sizeLine_eq];simp;trivial
    refine wpAny_holding (wpAny_dictSet_pairs (k:=ks[i]) kv hD' (hsz:=lz) fun h2 hD2 sb=>?_)
    rw [stored_new nk] at hD2
    have nx:h2.DictOf (mixKind prog w) d ((ks.zip ys.toList).take (i+1)):=by
      rw [List.take_succ_eq_append_getElem (by simp [ly];trivial)]
      simpa using hD2
    obtain ⟨d1,d2,d3,d4,d5,d6,d7⟩:=hd
    refine wpAny_pure ⟨plainId_quiet plain_dict_update_loop _,?_⟩
    have st2:=st'.keep (h':=h2) (by simp only [List.mem_singleton];exact ⟨d1,d2,d3,d4,d5,d6,d7⟩) fun c o hc e=>(sb.2 c (by simpa using hc)).trans e
    have e1:((i:Nat):Int)+1=((i+1:Nat):Int):=by trivial
    show codeAny _ _ (.builtin "dict.update.loop" ⟨[.ref d,.ref z,.int ((i:Nat)+1) 0,.none],[]⟩) _ _
    rw [e1]
    exact ih (i+1) 0 _ (by trivial) lt st2 nx fun h3 tk3 hD3 k3=>hR h3 tk3 hD3 fun c o a1 a2 a3 a4 a5 e=>k3 c o a1 a2 a3 a4 a5 ((sb.2 c a5).trans (keep c o a1 a2 a3 a4 e))
theorem call_dictZip {s:Shared}{Q:Value→Shared→Prop}{a b:Value} (D:Apart5 z TI TO i1 i2) (n1:∀c,c=l1∨c=l2→c≠z∧c≠TO∧c≠i1∧c≠i2)
    (hz:IsZip s.heap z TI TO .none) (hTI:IsPair s.heap TI (.ref i1) (.ref i2)) (hTO:IsPair s.heap TO a b) (h1:ItK s.heap i1 l1 0 c1) (h2:ItK s.heap i2 l2 0 c2) (q1:SqK s.heap l1 xs c1) (q2:SqK s.heap l2 ys c2)
    (hh:A.handled=none) (hk:∀(i:Nat) v,xs[i]?=some v→∀k,ks[i]?=some k→keyIs k v=true) (lx:xs.size=ks.length) (ly:ys.size=ks.length) (nd:ks.Nodup) (hs:ks.length≤4000)
    (h:∀h' tk,h'.DictOf (mixKind prog w) s.heap.objs.size (ks.zip ys.toList)→(∀c o,c≠z→c≠TO→c≠i1→c≠i2→s.heap.get? c=some o→h'.get? c=some o)→Q (.ref s.heap.objs.size) { s with heap:=h',toks:=tk }) :
    wpAny (model prog w) A (call (.type "dict") [.ref z]) Q E s:=by
  refine callType_codes (Q₁:=fun obj s₁=>obj=.ref s.heap.objs.size∧s₁={ s with heap:=s.heap.push { cls:=.type "dict",data:=.dict #[] } }) F.kt_called_dict (F.kt_typeCall_dict_1 _) F.entry_dict_init (kt_code_dict_new _ ⟨rfl,rfl⟩) ?_
  rintro obj s₁ ⟨rfl,rfl⟩
  have hnew:(s.heap.push { cls:=.type "dict",data:=.dict #[] }).DictOf (mixKind prog w) s.heap.objs.size []:=Heap.DictOf.new s.heap
  have up:∀c o,s.heap.get? c=some o→(s.heap.push { cls:=.type "dict",data:=.dict #[] }).get? c=some o:=fun c o e=>Heap.get?_push_of_some _ e
  have ne:∀c o,s.heap.get? c=some o→c≠s.heap.objs.size:=fun c o e=>Nat.ne_of_lt (Heap.lt_size e)
  have hz':=up _ _ hz
  refine ⟨hnew.typeIs,F.args_dict_init_2 _ _,?_⟩
  unfold Builtin.«dict.__init__»
  refine wpAny_bind ?_
  unfold Builtin.Dict.selfAndRest
  refine wpAny_bind (wpAny_notOrdered_dict hnew.typeIs ?_)
  show wpAny _ _ (pure (s.heap.objs.size,[Value.ref z])) _ _ _
  refine wpAny_pure ?_
  show wpAny _ _ (Builtin.Dict.updateFrom "dict.__init__" s.heap.objs.size (.ref z) [] .none) _ _ _
  unfold Builtin.Dict.updateFrom
  refine wpAny_bind (wpAny_typeOf (T := "zip") ⟨_,hz',rfl⟩ ?_)
  rw [if_pos (by decide)]
  refine wpAny_bind (getAttr_zip_keys hz' (by simpa using hh) fun g1 tk1 k1=>?_)
  simp only [Option.isNone_none,if_true]
  refine wpAny_bind (wpAny_rule ?_)
  refine wpAny_bind (wpAny_pyIter_zip (k1 _ _ hz') ?_)
  have kk:∀c o,s.heap.get? c=some o→g1.get? c=some o:=fun c o e=>k1 _ _ (up _ _ e)
  have hn1:g1.DictOf (mixKind prog w) s.heap.objs.size []:=let ⟨o,es,ep,ho,q⟩:=hnew;⟨o,es,ep,k1 _ _ ho,q⟩
  refine wpAny_pure ⟨plainId_quiet plain_dict_update_loop _,?_⟩
  obtain ⟨o1,e1,_⟩:=h1.some
  obtain ⟨o2,e2,_⟩:=h2.some
  refine fill_dict (ks:=ks) D n1 ⟨ne _ _ hz,ne _ _ hTI,ne _ _ hTO,ne _ _ e1,ne _ _ e2,Nat.ne_of_lt q1.lt,Nat.ne_of_lt q2.lt⟩ (by simpa using hh) hk lx ly nd hs ks.length 0 0 _ rfl (Nat.zero_le _)
    ⟨.inl ⟨kk _ _ hz,_,_,kk _ _ hTO⟩,kk _ _ hTI,h1.at fun o e=>kk _ o e,h2.at fun o e=>kk _ o e,q1.at fun o e=>kk _ o e,q2.at fun o e=>kk _ o e⟩ hn1 fun h' tk hD keep=>?_
  exact ⟨rfl,h h' tk hD fun c o d1 d2 d3 d4 e=>keep c o d1 d2 d3 d4 (ne _ _ e) (kk _ _ e)⟩
end
theorem boot_ty_dict:bootBuiltins "dict" = some (.type "dict"):=by decide +kernel
def tDictZ (K:PySem.W.Frag) (ta:TA):TE:=fun σ H Q=>ta σ H fun vs H1=>Ex6 fun (a1 a2:Addr) (c1 c2:Bool) (ks:List Key) (ys:List V)=>vs=[.ref a1,.ref a2]∧SqC K H1 a1 (ks.map keyV) c1∧SqC K H1 a2 ys c2∧ys.length=ks.length∧ks.Nodup∧ks.length≤4000∧∀p H',Nw H1 p (.dK (ks.zip ys)) H'→Q (.ref p) H'
theorem kv_zip:∀{ks:List Key}{ys:List V}{us:List Value},Vals ys us→KV (ks.zip ys) (ks.zip us)
  | [],_,_,_=>.nil
  | _ :: _,_,_,.nil=>.nil
  | k :: ks,_,_,.cons r t=>.cons ⟨rfl,r⟩ (kv_zip t)
section
variable {X:Cx}{K:PySem.W.Frag}{a b:Expr}{ta:TA}{p1 p2 p3 p4:Pos}
theorem pe_dictZip (hc:X.calm=true) (hg1:Gl X "dict") (hm1:X.mg "dict" = none) (hg2:Gl X "zip") (hm2:X.mg "zip" = none) (ha:PA X [a,b] ta) (ek:X.K=K:=by rfl) (hs:starEach [a,b] X.env=[(false,eval a X.env),(false,eval b X.env)]:=by rfl) (hs2:starEach [b] X.env=[(false,eval b X.env)]:=by rfl)
    (hs3:starEach [Expr.Call (.Name "zip" p2) [a,b] [] p3] X.env=[(false,eval (Expr.Call (.Name "zip" p2) [a,b] [] p3) X.env)]:=by rfl) :
    PE X (.Call (.Name "dict" p1) [.Call (.Name "zip" p2) [a,b] [] p3] [] p4) (tDictZ K ta):=by
  subst ek
  intro pins s σ H Q I h
  refine wpAny_Call_Name_kw (ld_blt I hg1 hm1 boot_ty_dict ?_ (by decide) (by decide))
  refine PyProof.Rows.callWith_type1 ?_ hs3 rfl
  rw [hs3]
  show wpAny _ _ (spliced ((false,eval (Expr.Call (.Name "zip" p2) [a,b] [] p3) X.env) :: [])) _ _ s
  refine Calls.spliced_cons ?_
  refine Call_ (ld_blt I hg2 hm2 boot_zip (PyProof.Rows.callWith_type1 (thn (ha p3 pins s σ H _ I h) fun us s1 ⟨vs,H1,I1,r1,q1⟩=>?_) (by rw [hs,hs2]) (by rw [hs2];rfl)))
  obtain ⟨a1,a2,c1,c2,ks,ys,rfl,p1,p2,ly,nd,hz4,q⟩:=q1
  obtain ⟨u1,u2,rfl,ru1,ru2⟩:=r1.two
  obtain rfl:u1=.ref a1:=ru1
  obtain rfl:u2=.ref a2:=ru2
  obtain ⟨its1,rv1,k1⟩:=I1.seqC p1
  obtain ⟨its2,rv2,k2⟩:=I1.seqC p2
  have d1:=k1.lt
  have d2:=k2.lt
  have l1:=rv1.length
  have l2:=rv2.length
  rw [List.length_map] at l1
  refine call_zipK k1 k2 fun h' hz hTI hTO t1 t2 hk=>Calls.spliced_nil ?_
  have I2:Inv X pins σ H1 { s1 with heap:=h',toks:=s1.toks }:=I1.kept hk
  have fr:∀b,s1.heap.objs.size≤b→FpOk X pins H1 b:=fun b hle=>I1.fpOk hle (I1.hok.fresh hle)
  have nn:∀c,c=a1∨c=a2→c≠s1.heap.objs.size+4∧c≠s1.heap.objs.size+3∧c≠s1.heap.objs.size∧c≠s1.heap.objs.size+1:=fun c hc=>by
    have:c<s1.heap.objs.size:=by rcases hc with rfl | rfl <;> assumption
    exact ⟨Nat.ne_of_lt (Nat.lt_of_lt_of_le this (Nat.le_add_right _ _)),Nat.ne_of_lt (Nat.lt_of_lt_of_le this (Nat.le_add_right _ _)),Nat.ne_of_lt this,Nat.ne_of_lt (Nat.lt_of_lt_of_le this (Nat.le_add_right _ _))⟩
  refine call_dictZip (s:={ s1 with heap:=h',toks:=s1.toks }) (ks:=ks) (xs:=its1.toArray) (ys:=its2.toArray) ⟨by simp,by simp,Nat.ne_of_lt (by simp),by simp,by simp,Nat.ne_of_gt (by simp),by simp,Nat.ne_of_gt (by simp),by simp,Nat.ne_of_lt (by simp)⟩ nn hz hTI hTO t1 t2 (k1.at fun o e=>hk _ o e) (k2.at fun o e=>hk _ o e) (I1.ok.hd hc)
    (fun i v e k f=>((vals_keys rv1).2 i v (by simpa using e) k f).1) (by simp;trivial) (by simp;trivial) nd hz4 fun h2 tk hD keep=>?_
  have big:sysModules<h'.objs.size:=by
    have e:mainGlobals<h'.objs.size:=(I2.mod.glob.keeps I2.bk).lt
    exact Nat.lt_trans (by decide) e
  have I3:=I2.turnedNew (h':=h2) (t':=tk) (T:=h'.objs.size) (o:=.dK (ks.zip ys)) (ch:=[s1.heap.objs.size+4,s1.heap.objs.size+3,s1.heap.objs.size,s1.heap.objs.size+1]) (fun b hb=>?_) (fun b u hb e=>?_) (Nat.le_refl _)
    ⟨by rw [sizeLine_eq];simp;trivial,beq_eq_false_iff_ne.mpr (Ne.symm (Nat.ne_of_lt big)),ks.zip its2,kv_zip rv2,by simpa using hD⟩
  · exact ⟨.ref _,_,I3,rfl,q _ _ (.mk' (I2.hok.fresh (Nat.le_refl _)))⟩
  · have hb':b=s1.heap.objs.size+4∨b=s1.heap.objs.size+3∨b=s1.heap.objs.size∨b=s1.heap.objs.size+1:=by simpa using hb
    exact fr b (by rcases hb' with rfl | rfl | rfl | rfl <;> trivial)
  · simp only [List.mem_cons,List.not_mem_nil,or_false,not_or] at hb
    exact keep b u hb.1 hb.2.1 hb.2.2.1 hb.2.2.2 e
def valD (kvs:List (Key×V)) (k:Key):Option V:=(kvs.find? fun kv=>decide (kv.1=k)).map (·.2)
theorem KV.valD:∀{kvs:List (Key×V)}{vs:List (Key×Value)} (r:KV kvs vs) (k:Key),RelO (valD kvs k) (valueAt vs k)
  | _,_,.nil,_=>trivial
  | p :: ps,q :: qs,.cons h t,k=>by
    obtain ⟨h1,h2⟩:=h
    by_cases e:p.1=k
    · have e':q.1=k:=h1.symm.trans e
      have b1:L2.valD (p :: ps) k=some p.2:=by simp [L2.valD,List.find?_cons,e]
      have b2:valueAt (q :: qs) k=some q.2:=by simp [valueAt,List.find?_cons,e']
      rw [b1,b2];exact h2
    · have e':¬q.1=k:=fun z=>e (h1.trans z)
      have b1:L2.valD (p :: ps) k=L2.valD ps k:=by simp [L2.valD,List.find?_cons,e]
      have b2:valueAt (q :: qs) k=valueAt qs k:=by simp [valueAt,List.find?_cons,e']
      rw [b1,b2];exact KV.valD t k
inductive rIxD_ (x:V) (y:V) (H:Hp) (Q:VK):Prop
  | mk (d:Addr) (kvs:List (Key×V)) (k:Key) (v:V) (h0:x=.ref d) (h1:y=keyV k) (h2:H d=some (.dK kvs)) (h3:valD kvs k=some v) (h4:Q v H)
def rIxD:R2:=fun x y H Q=>rIxD_  x y H Q
theorem keyV_kind {P:Program}{w:World}{k:Key}{u:Value} (r:RelV (keyV k) u):(mixKind P w).is k u=true:=(keyV_is r).1
theorem ix_dict:IxR X rIxD:=by
  intro value slice pins s σ H x y v u Q I rx ry h hs
  obtain ⟨d,kvs,k,z,rfl,rfl,hd,he,q⟩:=h
  cases rx
  obtain ⟨_,_,vs,rel,dd⟩:=(show ObjOk X.prog X.w H s.heap d (.dK kvs) from I.hok d _ hd)
  have hv:=rel.valD k
  rw [he] at hv
  obtain ⟨w',hw,rw'⟩:=RelO.some_of hv
  exact subscriptTail_builtinR (x:=w') dd.typeIs PySem.F.slot_dict_getitem.lookup (wpAny_getItem_of (keyV_kind ry) dd.mapOf hw ⟨rfl,z,H,I.tok _,rw',q⟩) hs
theorem valD_zip:∀{ks:List Key}{ys:List V}{i:Nat}{k:Key}{y:V},ks.Nodup→ks[i]?=some k→ys[i]?=some y→valD (ks.zip ys) k=some y
  | [],_,_,_,_,_,h,_=>by simp at h
  | _ :: _,[],_,_,_,_,_,h=>by simp at h
  | k0 :: ks,y0 :: ys,0,k,y,_,h1,h2=>by
    simp at h1 h2
    subst h1 h2
    simp [valD]
  | k0 :: ks,y0 :: ys,i+1,k,y,nd,h1,h2=>by
    simp only [List.getElem?_cons_succ] at h1 h2
    have ne:¬k0=k:=fun z=>by
      rw [z] at nd
      exact (List.nodup_cons.mp nd).1 (List.mem_of_getElem? h1)
    have b1:valD ((k0 :: ks).zip (y0 :: ys)) k=valD (ks.zip ys) k:=by simp [valD,List.find?_cons,ne]
    rw [b1]
    exact valD_zip (List.nodup_cons.mp nd).2 h1 h2
end
section
variable {X:Cx}
end
end L2
namespace L2
open PySem PySem.Spec PyProof.Rows
theorem adne {a b:Nat} (h:a≠b):@Ne Addr a b:=h
abbrev IsTrip (h:Heap) (T:Addr) (a b c:Value):Prop:=h.get? T=some { cls:=.type "tuple",data:=.seq #[a,b,c] }
section
variable {prog:Program}{w:World}{A:Around}{E:Value→Shared→Prop}{s:Shared}
theorem updateTrip {T:Addr}{a b c x:Value}{k:Nat}{Q:Unit→Shared→Prop} (hT:IsTrip s.heap T a b c)
    (h:∀h',h'.get? T=some { cls:=.type "tuple",data:=.seq ((#[a,b,c]:Array Value).setIfInBounds k x) }→Heap.SameBut T s.heap h'→Q () { s with heap:=h' }) :
    wpAny (model prog w) A (updateSeq T (·.setIfInBounds k x)) Q E s:=by
  refine wpAny_updateSeq hT rfl (h _ ?_ (Heap.SameBut.update ..))
  rw [Heap.get?_update_self _ hT rfl]
  simp [Obj.mapSeq]
variable {n l1 l2 l3 T:Nat}{k:Nat}{xs ys zs:Array Value}{bb:Bool}{oT:Obj}
set_option maxHeartbeats 1000000 in
theorem zip3Item {a b c x y v:Value}{Q:Value→Shared→Prop} (hl:l1<n∧l2<n∧l3<n)
    (hz:IsZip s.heap (n+5) (n+3) (n+4) .none) (hTI:IsTrip s.heap (n+3) (.ref n) (.ref (n+1)) (.ref (n+2))) (hTO:IsTrip s.heap (n+4) a b c) (hh:A.handled=none)
    (h1:ItK s.heap n l1 k true) (h2:ItK s.heap (n+1) l2 k true) (h3:ItK s.heap (n+2) l3 k true) (q1:SqK s.heap l1 xs true) (q2:SqK s.heap l2 ys true) (q3:SqK s.heap l3 zs true) (hx:xs[k]?=some x) (hy:ys[k]?=some y) (hv:zs[k]?=some v)
    (hQ:∀h' tk,IsZip h' (n+5) (n+3) (n+4) (rawInt s.heap.objs.size)→ItK h' n l1 (k+1) true→ItK h' (n+1) l2 (k+1) true→ItK h' (n+2) l3 (k+1) true→IsTrip h' s.heap.objs.size x y v→h'.objs.size=s.heap.objs.size+1→
      (∀(c:Nat) o,c≠n+5→c≠n+4→c≠n→c≠n+1→c≠n+2→s.heap.get? c=some o→h'.get? c=some o)→Q (.ref s.heap.objs.size) { s with heap:=h',toks:=tk }) :
    wpAny (model prog w) A (Builtin.«zip.__next__» ⟨[.ref (n+5)],[]⟩) (fun fin s'=>∃v,fin=.done (.ret v)∧Q v s') E s:=by
  obtain ⟨m1,m2,m3⟩:=hl
  have kx:k<xs.size:=(Array.getElem?_eq_some_iff.mp hx).1
  have ky:k<ys.size:=(Array.getElem?_eq_some_iff.mp hy).1
  have kv:k<zs.size:=(Array.getElem?_eq_some_iff.mp hv).1
  have D1:=drawsK (prog:=prog) (w:=w) hh n l1 (adne (by trivial)) xs true
  have D2:=drawsK (prog:=prog) (w:=w) hh (n+1) l2 (adne (by trivial)) ys true
  have D3:=drawsK (prog:=prog) (w:=w) hh (n+2) l3 (adne (by trivial)) zs true
  show wpAny _ _ (field (.ref (n+5)) 2 >>= _) _ _ _;refine wpAny_bind (wpAny_field hz rfl (x:=.bool false) rfl ?_)
  show wpAny _ _ (field (.ref (n+5)) 3 >>= _) _ _ _;refine wpAny_bind (wpAny_field hz rfl (x:=.ref (n+3)) rfl (wpAny_bind (wpAny_seqItems hTI rfl ?_)))
  show wpAny _ _ (Builtin.SmallTypes.ownedTupleIsFree (.ref (n+5)) >>= _) _ _ _;refine wpAny_bind ?_;unfold Builtin.SmallTypes.ownedTupleIsFree
  refine wpAny_bind (wpAny_field hz rfl (x:=.none) rfl (wpAny_pure ?_));simp only [if_true]
  refine wpAny_bind (wpAny_rule (wpAny_bind (wpAny_field hz rfl (x:=.ref (n+4)) rfl (wpAny_bind (wpAny_setField_rec hz (by simp) fun g1 z1 t1=>?_)))))
  replace z1:IsZip g1 (n+5) (n+3) (n+4) .ellipsis:=z1
  refine wpAny_bind ?_;simp only [List.zipIdx_cons,List.zipIdx_nil,List.forIn_cons,List.forIn_nil];refine wpAny_bind (wpAny_bind (wpAny_onRaise ?_))
  show wpAny _ _ (Builtin.SmallTypes.nextOf (.ref n) >>= _) _ _ _
  refine wpAny_bind (D1.item k _ _ _ kx ⟨h1.at fun o e=>t1.extBut _ _ (adne (by trivial)) e,q1.at fun o e=>t1.extBut _ _ (adne (by trivial)) e⟩ fun x' g2 tk2 p1 st1 t2=>wpAny_pure ?_)
  have ex:x=x':=Option.some.inj (hx.symm.trans p1)
  subst ex
  have TO2:IsTrip g2 (n+4) a b c:=t2.extBut _ _ (adne (by trivial)) (t1.extBut _ _ (adne (by trivial)) hTO)
  refine wpAny_bind (wpAny_seqItems TO2 rfl (wpAny_bind (updateTrip TO2 fun g3 TO3 t3=>?_)))
  replace TO3:IsTrip g3 (n+4) x b c:=TO3
  refine wpAny_bind (wpAny_letGo (wpAny_pure ?_));refine wpAny_bind (wpAny_bind (wpAny_onRaise ?_));show wpAny _ _ (Builtin.SmallTypes.nextOf (.ref (n+1)) >>= _) _ _ _
  refine wpAny_bind (D2.item k _ _ _ ky ⟨h2.at fun o e=>t3.extBut _ _ (adne (by trivial)) (t2.extBut _ _ (adne (by trivial)) (t1.extBut _ _ (adne (by trivial)) e)),q2.at fun o e=>t3.extBut _ _ (adne (by trivial)) (t2.extBut _ _ (adne (by trivial)) (t1.extBut _ _ (adne (by trivial)) e))⟩ fun y' g4 tk4 p2 st2 t4=>wpAny_pure ?_)
  have ey:y=y':=Option.some.inj (hy.symm.trans p2)
  subst ey
  have TO4:IsTrip g4 (n+4) x b c:=t4.extBut _ _ (adne (by trivial)) TO3
  refine wpAny_bind (wpAny_seqItems TO4 rfl (wpAny_bind (updateTrip TO4 fun g5 TO5 t5=>?_)))
  replace TO5:IsTrip g5 (n+4) x y c:=TO5
  refine wpAny_bind (wpAny_letGo (wpAny_pure ?_));refine wpAny_bind (wpAny_bind (wpAny_onRaise ?_));show wpAny _ _ (Builtin.SmallTypes.nextOf (.ref (n+2)) >>= _) _ _ _
  refine wpAny_bind (D3.item k _ _ _ kv ⟨h3.at fun o e=>t5.extBut _ _ (adne (by trivial)) (t4.extBut _ _ (adne (by trivial)) (t3.extBut _ _ (adne (by trivial)) (t2.extBut _ _ (adne (by trivial)) (t1.extBut _ _ (adne (by trivial)) e)))),q3.at fun o e=>t5.extBut _ _ (adne (by trivial)) (t4.extBut _ _ (adne (by trivial)) (t3.extBut _ _ (adne (by trivial)) (t2.extBut _ _ (adne (by trivial)) (t1.extBut _ _ (adne (by trivial)) e))))⟩ fun v' g6 tk6 p3 st3 t6=>wpAny_pure ?_)
  have ev:v=v':=Option.some.inj (hv.symm.trans p3)
  subst ev
  have TO6:IsTrip g6 (n+4) x y c:=t6.extBut _ _ (adne (by trivial)) TO5
  refine wpAny_bind (wpAny_seqItems TO6 rfl (wpAny_bind (updateTrip TO6 fun g7 TO7 t7=>?_)))
  replace TO7:IsTrip g7 (n+4) x y v:=TO7
  refine wpAny_bind (wpAny_letGo (wpAny_pure (wpAny_pure ?_)));refine wpAny_bind (wpAny_seqItems TO7 rfl (wpAny_bind (wpAny_newTuple ?_)))
  have sz:g7.objs.size=s.heap.objs.size:=by rw [t7.1,t6.1,t5.1,t4.1,t3.1,t2.1,t1.1]
  have keep:∀(c:Nat) o,c≠n+5→c≠n+4→c≠n→c≠n+1→c≠n+2→s.heap.get? c=some o→g7.get? c=some o:=fun c o d1 d2 d3 d4 d5 e=>t7.extBut _ _ d2 (t6.extBut _ _ d5 (t5.extBut _ _ d2 (t4.extBut _ _ d4 (t3.extBut _ _ d2 (t2.extBut _ _ d3 (t1.extBut _ _ d1 e))))))
  have z7:IsZip g7 (n+5) (n+3) (n+4) .ellipsis:=t7.extBut _ _ (adne (by trivial)) (t6.extBut _ _ (adne (by trivial)) (t5.extBut _ _ (adne (by trivial)) (t4.extBut _ _ (adne (by trivial)) (t3.extBut _ _ (adne (by trivial)) (t2.extBut _ _ (adne (by trivial)) z1)))))
  have it1:ItK g7 n l1 (k+1) true:=st1.1.at fun o e=>t7.extBut _ _ (adne (by trivial)) (t6.extBut _ _ (adne (by trivial)) (t5.extBut _ _ (adne (by trivial)) (t4.extBut _ _ (adne (by trivial)) (t3.extBut _ _ (adne (by trivial)) e))))
  have it2:ItK g7 (n+1) l2 (k+1) true:=st2.1.at fun o e=>t7.extBut _ _ (adne (by trivial)) (t6.extBut _ _ (adne (by trivial)) (t5.extBut _ _ (adne (by trivial)) e))
  have it3:ItK g7 (n+2) l3 (k+1) true:=st3.1.at fun o e=>t7.extBut _ _ (adne (by trivial)) e
  have zlt:n+5<g7.objs.size:=Heap.lt_size z7
  show wpAny _ _ (Builtin.SmallTypes.ownedTupleHandOut (.ref (n+5)) (.ref g7.objs.size) >>= _) _ _ _;refine wpAny_bind ?_;unfold Builtin.SmallTypes.ownedTupleHandOut
  have z8:IsZip (g7.push { cls:=.type "tuple",data:=.seq #[x,y,v] }) (n+5) (n+3) (n+4) .ellipsis:=Heap.get?_push_of_some _ z7
  refine wpAny_bind (wpAny_setField_rec z8 (by simp) fun g9 z9 t9=>?_)
  replace z9:IsZip g9 (n+5) (n+3) (n+4) (rawInt g7.objs.size):=z9
  refine wpAny_setField_rec z9 (by simp) fun gA zA tA=>?_
  replace zA:IsZip gA (n+5) (n+3) (n+4) (rawInt g7.objs.size):=zA
  have up:∀(c:Nat) o,c≠n+5→g7.get? c=some o→gA.get? c=some o:=fun c o d e=>tA.extBut _ _ d (t9.extBut _ _ d (Heap.get?_push_of_some _ e))
  have TA:IsTrip gA g7.objs.size x y v:=tA.extBut _ _ (Nat.ne_of_gt zlt) (t9.extBut _ _ (Nat.ne_of_gt zlt) (Heap.get?_push_size _ rfl))
  have sA:gA.objs.size=g7.objs.size+1:=by rw [tA.1,t9.1,Heap.size_push]
  rw [sz] at zA TA sA
  refine wpAny_pure ⟨_,rfl,?_⟩;show Q (.ref g7.objs.size) _;rw [sz]
  exact hQ gA _ zA (it1.at fun o e=>up _ o (adne (by trivial)) e) (it2.at fun o e=>up _ o (adne (by trivial)) e) (it3.at fun o e=>up _ o (adne (by trivial)) e) TA sA fun c o d1 d2 d3 d4 d5 e=>up c o d1 (keep c o d1 d2 d3 d4 d5 e)
theorem zip3Item2 {x y v:Value}{Q:Value→Shared→Prop} (hl:l1<n∧l2<n∧l3<n)
    (hz:IsZipO s.heap (n+5) (n+3) (n+4) (rawInt T) bb) (hT:s.heap.get? T=some oT) (hTI:IsTrip s.heap (n+3) (.ref n) (.ref (n+1)) (.ref (n+2))) (hh:A.handled=none)
    (h1:ItK s.heap n l1 k true) (h2:ItK s.heap (n+1) l2 k true) (h3:ItK s.heap (n+2) l3 k true) (q1:SqK s.heap l1 xs true) (q2:SqK s.heap l2 ys true) (q3:SqK s.heap l3 zs true) (hx:xs[k]?=some x) (hy:ys[k]?=some y) (hv:zs[k]?=some v)
    (hQ:∀h' tk,IsZipO h' (n+5) (n+3) (n+4) (rawInt T) true→ItK h' n l1 (k+1) true→ItK h' (n+1) l2 (k+1) true→ItK h' (n+2) l3 (k+1) true→IsTrip h' s.heap.objs.size x y v→h'.objs.size=s.heap.objs.size+1→
      (∀(c:Nat) o,c≠n+5→c≠n→c≠n+1→c≠n+2→s.heap.get? c=some o→h'.get? c=some o)→Q (.ref s.heap.objs.size) { s with heap:=h',toks:=tk }) :
    wpAny (model prog w) A (Builtin.«zip.__next__» ⟨[.ref (n+5)],[]⟩) (fun fin s'=>∃v,fin=.done (.ret v)∧Q v s') E s:=by
  obtain ⟨m1,m2,m3⟩:=hl
  have kx:k<xs.size:=(Array.getElem?_eq_some_iff.mp hx).1
  have ky:k<ys.size:=(Array.getElem?_eq_some_iff.mp hy).1
  have kv:k<zs.size:=(Array.getElem?_eq_some_iff.mp hv).1
  have D1:=drawsK (prog:=prog) (w:=w) hh n l1 (adne (by trivial)) xs true
  have D2:=drawsK (prog:=prog) (w:=w) hh (n+1) l2 (adne (by trivial)) ys true
  have D3:=drawsK (prog:=prog) (w:=w) hh (n+2) l3 (adne (by trivial)) zs true
  show wpAny _ _ (field (.ref (n+5)) 2 >>= _) _ _ _;refine wpAny_bind (wpAny_field hz rfl (x:=.bool false) rfl ?_)
  show wpAny _ _ (field (.ref (n+5)) 3 >>= _) _ _ _;refine wpAny_bind (wpAny_field hz rfl (x:=.ref (n+3)) rfl (wpAny_bind (wpAny_seqItems hTI rfl ?_)))
  show wpAny _ _ (Builtin.SmallTypes.ownedTupleIsFree (.ref (n+5)) >>= _) _ _ _
  refine wpAny_bind (notFree hz hT fun g1 z1 t1=>?_)
  simp only [Bool.false_eq_true,if_false]
  refine wpAny_bind ?_
  rw [←Array.forIn_toList]
  simp only [List.forIn_cons,List.forIn_nil]
  refine wpAny_bind (wpAny_bind (wpAny_holding ?_))
  show wpAny _ _ (Builtin.SmallTypes.nextOf (.ref n) >>= _) _ _ _
  refine wpAny_bind (D1.item k _ _ _ kx ⟨h1.at fun o e=>t1.extBut _ _ (adne (by trivial)) e,q1.at fun o e=>t1.extBut _ _ (adne (by trivial)) e⟩ fun x' g2 tk2 p1 st1 t2=>wpAny_pure ?_)
  have ex:x=x':=Option.some.inj (hx.symm.trans p1)
  subst ex
  refine wpAny_pure ?_
  refine wpAny_bind (wpAny_bind (wpAny_holding ?_))
  show wpAny _ _ (Builtin.SmallTypes.nextOf (.ref (n+1)) >>= _) _ _ _
  refine wpAny_bind (D2.item k _ _ _ ky ⟨h2.at fun o e=>t2.extBut _ _ (adne (by trivial)) (t1.extBut _ _ (adne (by trivial)) e),q2.at fun o e=>t2.extBut _ _ (adne (by trivial)) (t1.extBut _ _ (adne (by trivial)) e)⟩ fun y' g4 tk4 p2 st2 t4=>wpAny_pure ?_)
  have ey:y=y':=Option.some.inj (hy.symm.trans p2)
  subst ey
  refine wpAny_pure ?_
  refine wpAny_bind (wpAny_bind (wpAny_holding ?_))
  show wpAny _ _ (Builtin.SmallTypes.nextOf (.ref (n+2)) >>= _) _ _ _
  refine wpAny_bind (D3.item k _ _ _ kv ⟨h3.at fun o e=>t4.extBut _ _ (adne (by trivial)) (t2.extBut _ _ (adne (by trivial)) (t1.extBut _ _ (adne (by trivial)) e)),q3.at fun o e=>t4.extBut _ _ (adne (by trivial)) (t2.extBut _ _ (adne (by trivial)) (t1.extBut _ _ (adne (by trivial)) e))⟩ fun v' g6 tk6 p3 st3 t6=>wpAny_pure ?_)
  have ev:v=v':=Option.some.inj (hv.symm.trans p3)
  subst ev
  refine wpAny_pure (wpAny_pure ?_)
  refine wpAny_bind (wpAny_newTuple ?_ (by show 3≤sizeLine;rw [sizeLine_eq];decide))
  have sz:g6.objs.size=s.heap.objs.size:=by rw [t6.1,t4.1,t2.1,t1.1]
  have z6:IsZipO g6 (n+5) (n+3) (n+4) (rawInt T) true:=t6.extBut _ _ (adne (by trivial)) (t4.extBut _ _ (adne (by trivial)) (t2.extBut _ _ (adne (by trivial)) z1))
  refine wpAny_pure ⟨_,rfl,?_⟩
  show Q (.ref g6.objs.size) _
  have pu:IsTrip (g6.push { cls:=.type "tuple",data:=.seq #[x,y,v] }) g6.objs.size x y v:=Heap.get?_push_size _ rfl
  have ps:(g6.push { cls:=.type "tuple",data:=.seq #[x,y,v] }).objs.size=s.heap.objs.size+1:=by rw [Heap.size_push,sz]
  rw [sz] at pu ⊢
  exact hQ _ _ (Heap.get?_push_of_some _ z6) ((st1.1.at fun o e=>t6.extBut _ _ (adne (by trivial)) (t4.extBut _ _ (adne (by trivial)) e)).at fun o e=>Heap.get?_push_of_some _ e) ((st2.1.at fun o e=>t6.extBut _ _ (adne (by trivial)) e).at fun o e=>Heap.get?_push_of_some _ e) (st3.1.at fun o e=>Heap.get?_push_of_some _ e) pu ps
    fun c o d1 d3 d4 d5 e=>Heap.get?_push_of_some _ (t6.extBut _ _ d5 (t4.extBut _ _ d4 (t2.extBut _ _ d3 (t1.extBut _ _ d1 e))))
theorem zip3End {Q:Fin→Shared→Prop} (hh:A.handled=none) (hl:l1<n) {f0:Value} (hz:IsZipO s.heap (n+5) (n+3) (n+4) f0 bb) (hf:(f0=.none∧bb=false)∨∃T:Nat,f0=rawInt T∧∃o,s.heap.get? T=some o) (hTI:IsTrip s.heap (n+3) (.ref n) (.ref (n+1)) (.ref (n+2)))
    (h1:ItK s.heap n l1 k true) (q1:SqK s.heap l1 xs true) (hend:xs.size=k)
    (hE:∀h' e tk,(∀(c:Nat) o,c≠n+5→c≠n→s.heap.get? c=some o→h'.get? c=some o)→(∃o,h'.get? e=some o∧o.cls=.type "StopIteration")→E (.ref e) { s with heap:=h',toks:=tk }) :
    wpAny (model prog w) A (Builtin.«zip.__next__» ⟨[.ref (n+5)],[]⟩) Q E s:=by
  have D1:=drawsK (prog:=prog) (w:=w) hh n l1 (adne (by trivial)) xs true
  show wpAny _ _ (field (.ref (n+5)) 2 >>= _) _ _ _;refine wpAny_bind (wpAny_field hz rfl (x:=.bool false) rfl ?_)
  show wpAny _ _ (field (.ref (n+5)) 3 >>= _) _ _ _;refine wpAny_bind (wpAny_field hz rfl (x:=.ref (n+3)) rfl (wpAny_bind (wpAny_seqItems hTI rfl ?_)))
  show wpAny _ _ (Builtin.SmallTypes.ownedTupleIsFree (.ref (n+5)) >>= _) _ _ _
  rcases hf with ⟨rfl,rfl⟩ | ⟨T,rfl,oT,hT⟩
  · refine wpAny_bind ?_;unfold Builtin.SmallTypes.ownedTupleIsFree
    refine wpAny_bind (wpAny_field hz rfl (x:=.none) rfl (wpAny_pure ?_));simp only [if_true]
    refine wpAny_bind (wpAny_rule (wpAny_bind (wpAny_field hz rfl (x:=.ref (n+4)) rfl (wpAny_bind (wpAny_setField_rec hz (by simp) fun g1 z1 t1=>?_)))))
    replace z1:IsZip g1 (n+5) (n+3) (n+4) .ellipsis:=z1
    refine wpAny_bind ?_;simp only [List.zipIdx_cons,List.zipIdx_nil,List.forIn_cons,List.forIn_nil];refine wpAny_bind (wpAny_bind (wpAny_onRaise ?_))
    show wpAny _ _ (Builtin.SmallTypes.nextOf (.ref n) >>= _) _ _ _
    have st0:ItK g1 n l1 k true∧SqK g1 l1 xs true:=⟨h1.at fun o e=>t1.extBut _ _ (adne (by trivial)) e,q1.at fun o e=>t1.extBut _ _ (adne (by trivial)) e⟩
    refine wpAny_bind (D1.done _ _ _ (by rw [hend];exact st0) fun g2 e t2 he=>?_)
    obtain ⟨oe,e1,e2⟩:=he
    have z2:IsZip g2 (n+5) (n+3) (n+4) .ellipsis:=t2 _ _ (adne (by trivial)) z1
    have ez:e≠n+5:=fun q=>by subst q;rw [z2] at e1;cases e1;simp at e2
    exact wpAny_setField_rec z2 (by simp) fun g3 _ t3=>hE g3 e _ (fun c o d1 d3 q=>t3.extBut _ _ d1 (t2 _ _ d3 (t1.extBut _ _ d1 q))) ⟨oe,t3.extBut _ _ ez e1,e2⟩
  · refine wpAny_bind (notFree hz hT fun g1 z1 t1=>?_)
    simp only [Bool.false_eq_true,if_false]
    refine wpAny_bind ?_
    rw [←Array.forIn_toList]
    simp only [List.forIn_cons,List.forIn_nil]
    refine wpAny_bind (wpAny_bind (wpAny_holding ?_))
    show wpAny _ _ (Builtin.SmallTypes.nextOf (.ref n) >>= _) _ _ _
    have st0:ItK g1 n l1 k true∧SqK g1 l1 xs true:=⟨h1.at fun o e=>t1.extBut _ _ (adne (by trivial)) e,q1.at fun o e=>t1.extBut _ _ (adne (by trivial)) e⟩
    refine wpAny_bind (D1.done _ _ _ (by rw [hend];exact st0) fun g2 e t2 he=>?_)
    exact hE g2 e _ (fun c o d1 d3 q=>t2 _ _ d3 (t1.extBut _ _ d1 q)) he
end
end L2
namespace L2
open PySem PySem.Spec PyProof.Rows
structure Z3 (h:Heap) (n l1 l2 l3:Nat) (xs ys zs:Array Value) (k:Nat):Prop where
  z:(IsZip h (n+5) (n+3) (n+4) .none∧Ex3 fun a b c=>IsTrip h (n+4) a b c)∨Ex3 fun (T:Nat) (o:Obj) (bb:Bool)=>IsZipO h (n+5) (n+3) (n+4) (rawInt T) bb∧h.get? T=some o∧n+6<T
  t:IsTrip h (n+3) (.ref n) (.ref (n+1)) (.ref (n+2))
  a:ItK h n l1 k true
  b:ItK h (n+1) l2 k true
  c:ItK h (n+2) l3 k true
  d:SqK h l1 xs true
  e:SqK h l2 ys true
  f:SqK h l3 zs true
section
variable {prog:Program}{w:World}{A:Around}{E:Value→Shared→Prop}{s:Shared}
variable {n l1 l2 l3:Nat}{k:Nat}{xs ys zs:Array Value}
theorem Z3.keep {h h':Heap} (st:Z3 h n l1 l2 l3 xs ys zs k) (hl:l1<n∧l2<n∧l3<n) (kp:∀(c:Nat) o,c≠n+6→h.get? c=some o→h'.get? c=some o):Z3 h' n l1 l2 l3 xs ys zs k:=by
  refine ⟨?_,kp _ _ (by trivial) st.t,st.a.at fun o e=>kp _ o (by trivial) e,st.b.at fun o e=>kp _ o (by trivial) e,st.c.at fun o e=>kp _ o (by trivial) e,st.d.at fun o e=>kp _ o (by trivial) e,st.e.at fun o e=>kp _ o (by trivial) e,st.f.at fun o e=>kp _ o (by trivial) e⟩
  rcases st.z with ⟨h1,a,b,c,h2⟩ | ⟨T,o,bb,h1,h2,h3⟩
  · exact .inl ⟨kp _ _ (by trivial) h1,a,b,c,kp _ _ (by trivial) h2⟩
  · exact .inr ⟨T,o,bb,kp _ _ (by trivial) h1,kp _ _ (by trivial) h2,h3⟩
theorem zip3_next {x y v:Value}{Q:Option Value→Shared→Prop} (hl:l1<n∧l2<n∧l3<n) (hsz:n+6<s.heap.objs.size)
    (st:Z3 s.heap n l1 l2 l3 xs ys zs k) (hh:A.handled=none) (hx:xs[k]?=some x) (hy:ys[k]?=some y) (hv:zs[k]?=some v)
    (hQ:∀h' tk,Z3 h' n l1 l2 l3 xs ys zs (k+1)→IsTrip h' s.heap.objs.size x y v→h'.objs.size=s.heap.objs.size+1→(∀(c:Nat) o,c≠n+5→c≠n+4→c≠n→c≠n+1→c≠n+2→s.heap.get? c=some o→h'.get? c=some o)→Q (some (.ref s.heap.objs.size)) { s with heap:=h',toks:=tk }) :
    wpAny (model prog w) A (pyNext (.ref (n+5))) Q E s:=by
  rcases st.z with ⟨hz,a,b,c,hTO⟩ | ⟨T,o,bb,hz,hT,hn⟩
  · have hT':s.TypeIs (.ref (n+5)) "zip" := ⟨_,hz,rfl⟩
    unfold pyNext
    refine wpAny_bind (wpAny_attempt (wpAny_callSpecial?_slot (name:=Str.ofString "__next__") hT' F.slot_zip_next (wpAny_call_entry F.slot_zip_next hT' F.entry_zip_next
      (zip3Item hl hz st.t hTO hh st.a st.b st.c st.d st.e st.f hx hy hv fun h' tk zo t1 t2 t3 T' sz keep=>wpAny_pure ?_) (F.args_zip_next_1 _))))
    refine hQ h' tk ⟨.inr ⟨s.heap.objs.size,_,false,zo,T',hsz⟩,keep _ _ (by trivial) (by trivial) (by trivial) (by trivial) (by trivial) st.t,t1,t2,t3,st.d.at fun o e=>keep _ o (by trivial) (by trivial) (by trivial) (by trivial) (by trivial) e,st.e.at fun o e=>keep _ o (by trivial) (by trivial) (by trivial) (by trivial) (by trivial) e,st.f.at fun o e=>keep _ o (by trivial) (by trivial) (by trivial) (by trivial) (by trivial) e⟩ T' sz keep
  · have hT':s.TypeIs (.ref (n+5)) "zip" := ⟨_,hz,rfl⟩
    unfold pyNext
    refine wpAny_bind (wpAny_attempt (wpAny_callSpecial?_slot (name:=Str.ofString "__next__") hT' F.slot_zip_next (wpAny_call_entry F.slot_zip_next hT' F.entry_zip_next
      (zip3Item2 hl hz hT st.t hh st.a st.b st.c st.d st.e st.f hx hy hv fun h' tk zo t1 t2 t3 T' sz keep=>wpAny_pure ?_) (F.args_zip_next_1 _))))
    refine hQ h' tk ⟨.inr ⟨T,o,true,zo,keep _ _ (by trivial) (by trivial) (by trivial) (by trivial) hT,hn⟩,keep _ _ (by trivial) (by trivial) (by trivial) (by trivial) st.t,t1,t2,t3,st.d.at fun o e=>keep _ o (by trivial) (by trivial) (by trivial) (by trivial) e,st.e.at fun o e=>keep _ o (by trivial) (by trivial) (by trivial) (by trivial) e,st.f.at fun o e=>keep _ o (by trivial) (by trivial) (by trivial) (by trivial) e⟩ T' sz fun c o d1 _ d3 d4 d5 e=>keep c o d1 d3 d4 d5 e
theorem zip3_end {Q:Option Value→Shared→Prop} (hl:l1<n∧l2<n∧l3<n) (st:Z3 s.heap n l1 l2 l3 xs ys zs k) (hh:A.handled=none) (hend:xs.size=k)
    (hQ:∀h' tk,(∀(c:Nat) o,c≠n+5→c≠n→s.heap.get? c=some o→h'.get? c=some o)→Q none { s with heap:=h',toks:=tk }) :
    wpAny (model prog w) A (pyNext (.ref (n+5))) Q E s:=by
  obtain ⟨f0,bb,hz,hf⟩:Ex2 fun f0 bb=>IsZipO s.heap (n+5) (n+3) (n+4) f0 bb∧((f0=.none∧bb=false)∨∃T:Nat,f0=rawInt T∧∃o,s.heap.get? T=some o):=by
    rcases st.z with ⟨hz,_⟩ | ⟨T,o,bb,hz,hT,hn⟩
    · exact ⟨_,_,hz,.inl ⟨rfl,rfl⟩⟩
    · exact ⟨_,_,hz,.inr ⟨T,rfl,o,hT⟩⟩
  have hT':s.TypeIs (.ref (n+5)) "zip" := ⟨_,hz,rfl⟩
  unfold pyNext
  refine wpAny_bind (wpAny_attempt (wpAny_callSpecial?_slot (name:=Str.ofString "__next__") hT' F.slot_zip_next (wpAny_call_entry F.slot_zip_next hT' F.entry_zip_next
    (zip3End hh hl.1 hz hf st.t st.a st.d hend fun h' e tk hk he=>?_) (F.args_zip_next_1 _))))
  obtain ⟨o,ho,hc⟩:=he
  exact wpAny_bind (wpAny_isInstance (T := "StopIteration") (b:=true) ⟨o,ho,hc⟩ isSubtype_stop (wpAny_pure (hQ _ tk hk)))
end
section
variable {prog:Program}{w:World}{A:Around}{E:Value→Shared→Prop}{R:Result→Shared→Prop}
variable {n l1 l2 l3:Nat}{xs ys zs:Array Value}
def Trips (h:Heap) (ts:List Nat) (xs ys zs:Array Value):Prop:=∀(i:Nat) t,ts[i]?=some t→Ex3 fun x y v=>xs[i]?=some x∧ys[i]?=some y∧zs[i]?=some v∧IsTrip h t x y v
theorem fill_zip3 (hl:l1<n∧l2<n∧l3<n) (hh:A.handled=none) (ly:ys.size=xs.size) (lz:zs.size=xs.size) (hz:xs.size≤4000) :
    ∀(r i:Nat) (ts:List Nat) (c:Nat) (s:Shared),xs.size - i=r→i≤xs.size→Z3 s.heap n l1 l2 l3 xs ys zs i→n+6<s.heap.objs.size→ts.length=i→(∀t∈ts,n+6<t)→ts.Nodup→Trips s.heap ts xs ys zs→
      s.heap.get? (n+6)=some { cls:=.type "list",data:=.seq (ts.map Value.ref).toArray c }→
      (∀h' tk ts' c',ts'.length=xs.size→(∀t∈ts',n+6<t)→ts'.Nodup→Trips h' ts' xs ys zs→h'.get? (n+6)=some { cls:=.type "list",data:=.seq (ts'.map Value.ref).toArray c' }→(∀(c:Nat) o,c<n→s.heap.get? c=some o→h'.get? c=some o)→(∀t∈ts',t∉ts→s.heap.get? t=none)→R (.ok (.ret .none)) { s with heap:=h',toks:=tk })→
      codeAny (model prog w) A (.builtin "list.extend.loop" ⟨[.ref (n+6),.ref (n+5),.none],[]⟩) R s:=by
  intro r
  induction r with
  | zero=>
    intro i ts c s hr hi st hs lt ht nd tr hS hR
    have e:i=xs.size:=by trivial
    refine codeAny_builtin F.entry_extend_loop ?_
    rw [A.under_plainId F.plain_extend_loop]
    show wpAny _ _ (pyNext (Value.ref (n+5)) >>= _) _ _ _
    refine wpAny_bind (zip3_end hl st (by simpa using hh) e.symm fun h' tk keep=>?_)
    refine wpAny_pure (hR h' tk ts c (by trivial) ht nd (fun j t hj=>?_) (keep _ _ (by trivial) (by trivial) hS) (fun b o hb q=>keep b o (by trivial) (by trivial) q) fun t h1 h2=>absurd h1 h2)
    obtain ⟨x,y,v,a1,a2,a3,a4⟩:=tr j t hj
    have:=ht t (List.mem_of_getElem? hj)
    exact ⟨x,y,v,a1,a2,a3,keep _ _ (by trivial) (by trivial) a4⟩
  | succ r ih=>
    intro i ts c s hr hi st hs lt ht nd tr hS hR
    have lt':i<xs.size:=by trivial
    have hx:xs[i]?=some xs[i]:=Array.getElem?_eq_getElem (by trivial)
    have hy:ys[i]?=some ys[i]:=Array.getElem?_eq_getElem (by trivial)
    have hv:zs[i]?=some zs[i]:=Array.getElem?_eq_getElem (by trivial)
    refine codeAny_builtin F.entry_extend_loop ?_
    rw [A.under_plainId F.plain_extend_loop]
    show wpAny _ _ (pyNext (Value.ref (n+5)) >>= _) _ _ _
    refine wpAny_bind (zip3_next hl hs st (by simpa using hh) hx hy hv fun h' tk st' T' sz keep=>?_)
    have hS':=keep _ _ (by trivial) (by trivial) (by trivial) (by trivial) (by trivial) hS
    show wpAny _ _ (updateSeq (n+6) (·.push (.ref s.heap.objs.size)) >>= _) _ _ _
    refine wpAny_bind (wpAny_updateSeq (s:={ s with heap:=h',toks:=tk }) hS' rfl ?_)
    have e2:=Heap.get?_update_self (Obj.mapSeq (·.push (Value.ref s.heap.objs.size))) hS' rfl
    obtain ⟨c2,e3⟩:∃c2,(h'.update (n+6) (Obj.mapSeq (·.push (Value.ref s.heap.objs.size)))).get? (n+6)=some { cls:=.type "list",data:=.seq ((ts++[s.heap.objs.size]).map Value.ref).toArray c2 }:=by
      rw [e2]
      simp only [Obj.mapSeq,List.map_append,List.map_cons,List.map_nil,List.push_toArray]
      exact ⟨_,rfl⟩
    have oth:∀(b:Nat) o,b≠n+6→h'.get? b=some o→(h'.update (n+6) (Obj.mapSeq (·.push (Value.ref s.heap.objs.size)))).get? b=some o:=fun b o hb q=>(Heap.get?_update_other _ _ (adne (Ne.symm hb))).trans q
    have fr:s.heap.get? s.heap.objs.size=none:=Heap.get?_none_of_le (Nat.le_refl _)
    have old:∀t∈ts,t<s.heap.objs.size:=fun t hm=>by
      obtain ⟨j,hj⟩:=List.getElem?_of_mem hm
      obtain ⟨_,_,_,_,_,_,a4⟩:=tr j t hj
      exact Heap.lt_size a4
    refine wpAny_pure ⟨plainId_quiet F.plain_extend_loop _,ih (i+1) (ts++[s.heap.objs.size]) c2 _ (by trivial) (by trivial) (st'.keep hl oth) (by show n+6<(h'.update _ _).objs.size;rw [Heap.size_update,sz];trivial) (by rw [List.length_append,lt];rfl) (fun t hm=>?_) (List.nodup_append.mpr ⟨nd,by simp,fun a ha b hb e=>?_⟩) (fun j t hj=>?_) e3 fun h3 tk3 ts3 c3 l3' g3 n3 tr3 e4 k3 f3=>hR h3 tk3 ts3 c3 l3' g3 n3 tr3 e4 (fun b o hb q=>k3 b o hb (oth b o (by trivial) (keep b o (by trivial) (by trivial) (by trivial) (by trivial) (by trivial) q))) fun t h1 h2=>?_⟩
    · rcases List.mem_append.mp hm with hm | hm
      · exact ht t hm
      · rw [List.mem_singleton.mp hm];exact hs
    · rw [List.mem_singleton] at hb
      have:=old a ha
      rw [e,hb] at this
      exact absurd this (Nat.lt_irrefl _)
    · by_cases hjl:j<ts.length
      · rw [List.getElem?_append_left hjl] at hj
        obtain ⟨x,y,v,a1,a2,a3,a4⟩:=tr j t hj
        have:=ht t (List.mem_of_getElem? hj)
        exact ⟨x,y,v,a1,a2,a3,oth _ _ (by trivial) (keep _ _ (by trivial) (by trivial) (by trivial) (by trivial) (by trivial) a4)⟩
      · have ej:j=i:=by
          have:=(List.getElem?_eq_some_iff.mp hj).1
          rw [List.length_append] at this
          simp at this
          trivial
        subst ej
        rw [List.getElem?_append_right (by trivial),lt,Nat.sub_self] at hj
        simp at hj
        subst hj
        exact ⟨_,_,_,hx,hy,hv,oth _ _ (by trivial) T'⟩
    · by_cases hm:t=s.heap.objs.size
      · rw [hm];exact fr
      · have q:=f3 t h1 (fun z=>by
          rcases List.mem_append.mp z with z | z
          · exact h2 z
          · exact hm (List.mem_singleton.mp z))
        cases e:s.heap.get? t with
        | none=>rfl
        | some o=>
          have hlt:=Heap.lt_size e
          have g:=g3 t h1
          have:=oth t o (by trivial) (keep t o (by trivial) (by trivial) (by trivial) (by trivial) (by trivial) e)
          rw [show (h'.update (n+6) (Obj.mapSeq (·.push (Value.ref s.heap.objs.size)))).get? t=none from q] at this
          cases this
end
theorem zip_len_miss:typeLookup (.type "zip") "__len__" = pure none:=am_miss_of_fast (by kernel_rfl)
theorem zip_hint_miss:typeLookup (.type "zip") "__length_hint__" = pure none:=am_miss_of_fast (by kernel_rfl)
theorem typeCall_zip_3 (a b c:Value):checkTypeCall "zip" ⟨[a,b,c],[]⟩=pure ():=by kernel_rfl
theorem newCall_zip_3 (a b c:Value):checkBuiltinCall "zip.__new__" ⟨[.type "zip",a,b,c],[]⟩=pure ():=by kernel_rfl
theorem args_object_init_4 (a b c d:Value):argsOk "object.__init__" ⟨[a,b,c,d],[]⟩:=by
  unfold argsOk;rw [signature?_of (id := "object.__init__") (n:=['_','_','t','i','n','i','_','_']) (o:=['t','c','e','j','b','o']) (by kernel_rfl) F.owner_object];kernel_rfl
abbrev y3A (h:Heap) (l1:Addr):Heap:=h.push { cls:=.type "list_iterator",data:=.fields #[.ref l1,.int 0 0] }
abbrev y3B (h:Heap) (l1 l2:Addr):Heap:=(y3A h l1).push { cls:=.type "list_iterator",data:=.fields #[.ref l2,.int 0 0] }
abbrev y3C (h:Heap) (l1 l2 l3:Addr):Heap:=(y3B h l1 l2).push { cls:=.type "list_iterator",data:=.fields #[.ref l3,.int 0 0] }
abbrev y3D (h:Heap) (l1 l2 l3:Addr):Heap:=(y3C h l1 l2 l3).push { cls:=.type "tuple",data:=.seq #[.ref h.objs.size,.ref (y3A h l1).objs.size,.ref (y3B h l1 l2).objs.size] }
abbrev y3E (h:Heap) (l1 l2 l3:Addr):Heap:=(y3D h l1 l2 l3).push { cls:=.type "tuple",data:=.seq #[.none,.none,.none] }
abbrev y3F (h:Heap) (l1 l2 l3:Addr):Heap:=(y3E h l1 l2 l3).push { cls:=.type "zip",data:=.fields #[.none,.bool false,.bool false,.ref (y3C h l1 l2 l3).objs.size,.ref (y3D h l1 l2 l3).objs.size] }
set_option maxHeartbeats 8000000 in
theorem zip3New (l1 l2 l3:Addr) (xs ys zs:Array Value) :
    Meets (Builtin.«zip.__new__» ⟨[.type "zip",.ref l1,.ref l2,.ref l3],[]⟩) (fun _ R s=>SqK s.heap l1 xs true∧SqK s.heap l2 ys true∧SqK s.heap l3 zs true∧R (.ok (.ret (.ref (y3E s.heap l1 l2 l3).objs.size))) { s with heap:=y3F s.heap l1 l2 l3 }):=
  .of_wp fun prog w A R s h=>by
    obtain ⟨hp,g,d,tk,os⟩:=s;obtain ⟨q1,q2,q3,h⟩:=h
    have hsub:=sub_zip
    have L2':SqK (Shared.heap ⟨y3A hp l1,g,d,tk,os⟩) l2 ys true:=SqK.at q2 fun o e=>Heap.get?_push_of_some _ e
    have L3':SqK (Shared.heap ⟨y3B hp l1 l2,g,d,tk,os⟩) l3 zs true:=SqK.at q3 fun o e=>Heap.get?_push_of_some _ (Heap.get?_push_of_some _ e)
    have g1:Heap.IsList (Shared.heap ⟨hp,g,d,tk,os⟩) l1 xs:=q1
    have g2:Heap.IsList (Shared.heap ⟨y3A hp l1,g,d,tk,os⟩) l2 ys:=L2'
    have g3:Heap.IsList (Shared.heap ⟨y3B hp l1 l2,g,d,tk,os⟩) l3 zs:=L3'
    wp_walk using wpAny_pyIter_list g1,wpAny_pyIter_list g2,wpAny_pyIter_list g3
    exact ⟨_,rfl,h⟩
section
variable {prog:Program}{w:World}{A:Around}{E:Value→Shared→Prop}{s:Shared}
theorem call_zip3 {l1 l2 l3:Addr}{xs ys zs:Array Value}{Q:Value→Shared→Prop} (q1:SqK s.heap l1 xs true) (q2:SqK s.heap l2 ys true) (q3:SqK s.heap l3 zs true)
    (h:∀h',Z3 h' s.heap.objs.size l1 l2 l3 xs ys zs 0→h'.objs.size=s.heap.objs.size+6→(∀c o,s.heap.get? c=some o→h'.get? c=some o)→IsZip h' (s.heap.objs.size+5) (s.heap.objs.size+3) (s.heap.objs.size+4) .none→Q (.ref (s.heap.objs.size+5)) { s with heap:=h' }) :
    wpAny (model prog w) A (call (.type "zip") [.ref l1,.ref l2,.ref l3]) Q E s:=by
  refine callType_new F.called_zip (by decide) (typeCall_zip_3 _ _ _) (newCall_zip_3 _ _ _) (fun obj=>args_object_init_4 obj _ _ _) F.entry_zip_new (zip3New l1 l2 l3 xs ys zs) ⟨q1,q2,q3,?_⟩
  have s1:(y3A s.heap l1).objs.size=s.heap.objs.size+1:=Heap.size_push ..
  have s2:(y3B s.heap l1 l2).objs.size=s.heap.objs.size+2:=by rw [Heap.size_push,s1]
  have s3:(y3C s.heap l1 l2 l3).objs.size=s.heap.objs.size+3:=by rw [Heap.size_push,s2]
  have s4:(y3D s.heap l1 l2 l3).objs.size=s.heap.objs.size+4:=by rw [Heap.size_push,s3]
  have s5:(y3E s.heap l1 l2 l3).objs.size=s.heap.objs.size+5:=by rw [Heap.size_push,s4]
  have s6:(y3F s.heap l1 l2 l3).objs.size=s.heap.objs.size+6:=by rw [Heap.size_push,s5]
  have g6:(y3F s.heap l1 l2 l3).get? (y3E s.heap l1 l2 l3).objs.size=some _:=Heap.get?_push_size _ rfl
  have g5:(y3F s.heap l1 l2 l3).get? (y3D s.heap l1 l2 l3).objs.size=some _:=Heap.get?_push_of_some _ (Heap.get?_push_size _ rfl)
  have g4:(y3F s.heap l1 l2 l3).get? (y3C s.heap l1 l2 l3).objs.size=some _:=Heap.get?_push_of_some _ (Heap.get?_push_of_some _ (Heap.get?_push_size _ rfl))
  have g3:(y3F s.heap l1 l2 l3).get? (y3B s.heap l1 l2).objs.size=some _:=Heap.get?_push_of_some _ (Heap.get?_push_of_some _ (Heap.get?_push_of_some _ (Heap.get?_push_size _ rfl)))
  have g2:(y3F s.heap l1 l2 l3).get? (y3A s.heap l1).objs.size=some _:=Heap.get?_push_of_some _ (Heap.get?_push_of_some _ (Heap.get?_push_of_some _ (Heap.get?_push_of_some _ (Heap.get?_push_size _ rfl))))
  have g1:(y3F s.heap l1 l2 l3).get? s.heap.objs.size=some _:=Heap.get?_push_of_some _ (Heap.get?_push_of_some _ (Heap.get?_push_of_some _ (Heap.get?_push_of_some _ (Heap.get?_push_of_some _ (Heap.get?_push_size _ rfl)))))
  have up:∀c o,s.heap.get? c=some o→(y3F s.heap l1 l2 l3).get? c=some o:=fun c o x=>Heap.get?_push_of_some _ (Heap.get?_push_of_some _ (Heap.get?_push_of_some _ (Heap.get?_push_of_some _ (Heap.get?_push_of_some _ (Heap.get?_push_of_some _ x)))))
  show _∧_
  rw [s3,s4,s5] at g6
  rw [s1,s2,s3] at g4
  rw [s4] at g5
  rw [s2] at g3
  rw [s1] at g2
  rw [s5]
  exact ⟨⟨_,g6,rfl⟩,h _ ⟨.inl ⟨g6,_,_,_,g5⟩,g4,⟨_,g1,rfl,rfl⟩,⟨_,g2,rfl,rfl⟩,⟨_,g3,rfl,rfl⟩,q1.at fun o e=>up _ o e,q2.at fun o e=>up _ o e,q3.at fun o e=>up _ o e⟩ s6 up g6⟩
set_option maxHeartbeats 1000000 in
theorem call_listZip3 {n l1 l2 l3:Nat}{xs ys zs:Array Value}{Q:Value→Shared→Prop} (hl:l1<n∧l2<n∧l3<n) (st:Z3 s.heap n l1 l2 l3 xs ys zs 0) (hz:IsZip s.heap (n+5) (n+3) (n+4) .none) (hs:s.heap.objs.size=n+6) (hh:A.handled=none) (ly:ys.size=xs.size) (lz:zs.size=xs.size) (h4:xs.size≤4000)
    (h:∀h' tk ts' c',ts'.length=xs.size→(∀t∈ts',n+6<t)→ts'.Nodup→Trips h' ts' xs ys zs→h'.get? (n+6)=some { cls:=.type "list",data:=.seq (ts'.map Value.ref).toArray c' }→(∀(c:Nat) o,c<n→s.heap.get? c=some o→h'.get? c=some o)→Q (.ref (n+6)) { s with heap:=h',toks:=tk }) :
    wpAny (model prog w) A (call (.type "list") [.ref (n+5)]) Q E s:=by
  refine callType_codes (Q₁:=fun obj s₁=>obj=.ref s.heap.objs.size∧s₁={ s with heap:=s.heap.push { cls:=.type "list",data:=.seq #[] } }) F.called_list (F.typeCall_list_1 _) F.entry_list_init (code_list_new _ ⟨rfl,rfl⟩) fun obj s₁ h₁=>?_
  obtain ⟨rfl,rfl⟩:=h₁
  have hS:(s.heap.push { cls:=.type "list",data:=.seq #[] }).get? (n+6)=some { cls:=.type "list",data:=.seq #[] }:=by rw [←hs];exact Heap.get?_push_size _ rfl
  rw [hs]
  refine ⟨⟨_,hS,rfl⟩,F.args_list_init_2 _ _,?_⟩
  have st1:Z3 (s.heap.push { cls:=.type "list",data:=.seq #[] }) n l1 l2 l3 xs ys zs 0:=st.keep hl fun c o _ e=>Heap.get?_push_of_some _ e
  show wpAny _ _ (do let old ←Builtin.List.listItems (.ref (n+6));Builtin.List.listUpdate (.ref (n+6)) (fun _=>#[]);letGo old.toList.reverse;Builtin.List.listExtendWith (.ref (n+6)) (.ref (n+5)) .none) _ _ _
  refine wpAny_bind ?_
  unfold Builtin.List.listItems
  refine wpAny_bind (wpAny_seqItems hS rfl (wpAny_pure ?_))
  show wpAny _ _ (updateSeq (n+6) (fun _=>#[]) >>= fun _=>letGo (#[]:Array Value).toList.reverse >>= fun _=>Builtin.List.listExtendWith (.ref (n+6)) (.ref (n+5)) .none) _ _ _
  refine wpAny_bind (wpAny_updateSeq hS rfl ?_)
  have hS₂:=Heap.get?_update_self (Obj.mapSeq (fun _=>(#[]:Array Value))) hS rfl
  have oth:∀(b:Nat) o,b≠n+6→(s.heap.push { cls:=.type "list",data:=.seq #[] }).get? b=some o→((s.heap.push { cls:=.type "list",data:=.seq #[] }).update (n+6) (Obj.mapSeq (fun _=>(#[]:Array Value)))).get? b=some o:=
    fun b o hb e=>(Heap.get?_update_other _ _ (adne (Ne.symm hb))).trans e
  refine wpAny_bind (wpAny_letGo ?_)
  have st2:=st1.keep hl oth
  have hz2:=oth _ _ (by trivial) (Heap.get?_push_of_some { cls:=.type "list",data:=.seq #[] } hz)
  unfold Builtin.List.listExtendWith
  refine wpAny_bind (wpAny_typeOf (T := "zip") ⟨_,hz2,rfl⟩ ?_)
  have h1:Builtin.List.listSameRef (.ref (n+6)) (.ref (n+5))=false:=by simp [Builtin.List.listSameRef]
  have h2:(Value.type "zip" == Value.type "list")=false:=by decide
  have h3:(Value.type "zip" == Value.type "tuple")=false:=by decide
  simp only [h1,h2,h3,Bool.or_false,Bool.false_eq_true,if_false]
  refine wpAny_bind (wpAny_pyIter_zip hz2 ?_)
  refine wpAny_bind (wpAny_holding ?_)
  unfold Builtin.List.listLengthHint
  refine wpAny_bind (wpAny_specialOf (T := "zip") ⟨_,hz2,rfl⟩ zip_len_miss ?_)
  refine wpAny_ite_split (fun hab=>absurd hab (by decide)) (fun _=>?_)
  refine wpAny_ite_split (fun hab=>absurd hab (by decide)) (fun _=>?_)
  refine wpAny_bind (wpAny_specialOf (T := "zip") ⟨_,hz2,rfl⟩ zip_hint_miss ?_)
  refine wpAny_pure ?_
  simp only [Bool.true_or,if_true]
  refine wpAny_bind (wpAny_rule ?_)
  refine wpAny_bind ?_
  show wpAny _ _ (updateSeq (n+6) (·.push .none) >>= fun _=>updateSeq (n+6) (·.pop)) _ _ _
  refine wpAny_bind (wpAny_updateSeq hS₂ rfl ?_)
  have hS₃:=Heap.get?_update_self (Obj.mapSeq (·.push Value.none)) hS₂ rfl
  refine wpAny_updateSeq (hz:=by seq_fits) hS₃ rfl ?_
  have hS₄:=Heap.get?_update_self (Obj.mapSeq (·.pop)) hS₃ rfl
  obtain ⟨c4,e4⟩:∃c4,((((s.heap.push { cls:=.type "list",data:=.seq #[] }).update (n+6) (Obj.mapSeq (fun _=>(#[]:Array Value)))).update (n+6) (Obj.mapSeq (·.push Value.none))).update (n+6) (Obj.mapSeq (·.pop))).get? (n+6)=some { cls:=.type "list",data:=.seq (([]:List Nat).map Value.ref).toArray c4 }:=by
    rw [hS₄]
    simp only [Obj.mapSeq,List.map_nil]
    exact ⟨_,rfl⟩
  have oth4:∀(b:Nat) o,b≠n+6→(s.heap.push { cls:=.type "list",data:=.seq #[] }).get? b=some o→((((s.heap.push { cls:=.type "list",data:=.seq #[] }).update (n+6) (Obj.mapSeq (fun _=>(#[]:Array Value)))).update (n+6) (Obj.mapSeq (·.push Value.none))).update (n+6) (Obj.mapSeq (·.pop))).get? b=some o:=
    fun b o hb e=>(Heap.get?_update_other _ _ (adne (Ne.symm hb))).trans ((Heap.get?_update_other _ _ (adne (Ne.symm hb))).trans (oth b o hb e))
  refine wpAny_pure ⟨plainId_quiet F.plain_extend_loop _,?_⟩
  refine fill_zip3 hl (by simpa using hh) ly lz h4 xs.size 0 [] c4 _ rfl (Nat.zero_le _) (st1.keep hl oth4) (by show n+6<Array.size _;rw [Heap.size_update,Heap.size_update,Heap.size_update,Heap.size_push,hs];trivial) rfl (fun t ht=>(by cases ht)) List.nodup_nil (fun j t hj=>(by simp at hj)) e4 fun h' tk ts' c' l g nd tr e k f=>?_
  exact ⟨rfl,h h' tk ts' c' l g nd tr e fun c o hc q=>k c o hc (oth4 c o (by trivial) (Heap.get?_push_of_some _ q))⟩
end
def ovl (H:Hp) (N:Addr→Option HO):Hp:=fun b=>match N b with | some o=>some o | none=>H b
theorem ovl_some {H:Hp}{N:Addr→Option HO}{b:Addr}{o:HO} (h:N b=some o):ovl H N b=some o:=by unfold ovl;rw [h]
theorem ovl_none {H:Hp}{N:Addr→Option HO}{b:Addr} (h:N b=none):ovl H N b=H b:=by unfold ovl;rw [h]
section
variable {X:Cx}{pins:List (Addr×Obj)}{σ:St}{H:Hp}{s:Shared}{h':Heap}
theorem Inv.many {t':Nat}{N:Addr→Option HO} (I:Inv X pins σ H s) (k:∀b u,s.heap.get? b=some u→h'.get? b=some u)
    (hN:∀b o,N b=some o→s.heap.objs.size≤b) (new:∀b o,N b=some o→ObjOk X.prog X.w (ovl H N) h' b o):Inv X pins σ (ovl H N) { s with heap:=h',toks:=t' }:=by
  have old:∀b,b<s.heap.objs.size→N b=none:=fun b hb=>by
    cases e:N b with
    | none=>rfl
    | some o=>exact absurd (Nat.lt_of_lt_of_le hb (hN b o e)) (Nat.lt_irrefl _)
  have hs:∀b u,H b=some u→ovl H N b=some u:=fun b u e=>by rw [ovl_none (old b (I.hok.lt e))];exact e
  refine I.step (g':=s.gens) (d':=s.drawn) (ch:=[]) (fun b hb=>(by cases hb)) (fun b o _ _ _ e _=>k b o e) (fun b o _ _ _ e _=>⟨o.slots,k b o e⟩) (fun b o _ e n=>?_)
    (fun b o _ e=>⟨o,k b o e⟩) (fun b xs e=>hs b _ e) (fun b o u e=>hs b _ e) (fun b ps e=>⟨#[],by rw [hs b _ e];simp⟩) (fun m hm=>?_) (fun b u e=>?_) I.bare
  · rw [ovl_none (old b (Heap.lt_size e))];exact n
  · obtain ⟨o,es,ep,ho,r⟩:=hm
    exact ⟨o,es,ep,k _ o ho,r⟩
  · cases hb:N b with
    | some o=>
      rw [ovl_some hb] at e
      cases e
      exact new b _ hb
    | none=>
      rw [ovl_none hb] at e
      exact (I.hok b u e).stay (fun c v hc q=>k c v q) (fun c q=>hs c _ q) fun c xs q=>hs c _ q
end
def tListZ3 (K:PySem.W.Frag) (ta:TA):TE:=fun σ H Q=>ta σ H fun vs H1=>Ex6 fun (a1 a2 a3:Addr) (xs ys zs:List V)=>vs=[.ref a1,.ref a2,.ref a3]∧SqL K H1 a1 xs∧SqL K H1 a2 ys∧SqL K H1 a3 zs∧ys.length=xs.length∧zs.length=xs.length∧xs.length≤4000∧
  ∀(l:Addr) (ts:List Addr) (H':Hp),Same H1 H'→H1 l=none→H' l=some (.lst (ts.map V.ref))→ts.length=xs.length→(∀(i:Nat) t,ts[i]?=some t→Ex3 fun x y z=>xs[i]?=some x∧ys[i]?=some y∧zs[i]?=some z∧H' t=some (.tup [x,y,z]))→Q (.ref l) H'
section
variable {X:Cx}{K:PySem.W.Frag}{a b c:Expr}{ta:TA}{p1 p2 p3 p4:Pos}
theorem pe_listZ3 (hc:X.calm=true) (hg1:Gl X "list") (hm1:X.mg "list" = none) (hg2:Gl X "zip") (hm2:X.mg "zip" = none) (ha:PA X [a,b,c] ta) (ek:X.K=K:=by rfl) (hs:starEach [a,b,c] X.env=[(false,eval a X.env),(false,eval b X.env),(false,eval c X.env)]:=by rfl) (hs2:starEach [b,c] X.env=[(false,eval b X.env),(false,eval c X.env)]:=by rfl)
    (hs3:starEach [Expr.Call (.Name "zip" p2) [a,b,c] [] p3] X.env=[(false,eval (Expr.Call (.Name "zip" p2) [a,b,c] [] p3) X.env)]:=by rfl) :
    PE X (.Call (.Name "list" p1) [.Call (.Name "zip" p2) [a,b,c] [] p3] [] p4) (tListZ3 K ta):=by
  subst ek
  intro pins s σ H Q I h
  refine wpAny_Call_Name_kw (ld_blt I hg1 hm1 boot_ty_list ?_ (by decide) (by decide))
  refine PyProof.Rows.callWith_type1 ?_ hs3 rfl
  rw [hs3]
  show wpAny _ _ (spliced ((false,eval (Expr.Call (.Name "zip" p2) [a,b,c] [] p3) X.env) :: [])) _ _ s
  refine Calls.spliced_cons ?_
  refine Call_ (ld_blt I hg2 hm2 boot_zip (PyProof.Rows.callWith_type1 (thn (ha p3 pins s σ H _ I h) fun us s1 ⟨vs,H1,I1,r1,q1⟩=>?_) (by rw [hs,hs2]) (by rw [hs2];rfl)))
  obtain ⟨a1,a2,a3,xs,ys,zs,rfl,p1,p2,p3,ly,lz,h4,q⟩:=q1
  obtain ⟨u1,u2,u3,rfl,ru1,ru2,ru3⟩:Ex3 fun u1 u2 u3=>us=[u1,u2,u3]∧RelV (.ref a1) u1∧RelV (.ref a2) u2∧RelV (.ref a3) u3:=by
    cases r1 with
    | cons r1 r=>
    cases r with
    | cons r2 r=>
    cases r with
    | cons r3 r=>
    cases r
    exact ⟨_,_,_,rfl,r1,r2,r3⟩
  obtain rfl:u1=.ref a1:=ru1
  obtain rfl:u2=.ref a2:=ru2
  obtain rfl:u3=.ref a3:=ru3
  obtain ⟨its1,rv1,k1⟩:=I1.seqC (c:=true) p1
  obtain ⟨its2,rv2,k2⟩:=I1.seqC (c:=true) p2
  obtain ⟨its3,rv3,k3⟩:=I1.seqC (c:=true) p3
  have d1:=k1.lt
  have d2:=k2.lt
  have d3:=k3.lt
  have l1:=rv1.length
  have l2:=rv2.length
  have l3:=rv3.length
  refine call_zip3 k1 k2 k3 fun h' st sz hk hz=>Calls.spliced_nil ?_
  refine call_listZip3 (s:={ s1 with heap:=h' }) ⟨d1,d2,d3⟩ st hz sz (I1.ok.hd hc) (by simp;trivial) (by simp;trivial) (by simp;trivial) fun h2 tk ts c' lt gt nd tr hL kp=>?_
  have lts:ts.length=xs.length:=by rw [lt];simp [l1]
  let N:Addr→Option HO:=fun b=>if b=s1.heap.objs.size+6 then some (.lst (ts.map V.ref)) else if b∈ts then some (.tup [xs.getD (ts.idxOf b) .non,ys.getD (ts.idxOf b) .non,zs.getD (ts.idxOf b) .non]) else none
  have N6:N (s1.heap.objs.size+6)=some (.lst (ts.map V.ref)):=if_pos rfl
  have Nt:∀(i:Nat) t,ts[i]?=some t→N t=some (.tup [xs.getD i .non,ys.getD i .non,zs.getD i .non]):=fun i t hi=>by
    have hm:=List.mem_of_getElem? hi
    have hix:ts.idxOf t=i:=by
      obtain ⟨hj,e⟩:=List.getElem?_eq_some_iff.mp hi
      have h1:ts.idxOf t<ts.length:=List.idxOf_lt_length_of_mem hm
      exact nodup_inj nd h1 hj (by rw [List.getElem_idxOf h1,e])
    show (if _ then _ else _)=_
    rw [if_neg (fun z=>absurd (gt t hm) (by rw [z];exact Nat.lt_irrefl _)),if_pos hm,hix]
  have k9:∀b u,s1.heap.get? b=some u→h2.get? b=some u:=fun b u e=>kp b u (Heap.lt_size e) (hk b u e)
  have vals:∀ts:List Nat,Vals (ts.map V.ref) (ts.map Value.ref):=fun ts=>by
    induction ts with
    | nil=>exact .nil
    | cons t r ih=>exact .cons rfl ih
  have get':∀{xs:List V}{i:Nat},i<xs.length→xs[i]?=some (xs.getD i .non):=fun {xs i} hi=>by simp [List.getElem?_eq_getElem hi]
  have I3:=I1.many (h':=h2) (t':=tk) (N:=N) k9 (fun b o e=>?_) (fun b o e=>?_)
  · refine ⟨.ref (s1.heap.objs.size+6),ovl H1 N,I3,rfl,q _ ts _ (fun b u e=>?_) (I1.hok.fresh (Nat.le_add_right _ _)) (ovl_some N6) lts fun i t hi=>?_⟩
    · rw [ovl_none]
      · exact e
      · have:=I1.hok.lt e
        show (if _ then _ else _)=_
        rw [if_neg (fun z=>absurd this (by rw [z];exact Nat.not_lt.mpr (Nat.le_add_right _ _))),if_neg fun hm=>?_]
        exact absurd this (Nat.not_lt.mpr (Nat.le_trans (Nat.le_add_right _ _) (Nat.le_of_lt (gt b hm))))
    · have hi':i<xs.length:=by rw [←lts];exact (List.getElem?_eq_some_iff.mp hi).1
      exact ⟨_,_,_,get' hi',get' (by trivial),get' (by trivial),ovl_some (Nt i t hi)⟩
  · by_cases h6:b=s1.heap.objs.size+6
    · rw [h6];exact Nat.le_add_right _ _
    · have e':(if b∈ts then some (HO.tup [xs.getD (ts.idxOf b) .non,ys.getD (ts.idxOf b) .non,zs.getD (ts.idxOf b) .non]) else none)=some o:=by rw [←e];exact (if_neg h6).symm
      by_cases hm:b∈ts
      · exact Nat.le_trans (Nat.le_add_right _ _) (Nat.le_of_lt (gt b hm))
      · rw [if_neg hm] at e';cases e'
  · by_cases h6:b=s1.heap.objs.size+6
    · subst h6
      rw [N6] at e
      cases e
      exact ⟨by rw [List.length_map,lts,sizeLine_eq];trivial,ts.map Value.ref,c',vals ts,hL⟩
    · have e':(if b∈ts then some (HO.tup [xs.getD (ts.idxOf b) .non,ys.getD (ts.idxOf b) .non,zs.getD (ts.idxOf b) .non]) else none)=some o:=by rw [←e];exact (if_neg h6).symm
      by_cases hm:b∈ts
      · rw [if_pos hm] at e'
        cases e'
        have h1:ts.idxOf b<ts.length:=List.idxOf_lt_length_of_mem hm
        obtain ⟨x,y,v,a1,a2,a3,a4⟩:=tr (ts.idxOf b) b (by rw [List.getElem?_eq_getElem h1,List.getElem_idxOf h1])
        obtain ⟨x',ex,rx⟩:=rv1.get (get' (xs:=xs) (i:=ts.idxOf b) (by trivial))
        obtain ⟨y',ey,ry⟩:=rv2.get (get' (xs:=ys) (i:=ts.idxOf b) (by trivial))
        obtain ⟨v',ev,rv⟩:=rv3.get (get' (xs:=zs) (i:=ts.idxOf b) (by trivial))
        have b1:x'=x:=Option.some.inj (ex.symm.trans (by simpa using a1))
        have b2:y'=y:=Option.some.inj (ey.symm.trans (by simpa using a2))
        have b3:v'=v:=Option.some.inj (ev.symm.trans (by simpa using a3))
        subst b1 b2 b3
        exact ⟨by show 3≤sizeLine;rw [sizeLine_eq];decide,[x',y',v'],.cons rx (.cons ry (.cons rv .nil)),⟨_,a4,rfl,_,rfl⟩,_,a4,rfl⟩
      · rw [if_neg hm] at e';cases e'
end
end L2
namespace L2
open PySem PySem.Spec PyProof.Rows
theorem list_keys_miss:typeLookup (.type "list") "keys" = pure none:=am_miss_of_fast (by kernel_rfl)
section
variable {prog:Program}{w:World}{A:Around}{E:Value→Shared→Prop}{s:Shared}
theorem getAttr_list_miss {a:Addr}{xs:Array Value}{k:Nat}{name:Str}{Q:Option Value→Shared→Prop} (hmiss:typeLookup (.type "list") name=pure none) (hname:(["__module__", "__name__", "__qualname__", "__doc__", "__annotations__"]:List Str).contains name=false) (hsz:name.length+100≤sizeLine)
    (hx:s.heap.get? a=some { cls:=.type "list",dict:=none,data:=.seq xs k,slots:=#[] }) (hA:A.handled=none)
    (h:∀h' tk,(∀b o,s.heap.get? b=some o→h'.get? b=some o)→Q none { s with heap:=h',toks:=tk }) :
    wpAny (model prog w) A (getAttr? (.ref a) name) Q E s:=by
  obtain ⟨hp,g,d,tk,os⟩:=s
  have hT:∀tk',(⟨hp,g,d,tk',os⟩:Shared).TypeIs (.ref a) "list" := fun _=>⟨_,hx,rfl⟩
  have f1:=sub_AttributeError
  have f3:=F.slot_list_getattribute.lookup
  have f4:=F.slot_list_getattribute.bind (.ref a)
  have f5:=am_list_getattr_none
  unfold getAttr? getAttrBy? getAttrBy
  repeat (any_goals (first | assumption | exact hT _ | ((with_reducible show wpAny _ _ (call (Value.builtin "list.__getattribute__") _ _) _ _ _);refine call_meets F.slot_list_getattribute (hT _) am_entry_list_getattribute (F.args_list_getattribute_2 _ _) (meets_getattribute_miss_list a xs k #[] name _ hmiss hname hsz) ⟨hx,hA,fun h' tk' e hx'=>?_⟩) | wp_step))
  obtain ⟨t',u',he⟩:=hx'.there
  show wpAny _ _ (getattributeRaised _ _ _ _ _ _ _) _ _ _
  unfold getattributeRaised
  repeat (any_goals (first | assumption | wp_step))
  exact h _ _ hx'.keeps
end
section
variable {prog:Program}{w:World}{A:Around}{E:Value→Shared→Prop}{R:Result→Shared→Prop}
variable {l it d:Nat}{vs:Array Value}{ks:List Key}{us:List Value}
def Prs (h:Heap) (vs:Array Value) (ks:List Key) (us:List Value) (it d:Nat):Prop:=∀(i:Nat),i<ks.length→Ex6 fun (T:Nat) (x y:Value) (c:Nat) (sl:Array (Option Value)) (dd:Option Addr)=>vs[i]?=some (.ref T)∧h.get? T=some ⟨.type "tuple",dd,.seq #[x,y] c,sl⟩∧us[i]?=some y∧(∀k,ks[i]?=some k→keyIs k x=true)∧T≠it∧T≠d
theorem fill_dictL (n1:l≠it∧l≠d∧it≠d) (hh:A.handled=none) (lv:vs.size=ks.length) (lu:us.length=ks.length) (nd:ks.Nodup) (hz:ks.length≤4000) :
    ∀(r i:Nat) (tk0:Tok) (s:Shared),ks.length - i=r→i≤ks.length→s.heap.IsListIter it l i→s.heap.IsList l vs→Prs s.heap vs ks us it d→s.heap.DictOf (mixKind prog w) d ((ks.zip us).take i)→
      (∀h' tk,h'.DictOf (mixKind prog w) d (ks.zip us)→(∀(c:Nat) o,c≠it→c≠d→s.heap.get? c=some o→h'.get? c=some o)→R (.ok (.ret .none)) { s with heap:=h',toks:=tk })→
      codeAny (model prog w) A (.builtin "dict.update.loop" ⟨[.ref d,.ref it,.int (i:Nat) tk0,.none],[]⟩) R s:=by
  have W:=(Walks.list (prog:=prog) (w:=w) (A:=A.in1) hh it l n1.1 vs)
  intro r
  induction r with
  | zero=>
    intro i tk0 s hr hi st hl pr hD hR
    have e:i=ks.length:=by trivial
    have lz:(ks.zip us).length=ks.length:=by simp [lu]
    rw [e,←lz,List.take_length] at hD
    refine codeAny_builtin entry_dict_update_loop ?_
    rw [A.under_plainId plain_dict_update_loop]
    show wpAny _ _ (pyNext (Value.ref it) >>= _) _ _ _
    refine wpAny_bind (W.done s _ _ (by rw [lv,←e];exact ⟨st,hl⟩) fun h' tk keep=>?_)
    show wpAny _ _ (Builtin.Dict.addKeywords d [] >>= _) _ _ _
    refine wpAny_bind (wpAny_pure (wpAny_pure ?_))
    obtain ⟨o,es,ep,ho,q⟩:=hD
    have kp:∀(c:Nat) o,c≠it→s.heap.get? c=some o→h'.get? c=some o:=fun c o hc e=>keep c o (by simpa using hc) e
    exact hR h' tk ⟨o,es,ep,kp d o (Ne.symm n1.2.2) ho,q⟩ fun c o d1 _ e=>kp c o d1 e
  | succ r ih=>
    intro i tk0 s hr hi st hl pr hD hR
    have lt:i<ks.length:=by trivial
    obtain ⟨T,x,y,c,sl,dd,e1,e2,e3,e4,e5,e6⟩:=pr i lt
    have kv:=e4 ks[i] (List.getElem?_eq_getElem lt)
    refine codeAny_builtin entry_dict_update_loop ?_
    rw [A.under_plainId plain_dict_update_loop]
    show wpAny _ _ (pyNext (Value.ref it) >>= _) _ _ _
    refine wpAny_bind (W.item i s _ _ (by trivial) ⟨st,hl⟩ fun v h' tk pv st' keep=>?_)
    obtain rfl:v=.ref T:=Option.some.inj ((show vs[i]?=some v from pv).symm.trans e1)
    have kp:∀(c:Nat) o,c≠it→s.heap.get? c=some o→h'.get? c=some o:=fun c o hc e=>keep c o (by simpa using hc) e
    have hD':h'.DictOf (mixKind prog w) d ((ks.zip us).take i):=let ⟨o,es,ep,ho,q⟩:=hD;⟨o,es,ep,kp d o (Ne.symm n1.2.2) ho,q⟩
    have T':=kp T _ e5 e2
    refine wpAny_bind (wpAny_holding (wpAny_bind (wpAny_tryCatch ?_)))
    unfold Builtin.Dict.pairItems
    refine wpAny_bind (wpAny_typeOf (show Shared.TypeIs { s with heap:=h',toks:=tk } (.ref T) "tuple" from ⟨_,T',rfl⟩) ?_)
    rw [if_pos (by decide)]
    refine wpAny_bind (wpAny_seqItems T' rfl (wpAny_pure ?_))
    show wpAny _ _ (holding [x,y] (dictSet d x y)) _ _ _
    have hu:us[i]'(by trivial)=y:=(List.getElem?_eq_some_iff.mp e3).2
    have nk:ks[i]∉((ks.zip us).take i).map (·.1):=by
      rw [List.map_take,keys_zip (by simp [lu])]
      intro q
      obtain ⟨j,hj,e⟩:=List.getElem_of_mem q
      rw [List.length_take] at hj
      rw [List.getElem_take] at e
      have:=nodup_inj nd (by trivial) lt e
      trivial
    have lz:((ks.zip us).take i).length≤sizeLine:=by rw [List.length_take,sizeLine_eq];simp;trivial
    refine wpAny_holding (wpAny_dictSet_pairs (k:=ks[i]) kv hD' (hsz:=lz) fun h2 hD2 sb=>?_)
    rw [stored_new nk] at hD2
    have nx:h2.DictOf (mixKind prog w) d ((ks.zip us).take (i+1)):=by
      rw [List.take_succ_eq_append_getElem (by simp [lu];trivial)]
      simpa [hu] using hD2
    have k2:∀(c:Nat) o,c≠d→h'.get? c=some o→h2.get? c=some o:=fun c o hc e=>(sb.2 c hc).trans e
    refine wpAny_pure ⟨plainId_quiet plain_dict_update_loop _,?_⟩
    have e9:((i:Nat):Int)+1=((i+1:Nat):Int):=by trivial
    show codeAny _ _ (.builtin "dict.update.loop" ⟨[.ref d,.ref it,.int ((i:Nat)+1) 0,.none],[]⟩) _ _
    rw [e9]
    refine ih (i+1) 0 _ (by trivial) lt ?_ ?_ (fun j hj=>?_) nx fun h3 tk3 hD3 k3=>hR h3 tk3 hD3 fun c o a1 a2 e=>k3 c o a1 a2 (k2 c o a2 (kp c o a1 e))
    · obtain ⟨o,ho,q⟩:=st'.1
      exact ⟨o,k2 _ _ n1.2.2 ho,q⟩
    · obtain ⟨o,ho,q⟩:=st'.2
      exact ⟨o,k2 _ _ n1.2.1 ho,q⟩
    · obtain ⟨T,x,y,c,sl,dd,e1,e2,e3,e4,e5,e6⟩:=pr j hj
      exact ⟨T,x,y,c,sl,dd,e1,k2 _ _ e6 (kp _ _ e5 e2),e3,e4,e5,e6⟩
set_option maxHeartbeats 1000000 in
theorem call_dictOfL {s:Shared}{Q:Value→Shared→Prop}{c0:Nat} (hl:s.heap.get? l=some { cls:=.type "list",dict:=none,data:=.seq vs c0,slots:=#[] })
    (hh:A.handled=none) (lv:vs.size=ks.length) (lu:us.length=ks.length) (nd:ks.Nodup) (hz:ks.length≤4000)
    (pr:∀(i:Nat),i<ks.length→Ex6 fun (T:Nat) (x y:Value) (c:Nat) (sl:Array (Option Value)) (dd:Option Addr)=>vs[i]?=some (.ref T)∧s.heap.get? T=some ⟨.type "tuple",dd,.seq #[x,y] c,sl⟩∧us[i]?=some y∧(∀k,ks[i]?=some k→keyIs k x=true))
    (h:∀h' tk,h'.DictOf (mixKind prog w) s.heap.objs.size (ks.zip us)→(∀c o,s.heap.get? c=some o→h'.get? c=some o)→Q (.ref s.heap.objs.size) { s with heap:=h',toks:=tk }) :
    wpAny (model prog w) A (call (.type "dict") [.ref l]) Q E s:=by
  refine callType_codes (Q₁:=fun obj s₁=>obj=.ref s.heap.objs.size∧s₁={ s with heap:=s.heap.push { cls:=.type "dict",data:=.dict #[] } }) F.kt_called_dict (F.kt_typeCall_dict_1 _) F.entry_dict_init (kt_code_dict_new _ ⟨rfl,rfl⟩) ?_
  rintro obj s₁ ⟨rfl,rfl⟩
  have hnew:(s.heap.push { cls:=.type "dict",data:=.dict #[] }).DictOf (mixKind prog w) s.heap.objs.size []:=Heap.DictOf.new s.heap
  have up:∀c o,s.heap.get? c=some o→(s.heap.push { cls:=.type "dict",data:=.dict #[] }).get? c=some o:=fun c o e=>Heap.get?_push_of_some _ e
  have ne:∀c o,s.heap.get? c=some o→c≠s.heap.objs.size:=fun c o e=>Nat.ne_of_lt (Heap.lt_size e)
  have hl':=up _ _ hl
  refine ⟨hnew.typeIs,F.args_dict_init_2 _ _,?_⟩
  unfold Builtin.«dict.__init__»
  refine wpAny_bind ?_
  unfold Builtin.Dict.selfAndRest
  refine wpAny_bind (wpAny_notOrdered_dict hnew.typeIs ?_)
  show wpAny _ _ (pure (s.heap.objs.size,[Value.ref l])) _ _ _
  refine wpAny_pure ?_
  show wpAny _ _ (Builtin.Dict.updateFrom "dict.__init__" s.heap.objs.size (.ref l) [] .none) _ _ _
  unfold Builtin.Dict.updateFrom
  refine wpAny_bind (wpAny_typeOf (T := "list") ⟨_,hl',rfl⟩ ?_)
  rw [if_pos (by decide)]
  refine wpAny_bind (getAttr_list_miss list_keys_miss (by decide +kernel) (by rw [sizeLine_eq];decide) hl' (by simpa using hh) fun g1 tk1 k1=>?_)
  simp only [Option.isNone_none,if_true]
  refine wpAny_bind (wpAny_rule ?_)
  have l1:g1.IsList l vs:=⟨_,k1 _ _ hl',rfl,_,rfl⟩
  refine wpAny_bind (wpAny_pyIter_list l1 ?_)
  have kk:∀c o,s.heap.get? c=some o→g1.get? c=some o:=fun c o e=>k1 _ _ (up _ _ e)
  have pu:∀(ob:Obj) c o,g1.get? c=some o→(g1.push ob).get? c=some o:=fun ob c o e=>Heap.get?_push_of_some _ e
  obtain ⟨on,es,ep,hon,qn⟩:=hnew
  have hon1:=k1 _ _ hon
  have dlt:s.heap.objs.size<g1.objs.size:=Heap.lt_size hon1
  have llt:l<s.heap.objs.size:=Heap.lt_size hl
  refine wpAny_pure ⟨plainId_quiet plain_dict_update_loop _,?_⟩
  refine fill_dictL (ks:=ks) (us:=us) (vs:=vs) (l:=l) (it:=g1.objs.size) (d:=s.heap.objs.size) ⟨Nat.ne_of_lt (Nat.lt_trans llt dlt),Nat.ne_of_lt llt,Nat.ne_of_gt dlt⟩ (by simpa using hh) lv lu nd hz ks.length 0 0 _ rfl (Nat.zero_le _) ⟨_,Heap.get?_push_size _ rfl,rfl,rfl⟩ (l1.push _) (fun i hi=>?_) ⟨on,es,ep,pu _ _ _ hon1,qn⟩ fun h' tk hD keep=>?_
  · obtain ⟨T,x,y,c,sl,dd,e1,e2,e3,e4⟩:=pr i hi
    have tlt:=Heap.lt_size e2
    exact ⟨T,x,y,c,sl,dd,e1,pu _ _ _ (kk _ _ e2),e3,e4,Nat.ne_of_lt (Nat.lt_trans tlt dlt),Nat.ne_of_lt tlt⟩
  · exact ⟨rfl,h h' tk hD fun c o e=>keep c o (Nat.ne_of_lt (Nat.lt_trans (Heap.lt_size e) dlt)) (ne _ _ e) (pu _ _ _ (kk _ _ e))⟩
end
section
variable {X:Cx}
inductive rDictL_ (vs:List V) (H:Hp) (Q:VK):Prop
  | mk (l:Addr) (ts:List Addr) (ks:List Key) (ys:List V) (h0:vs=[.ref l]) (h1:H l=some (.lst (ts.map V.ref))) (h2:ts.length=ks.length) (h3:ys.length=ks.length) (h4:ks.Nodup) (h5:ks.length≤4000) (h6:(∀(i:Nat) t,ts[i]?=some t→Ex2 fun k y=>ks[i]?=some k∧ys[i]?=some y∧H t=some (.tup [keyV k,y]))) (h7:∀p H',Nw H p (.dK (ks.zip ys)) H'→Q (.ref p) H')
def rDictL:List V→Hp→VK→Prop:=fun vs H Q=>rDictL_  vs H Q
theorem obj_pair_inj {k k':Value}{d d':Option Addr}{x y x' y':Value}{n n':Nat}{s s':Array (Option Value)} (h:(⟨k,d,.seq #[x,y] n,s⟩:Obj)=⟨k',d',.seq #[x',y'] n',s'⟩):y=y':=by
  simp only [Obj.mk.injEq,Data.seq.injEq] at h
  have a:=h.2.2.1.1
  simp at a
  exact a.2
theorem list_of {α:Type}{p:Nat→α→Prop}:∀n,(∀i,i<n→∃a,p i a)→∃as:List α,as.length=n∧∀(i:Nat) a,as[i]?=some a→p i a
  | 0,_=>⟨[],rfl,fun i a h=>by simp at h⟩
  | n+1,h=>by
    obtain ⟨as,l,q⟩:=list_of n fun i hi=>h i (by trivial)
    obtain ⟨a,ha⟩:=h n (by trivial)
    refine ⟨as++[a],by rw [List.length_append,l];rfl,fun i b hb=>?_⟩
    by_cases c:i<n
    · rw [List.getElem?_append_left (by trivial)] at hb
      exact q i b hb
    · have hlt:=(List.getElem?_eq_some_iff.mp hb).1
      rw [List.length_append] at hlt
      simp at hlt
      obtain rfl:i=n:=by trivial
      rw [List.getElem?_append_right (by trivial),l,Nat.sub_self] at hb
      obtain rfl:a=b:=Option.some.inj hb
      exact ha
theorem call_dictL (hc:X.calm=true):CallR X (.type "dict") rDictL:=by
  intro pins s σ H xs us Q I r h
  obtain ⟨l,ts,ks,ys,rfl,hl,lt,ly,nd,h4,hp,q⟩:=h
  obtain ⟨u,rfl,ru⟩:=r.one
  obtain rfl:u=.ref l:=ru
  obtain ⟨z,its,n,rv,hlen,e⟩:=I.lstM hl
  rw [List.length_map] at hlen
  have isT:∀(i:Nat) t,ts[i]?=some t→its[i]?=some (.ref t):=fun i t hi=>by
    obtain ⟨w,hw,rw'⟩:=rv.get (show (ts.map V.ref)[i]?=some (V.ref t) by rw [List.getElem?_map,hi];rfl)
    obtain rfl:w=.ref t:=rw'
    exact hw
  have per:∀i,i<ks.length→Ex6 fun (T:Nat) (x y:Value) (c:Nat) (sl:Array (Option Value)) (dd:Option Addr)=>its[i]?=some (.ref T)∧s.heap.get? T=some ⟨.type "tuple",dd,.seq #[x,y] c,sl⟩∧(∃yv,ys[i]?=some yv∧RelV yv y)∧(∀k,ks[i]?=some k→keyIs k x=true):=fun i hi=>by
    have ht:=List.getElem?_eq_getElem (show i<ts.length by trivial)
    obtain ⟨k,y,hk,hy,hT⟩:=hp i _ ht
    obtain ⟨_,us,rus,⟨ob,g1,g2,c,g3⟩,_⟩:=(show ObjOk X.prog X.w H s.heap ts[i] (.tup [keyV k,y]) from I.hok _ _ hT)
    obtain ⟨a,b,rfl,ra,rb⟩:=rus.two
    obtain ⟨oc,od,oo,osl⟩:=ob
    simp only at g2 g3
    subst g2 g3
    exact ⟨ts[i],a,b,c,osl,od,isT i _ ht,g1,⟨y,hy,rb⟩,fun k' hk'=>by rw [hk] at hk';cases hk';exact (keyV_is ra).1⟩
  have vals:∃us':List Value,us'.length=ks.length∧Vals ys us'∧∀i (hi:i<ks.length) (T:Nat) (x y:Value) (c:Nat) (sl:Array (Option Value)) (dd:Option Addr),its[i]?=some (.ref T)→s.heap.get? T=some ⟨.type "tuple",dd,.seq #[x,y] c,sl⟩→us'[i]?=some y:=by
    obtain ⟨us',l1,h1⟩:=list_of (p:=fun i y=>∀(T:Nat) (x y':Value) (c:Nat) (sl:Array (Option Value)) (dd:Option Addr),its[i]?=some (.ref T)→s.heap.get? T=some ⟨.type "tuple",dd,.seq #[x,y'] c,sl⟩→y'=y∧∃yv,ys[i]?=some yv∧RelV yv y') ks.length fun i hi=>by
      obtain ⟨T,x,y,c,sl,dd,e1,e2,e3,e4⟩:=per i hi
      refine ⟨y,fun T' x' y' c' sl' dd' f1 f2=>?_⟩
      have eT:=Option.some.inj (e1.symm.trans f1)
      injection eT with eT
      have f3:s.heap.get? T=_:=(congrArg s.heap.get? eT).trans f2
      have ey:=obj_pair_inj (Option.some.inj (e2.symm.trans f3))
      subst ey
      exact ⟨rfl,e3⟩
    refine ⟨us',l1,?_,fun i hi T x y c sl dd e1 e2=>?_⟩
    · refine vals_get (by trivial) fun i yv u e1 e2=>?_
      have hi:i<ks.length:=by rw [←l1];exact (List.getElem?_eq_some_iff.mp e2).1
      obtain ⟨T,x,y,c,sl,dd,g1,g2,g3,g4⟩:=per i hi
      obtain ⟨q1,yv',q2,q3⟩:=h1 i u e2 T x y c sl dd g1 g2
      rw [e1] at q2
      cases q2
      rw [←q1]
      exact q3
    · obtain ⟨u,hu⟩:∃u,us'[i]?=some u:=⟨_,List.getElem?_eq_getElem (by trivial)⟩
      rw [hu,(h1 i u hu T x y c sl dd e1 e2).1]
  obtain ⟨us',lu,rus,hus⟩:=vals
  refine call_dictOfL (E:=X.xe) (ks:=ks) (us:=us') (vs:=its.toArray) (l:=l) e (I.ok.hd hc) (by simp;trivial) lu nd h4 (fun i hi=>?_) fun h' tk hD kp=>?_
  · obtain ⟨T,x,y,c,sl,dd,e1,e2,_,e4⟩:=per i hi
    exact ⟨T,x,y,c,sl,dd,by simpa using e1,e2,hus i hi T x y c sl dd e1 e2,e4⟩
  · have big:sysModules<s.heap.objs.size:=by
      have e:mainGlobals<s.heap.objs.size:=(I.mod.glob.keeps I.bk).lt
      exact Nat.lt_trans (by decide) e
    exact ⟨.ref _,_,I.laid (t':=tk) kp (Nat.le_refl _) (show ObjOk X.prog X.w _ h' _ (.dK (ks.zip ys)) from ⟨by rw [sizeLine_eq];simp;trivial,beq_eq_false_iff_ne.mpr (Ne.symm (Nat.ne_of_lt big)),ks.zip us',kv_zip rus,hD⟩),rfl,q _ _ (.mk' (I.hok.fresh (Nat.le_refl _)))⟩
end
end L2
namespace L2
open PySem PySem.Spec PyProof.Rows
section
variable {X:Cx}
inductive rNeNil_ (x:V) (y:V) (H:Hp) (Q:VK):Prop
  | mk (a c:Addr) (xs:List V) (h0:x=.ref a) (h1:y=.ref c) (h2:H a=some (.lst xs)) (h3:H c=some (.lst [])) (h4:Q (.bl (!xs.isEmpty)) H)
def rNeNil:R2:=fun x y H Q=>rNeNil_  x y H Q
theorem op_neNil (hu:X.A.units+64<cLine):OpR X (compareOp .NotEq) rNeNil:=by
  intro pins s σ H x y v u Q I rx ry h
  obtain ⟨a,c,xs,rfl,rfl,ha,hc,q⟩:=h
  cases rx
  cases ry
  obtain ⟨z,its,n,r,hl,e⟩:=I.lstM ha
  obtain ⟨z2,its2,n2,r2,hl2,e2⟩:=I.lstM hc
  have h0:its2=[]:=List.eq_nil_of_length_eq_zero hl2.symm
  subst h0
  have l1:s.heap.IsList a its.toArray:=⟨_,e,rfl,_,rfl⟩
  have l2:s.heap.IsList c (#[]:Array Value):=⟨_,e2,rfl,_,rfl⟩
  have hu':X.A.units<cLine:=by trivial
  cases xs with
  | nil=>
    have:its=[]:=List.eq_nil_of_length_eq_zero hl.symm
    subst this
    refine (PySem.SeqAt.RcNeAt.lists (e:=fun _=>true) l1 l2 rfl hu' (fun j j1 j2=>absurd j1 (by simp))) X.prog X.w X.xe _ ?_
    exact ⟨.bl _,H,I,rfl,q⟩
  | cons y ys=>
    refine (PySem.SeqAt.RcNeAt.lists_lengths l1 l2 (by simp at hl ⊢;exact fun z=>by rw [z] at hl;simp at hl) hu') X.prog X.w X.xe _ ?_
    exact ⟨.bl _,H,I,rfl,q⟩
end
structure Gb (a b:Nat) (p:KM.Fra):Prop where
  n:Sz a p.1
  d:Sz b p.2
  pos:1≤p.2
theorem Gb.mono {a b a' b':Nat}{p:KM.Fra} (h:Gb a b p) (ha:a≤a') (hb:b≤b'):Gb a' b' p:=⟨h.n.mono ha,h.d.mono hb,h.pos⟩
theorem gb_low {a b:Nat}{n d:Int} (hn:Sz a n) (hd:Sz b d) (h0:0<d):Gb a b (KM.low n d):=by
  have:=KM.low_spec n d (by trivial)
  exact ⟨hn.le this.2.2.2.1,hd.le this.2.2.2.2,this.1⟩
def lOvr (p q:KM.Fra):KM.Fra:=KM.low (p.1*q.2) (p.2*q.1)
theorem Gb.tim {a b c d e f:Nat}{p q:KM.Fra} (h:Gb a b p) (k:Gb c d q) (h1:a+c≤e) (h3:b+d≤f):Gb e f (KM.lTim p q):=
  gb_low ((h.n.mul k.n).mono h1) ((h.d.mul k.d).mono h3) (Int.mul_pos (by have:=h.pos;trivial) (by have:=k.pos;trivial))
theorem Gb.ovr {a b c d e f:Nat}{p q:KM.Fra} (h:Gb a b p) (k:Gb c d q) (hq:1≤q.1) (h1:a+d≤e) (h3:b+c≤f):Gb e f (lOvr p q):=
  gb_low ((h.n.mul k.d).mono h1) ((h.d.mul k.n).mono h3) (Int.mul_pos (by have:=h.pos;trivial) (by trivial))
theorem tim_pos {p q:KM.Fra} (h:1≤p.1) (h':1≤p.2) (k:1≤q.1) (k':1≤q.2):1≤(KM.lTim p q).1:=(KM.low_sgn (Int.mul_pos (by trivial) (by trivial))).1.mpr (Int.mul_pos (by trivial) (by trivial))
theorem ovr_pos {p q:KM.Fra} (h:1≤p.1) (h':1≤p.2) (k:1≤q.1) (k':1≤q.2):1≤(lOvr p q).1:=(KM.low_sgn (Int.mul_pos (by trivial) (by trivial))).1.mpr (Int.mul_pos (by trivial) (by trivial))
end L2
namespace L2
open PySem PySem.Spec PyProof.Rows
def storV (kvs:List (Key×V)) (k:Key) (v:V):List (Key×V):=if kvs.any (fun kv=>decide (kv.1=k)) then kvs.map (fun kv=>if kv.1=k then (kv.1,v) else kv) else kvs++[(k,v)]
theorem KV.any {kvs:List (Key×V)}{vs:List (Key×Value)} (r:KV kvs vs) (k:Key):kvs.any (fun kv=>decide (kv.1=k))=vs.any (fun kv=>decide (kv.1=k)):=by
  induction r with
  | nil=>rfl
  | cons h t ih=>rw [List.any_cons,List.any_cons,ih,h.1]
theorem kv_stored {kvs:List (Key×V)}{vs:List (Key×Value)} (r:KV kvs vs) {k:Key}{v:V}{u:Value} (rv:RelV v u):KV (storV kvs k v) (stored vs k u):=by
  unfold storV stored
  rw [r.any k]
  have m:KV (kvs.map (fun kv=>if kv.1=k then (kv.1,v) else kv)) (vs.map (fun kv=>if kv.1=k then (kv.1,u) else kv)):=by
    induction r with
    | nil=>exact .nil
    | @cons p q ps qs h t ih=>
      refine .cons ?_ ih
      obtain ⟨pk,pv⟩:=p
      obtain ⟨qk,qv⟩:=q
      obtain ⟨h1,h2⟩:=h
      obtain rfl:pk=qk:=h1
      show (if pk=k then (pk,v) else (pk,pv)).1=(if pk=k then (pk,u) else (pk,qv)).1∧RelV (if pk=k then (pk,v) else (pk,pv)).2 (if pk=k then (pk,u) else (pk,qv)).2
      by_cases c:pk=k
      · rw [if_pos c,if_pos c];exact ⟨rfl,rv⟩
      · rw [if_neg c,if_neg c];exact ⟨rfl,h2⟩
  have a:KV (kvs++[(k,v)]) (vs++[(k,u)]):=by
    clear m
    induction r with
    | nil=>exact .cons ⟨rfl,rv⟩ .nil
    | cons h t ih=>exact .cons h ih
  cases vs.any (fun kv=>decide (kv.1=k)) with
  | true=>exact m
  | false=>exact a
theorem storV_len {kvs:List (Key×V)}{k:Key}{v:V} (h:kvs.length<sizeLine):(storV kvs k v).length≤sizeLine:=by
  unfold storV
  split
  · rw [List.length_map];trivial
  · rw [List.length_append];exact h
theorem valD_stor (kvs:List (Key×V)) (k:Key) (v:V) (x:Key):valD (storV kvs k v) x=if x=k then some v else valD kvs x:=by
  unfold storV
  cases c:kvs.any (fun kv=>decide (kv.1=k)) with
  | true=>
    rw [if_pos rfl]
    induction kvs with
    | nil=>cases c
    | cons p ps ih=>
      unfold valD at ih ⊢
      rw [List.map_cons,List.find?_cons,List.find?_cons]
      by_cases hp:p.1=k
      · rw [if_pos hp]
        by_cases hx:x=k
        · rw [if_pos hx,hp,hx];simp
        · rw [if_neg hx]
          have n1:¬p.1=x:=fun z=>hx (z.symm.trans hp)
          have n2:decide (p.1=x)=false:=decide_eq_false n1
          rw [n2]
          dsimp only
          by_cases c2:ps.any (fun kv=>decide (kv.1=k))=true
          · rw [ih c2,if_neg hx]
          · have e:ps.map (fun kv=>if kv.1=k then (kv.1,v) else kv)=ps:=by
              have:∀kv∈ps,(fun kv:Key×V=>if kv.1=k then (kv.1,v) else kv) kv=kv:=fun kv hkv=>by
                by_cases q:kv.1=k
                · exact absurd (List.any_eq_true.mpr ⟨kv,hkv,decide_eq_true q⟩) c2
                · show (if kv.1=k then _ else _)=_
                  rw [if_neg q]
              exact (List.map_congr_left this).trans (List.map_id _)
            rw [e]
      · rw [if_neg hp]
        have c':ps.any (fun kv=>decide (kv.1=k))=true:=by
          rw [List.any_cons,decide_eq_false hp,Bool.false_or] at c
          exact c
        by_cases hpx:p.1=x
        · have hx:¬x=k:=fun z=>hp (hpx.trans z)
          rw [if_neg hx,decide_eq_true hpx]
        · rw [decide_eq_false hpx]
          dsimp only
          exact ih c'
  | false=>
    rw [if_neg Bool.false_ne_true]
    have nk:valD kvs k=none:=by
      unfold valD
      rw [Option.map_eq_none_iff,List.find?_eq_none]
      intro kv hkv q
      have:kvs.any (fun kv=>decide (kv.1=k))=true:=List.any_eq_true.mpr ⟨kv,hkv,q⟩
      rw [c] at this;cases this
    unfold valD at nk ⊢
    rw [List.find?_append]
    by_cases hx:x=k
    · subst hx
      rw [Option.map_eq_none_iff] at nk
      rw [nk,if_pos rfl];simp
    · rw [if_neg hx]
      cases kvs.find? (fun kv=>decide (kv.1=x)) with
      | some p=>rfl
      | none=>
        have:decide (k=x)=false:=decide_eq_false fun z=>hx z.symm
        simp [this]
section
variable {X:Cx}
theorem Inv.dset {pins:List (Addr×Obj)}{σ:St}{H:Hp}{s:Shared}{d:Addr}{kvs kvs':List (Key×V)}{vs':List (Key×Value)}{h':Heap}{t':Nat} (I:Inv X pins σ H s) (hH:H d=some (.dK kvs)) (hm:(d==sysModules)=false) (hz:kvs'.length≤sizeLine)
    (hv:KV kvs' vs') (hd:h'.DictOf (mixKind X.prog X.w) d vs') (sb:Heap.SameBut d s.heap h'):Inv X pins σ (upd H d (.dK kvs')) { s with heap:=h',toks:=t' }:=by
  obtain ⟨o,es,ep,ho,q⟩:=hd
  refine I.write (x:=d) (e:=d) (by rw [hH];exact trivial) (.inl rfl) (fun b u hb hu=>(sb.2 b hb).trans hu) ⟨_,ho⟩ ?_
  exact ⟨hz,hm,vs',hv,o,es,ep,ho,q⟩
structure ChD (H:Hp) (p:Addr) (o:HO) (H':Hp):Prop where
  at':H' p=some o
  ol:∀a u,a≠p→H a=some u→H' a=some u
  fre:∀a,a≠p→H a=none→H' a=none
theorem ChD.mk' {H:Hp}{p:Addr}{o:HO}:ChD H p o (upd H p o):=⟨upd_same,fun a u n h=>by rw [upd_ne n];exact h,fun a n h=>by rw [upd_ne n];exact h⟩
inductive rSetD_ (o:V) (i:V) (v:V) (H:Hp) (Q:(Hp→Prop)):Prop
  | mk (d:_) (kvs:_) (k:_) (h0:o=.ref d) (h1:i=keyV k) (h2:H d=some (.dK kvs)) (h3:kvs.length≤4000) (h4:∀H',ChD H d (.dK (storV kvs k v)) H'→Q H')
def rSetD:V→V→V→Hp→(Hp→Prop)→Prop:=fun o i v H Q=>rSetD_  o i v H Q
theorem set_dict:PSet X rSetD:=by
  intro pins s σ H o i v ov iv u Q I ro ri rv h
  obtain ⟨d,kvs,k,rfl,rfl,hd,hl,q⟩:=h
  cases ro
  obtain ⟨hz,hm,vs,rel,dd⟩:=(show ObjOk X.prog X.w H s.heap d (.dK kvs) from I.hok d _ hd)
  exact wpAny_setItem_pairs (hsz:=by rw [←rel.length];exact hz) (keyV_kind ri) dd fun h' hd' sb=>⟨_,I.dset hd hm (storV_len (by rw [sizeLine_eq];trivial)) (kv_stored rel rv) hd' sb,q _ .mk'⟩
inductive rInDt_ (ng:Bool) (x:V) (y:V) (H:Hp) (Q:VK):Prop
  | mk (d:Addr) (kvs:List (Key×V)) (k:Key) (h0:y=.ref d) (h1:x=keyV k) (h2:H d=some (.dK kvs)) (h3:Q (.bl (if ng then !(valD kvs k).isSome else (valD kvs k).isSome)) H)
def rInDt (ng:Bool):R2:=fun x y H Q=>rInDt_ ng x y H Q
theorem relO_some {o:Option V}{p:Option Value} (h:RelO o p):o.isSome=p.isSome:=by
  cases o <;> cases p <;> first | rfl | exact h.elim
theorem op_notInDt:OpR X (compareOp .NotIn) (rInDt true):=by
  intro pins s σ H x y v u Q I rx ry h
  obtain ⟨d,kvs,k,rfl,rfl,hd,q⟩:=h
  cases ry
  obtain ⟨hz,hm,vs,rel,dd⟩:=(show ObjOk X.prog X.w H s.heap d (.dK kvs) from I.hok d _ hd)
  show wpAny _ X.A (do return Value.bool (!(←contains (.ref d) v))) _ _ s
  refine wpAny_bind (wpAny_contains_slot dd.typeIs PySem.F.slot_dict_contains (wpAny_mono (call_meetsIn (Q:=fun b s'=>b=.bool (valueAt vs k).isSome∧s'={ s with toks:=s.toks+1 }) PySem.F.slot_dict_contains dd.typeIs PySem.F.entry_dict_contains (PySem.F.args_dict_contains_2 _ _) (meets_dict_contains (mixKind X.prog X.w) d (keyV_kind rx) hm) ⟨_,dd.mapOf,rfl,rfl⟩) (fun b s' hb=>?_) fun _ _ e=>e))
  obtain ⟨rfl,rfl⟩:=hb
  refine wpAny_truthy_bool (wpAny_pure ?_)
  rw [←relO_some (rel.valD k)]
  exact ⟨.bl _,H,I.tok _,rfl,q⟩
theorem pe_dict0 {pos:Pos}:PE X (.Dict [] [] pos) (fun _ H Q=>∀p H',Nw H p (.dK []) H'→Q (.ref p) H'):=by
  intro pins s σ H Q I h
  refine wpAny_Dict_empty ?_
  have big:(s.heap.objs.size==sysModules)=false:=by
    have e:mainGlobals<s.heap.objs.size:=(I.mod.glob.keeps I.bk).lt
    exact beq_eq_false_iff_ne.mpr (Ne.symm (Nat.ne_of_lt (Nat.lt_trans (by decide) e)))
  exact ⟨.ref _,_,I.laid (fun _ _ e=>Heap.get?_push_of_some _ e) (Nat.le_refl _) (show ObjOk X.prog X.w _ _ _ (.dK []) from ⟨Nat.zero_le _,big,[],.nil,Heap.DictOf.new s.heap⟩),rfl,h _ _ (.mk' I.fresh)⟩
end
section
variable {prog:Program}{w:World}{A:Around}{R:Result→Shared→Prop}{s:Shared}
theorem compLoop_allD {kx vx target iter:Expr}{ifs:List Expr}{scope:Scope}{pos:Pos}{it:Value}{D:Addr}{env:Env} (I:Nat→Shared→Prop)
    (turn:∀n s,I n s→wpAny (model prog w) A (pyNext it) (fun r s₁=>match r with
      | none=>R (.ok .next) s₁
      | some v=>wpAny (model prog w) A (letOwnedTupleGo target it v) (fun _ s₁'=>wpAny (model prog w) A (assign target env v) (fun _ s₂=>
          wpAny (model prog w) A (forIn ifs true fun c r=>if r=true then do let ok ←isTrue c env (eval c env);pure (ForInStep.yield ok) else pure (ForInStep.yield r)) (fun ok s₃=>
            if ok=true then wpAny (model prog w) A (eval kx env) (fun kv s₄=>wpAny (model prog w) A (eval vx env) (fun vv s₅=>
              wpAny (model prog w) A (dictSet D kv vv) (fun _ s₆=>∃m,m<n∧I m s₆) (fun _ _=>False) s₅) (fun _ _=>False) s₄) (fun _ _=>False) s₃
            else ∃m,m<n∧I m s₃) (fun _ _=>False) s₂) (fun _ _=>False) s₁') (fun _ _=>False) s₁) (fun _ _=>False) s)
    (n:Nat) (h:I n s) :
    codeAny (model prog w) A (.compLoop (.DictComp kx vx [⟨target,iter,ifs,0⟩] scope pos) 0 it (.ref D) env) R s:=by
  refine codeAny_loop rfl I (fun n s hI=>?_) n h
  show wpAny _ A ((compTurn (.DictComp kx vx [⟨target,iter,ifs,0⟩] scope pos) 0 it (.ref D) env).onRaise (fun x=>do noteFrame x env;theTreesLotGoes x)) _ _ s
  refine wpAny_noted ?_
  rw [compTurn_dict]
  refine wpAny_bind (wpAny_standAt (wpAny_bind (wpAny_mono (turn n s hI) (fun r s₁ h₁=>?_) fun _ _ h'=>h'.elim)))
  cases r with
  | none=>exact wpAny_pure h₁
  | some v=>
    refine wpAny_bind (wpAny_mono h₁ (fun _ s₁' h₁'=>?_) fun _ _ h'=>h'.elim)
    refine wpAny_bind (wpAny_mono h₁' (fun _ s₂ h₂=>wpAny_bind (wpAny_mono h₂ (fun ok s₃ h₃=>?_) fun _ _ h'=>h'.elim)) fun _ _ h'=>h'.elim)
    cases ok with
    | false=>exact wpAny_pure ⟨rfl,h₃⟩
    | true=>
      exact wpAny_bind (wpAny_bind (wpAny_mono h₃ (fun kv s₄ h₄=>wpAny_bind (wpAny_holding (wpAny_mono h₄ (fun vv s₅ h₅=>wpAny_bind (wpAny_standAt (wpAny_holding (wpAny_mono h₅ (fun _ s₆ h₆=>wpAny_pure ⟨rfl,h₆⟩) fun _ _ h'=>h'.elim)))) fun _ _ h'=>h'.elim))) fun _ _ h'=>h'.elim))
end
def CompWD (J:It) (σc:St) (g:TG) (tt:TT) (tk tv:TE) (D:Addr) (H1:Hp) (Q:VK):Prop:=
  ∃W:Nat→Nat→Hp→List (Key×V)→Prop,(∃m,W 0 m (upd H1 D (.dK [])) [])∧∀i m H ys,W i m H ys→H D=some (.dK ys)∧
    ((J.stop i H∧Q (.ref D) H)∨(J.go i H∧ys.length<sizeLine∧∃N:Hp→List (Key×V)→Prop,(∀H' ys',N H' ys'→∃m',m'<m∧W (i+1) m' H' ys')∧
      ∀x H',J.yld i H x H'→g x σc H' fun σ2 H2=>Back σc σ2∧tt σ2 H2 fun b H3=>if b=true then tk σ2 H3 fun kv H4=>∃k,kv=keyV k∧tv σ2 H4 fun y H5=>H5 D=some (.dK ys)∧N (upd H5 D (.dK (storV ys k y))) (storV ys k y) else N H3 ys))
def tCompD (wi:TI) (L:Nat) (src:List Nat) (g:TG) (tt:TT) (tk tv:TE):TE:=fun σ H Q=>wi σ H fun J H1=>∀D,H1 D=none→CompWD J (cst L src σ) g tt tk tv D H1 Q
section
variable {X:Cx}{kx vx tg iter:Expr}{ifs:List Expr}{scope:Scope}{pos:Pos}{N':List Str}{L:Nat}{src:List Nat}{wi:TI}{g:TG}{tt:TT}{tk tv:TE}
theorem comp_runD (hc:X.calm=true) (ck:CompOk X.env.scope X.N scope N' L src) {cl:List (Str×Addr)}{pins:List (Addr×Obj)}{s:Shared}{σ:St}{H:Hp}{Q:VK} (I:Inv X pins σ H s)
    (hsub:∀x c,cl.lookup x=some c→X.env.cells.lookup x=some c) (hhas:∀y∈scope.names,y.2=.free→∃c,cl.lookup y.1=some c)
    (hi:PI X tg iter wi) (hg:∀cl C s H ex pn,PG (cxComp X scope cl C N' s H ex pn) tg g) (hif:∀cl C s H ex pn,PIfs (cxComp X scope cl C N' s H ex pn) ifs tt)
    (hk:∀cl C s H ex pn,PE (cxComp X scope cl C N' s H ex pn) kx tk) (hv:∀cl C s H ex pn,PE (cxComp X scope cl C N' s H ex pn) vx tv) (h:tCompD wi L src g tt tk tv σ H Q) {RR:Value→Addr→Result→Shared→Prop}
    (hRR:∀D C H' f s' m,Inv X pins σ H' s'→s'.heap.Ns C m→FpOk X pins H' C→Q (.ref D) H'→RR (.ref D) C (.ok f) s') :
    wpAny (model X.prog X.w) X.A (eval iter X.env) (fun x s₁=>wpAny (model X.prog X.w) X.A (pyIter x) (fun it s₂=>wpAny (model X.prog X.w) X.A newDict (fun acc s₃=>
      wpAny (model X.prog X.w) X.A (newFunctionEnv scope X.env.globals cl [] X.env.qual none .none (some X.env)) (fun cenv s₄=>
        codeAny (model X.prog X.w) X.A (.compStart (.DictComp kx vx [⟨tg,iter,ifs,0⟩] scope pos) 0 it acc { cenv with scope:=relabel scope X.env }) (RR acc cenv.locals) s₄) X.xe s₃) X.xe s₂) X.xe s₁) X.xe s:=by
  refine thn (hi pins s σ H _ I h) fun v s1 h1=>thn h1 fun itv s2 h2=>?_
  obtain ⟨it,fp,tn,J,H2,e,I2,T,st2,f2,q⟩:=h2
  subst e
  refine wpAny_newObj_type (wpAny_newFunctionEnv ck.nocell (by intro y hy;simp at hy) (fun h₁ hns₁ hsb₁=>?_) ck.kind)
  dsimp only at hns₁ hsb₁ ⊢
  generalize hH2:s2.heap.push { cls:=.type "dict",dict:=none,data:=.dict #[] }=hp2 at hns₁ hsb₁ ⊢
  have hC:hp2.objs.size=s2.heap.objs.size+1:=by rw [←hH2,Heap.size_push]
  have hDC:s2.heap.objs.size≠hp2.objs.size:=by rw [hC];exact Nat.ne_of_lt (Nat.lt_succ_self _)
  have hCle:s2.heap.objs.size≤hp2.objs.size:=by rw [hC];exact Nat.le_succ _
  have below:∀b,b<s2.heap.objs.size→b≠hp2.objs.size∧b≠s2.heap.objs.size:=fun b hb=>⟨by rw [hC];exact Nat.ne_of_lt (Nat.lt_succ_of_lt hb),Nat.ne_of_lt hb⟩
  have old:∀b o,s2.heap.get? b=some o→h₁.get? b=some o:=fun b o e=>hsb₁.extBut b o (below b (Heap.lt_size e)).1 (Heap.get?_push_of_some _ (hH2▸Heap.get?_push_of_some _ e))
  have hacc0:(s2.heap.push { cls:=.type "dict",dict:=none,data:=.dict #[] }).DictOf (mixKind X.prog X.w) s2.heap.objs.size []:=Heap.DictOf.new s2.heap
  have hacc:h₁.DictOf (mixKind X.prog X.w) s2.heap.objs.size []:=hacc0.at fun o e=>hsb₁.extBut _ _ hDC (Heap.get?_push_of_some _ (hH2▸e))
  have hbig:(s2.heap.objs.size==sysModules)=false:=by
    have e:mainGlobals<s2.heap.objs.size:=(I2.mod.glob.keeps I2.bk).lt
    exact beq_eq_false_iff_ne.mpr (Ne.symm (Nat.ne_of_lt (Nat.lt_trans (by decide) e)))
  have hDn:H2 s2.heap.objs.size=none:=I2.fresh
  obtain ⟨W,⟨m0,w0⟩,turn⟩:=q _ hDn
  have fpo:∀b∈fp,∃o,s2.heap.get? b=some o∧∀v,o.data≠.cell v:=T.obj _ _ st2
  have fplt:∀b∈fp,b<s2.heap.objs.size:=fun b hb=>by obtain ⟨o,e,_⟩:=fpo b hb;exact Heap.lt_size e
  have hfrs:∀b∈fp,b∉frs X.stack:=fun b hb z=>by
    rcases List.mem_cons.mp (I2.stkSub b z) with z' | z'
    · exact (f2 b hb).2.1 z'
    · exact (f2 b hb).2.2.1 z'
  generalize hX:cxComp X scope cl hp2.objs.size N' s2 H2 fp (X.pn++pins)=X'
  have ok':X'.Ok:=by
    subst hX
    refine ⟨I2.ok.mod,ck.kind,I2.ok.glob,I2.ok.blt,hCle,fun x y c e1 e2=>I2.ok.inj x y c (hsub _ _ e1) (hsub _ _ e2),fun x hx=>?_,fun x c z _=>(by cases z),I2.ok.hd,I2.ok.frames,.inl rfl,fun b hb=>⟨(below b (fplt b hb)).1,fun x c e=>(f2 b hb).2.2.2.2.1 x c (hsub _ _ e)⟩,
      I2.bs,Nat.le_trans I2.ok.bsz I2.sz,fun b o e hb=>?_,hfrs,I2.stack,I2.stkFree⟩
    · -- a name that is a cell or free
      have hx':(relabel scope X.env).names.lookup x=some .cell∨(relabel scope X.env).names.lookup x=some .free:=hx
      have key:∀(names:List (Str×NameKind)),(∀y∈names,y.2≠.cell)→
          ((names.map fun (n,k)=>if (k==NameKind.free && X.env.scope.kind==.function && X.env.kindOf n==some .cell) then (n,NameKind.cell) else (n,k)).lookup x=some .cell∨
           (names.map fun (n,k)=>if (k==NameKind.free && X.env.scope.kind==.function && X.env.kindOf n==some .cell) then (n,NameKind.cell) else (n,k)).lookup x=some .free)→∃y∈names,y.1=x∧y.2=.free:=by
        intro names
        induction names with
        | nil=>intro _ h;rcases h with h | h <;> simp at h
        | cons y r ih=>
          intro hn h
          obtain ⟨n,k⟩:=y
          by_cases hb:x=n
          · subst hb
            refine ⟨(x,k),List.mem_cons_self,rfl,?_⟩
            by_cases hk:k=.free
            · exact hk
            · exfalso
              have hkb:(k==NameKind.free)=false:=by simpa using hk
              have hnc:k≠.cell:=hn (x,k) List.mem_cons_self
              simp only [List.map_cons,hkb,Bool.false_and,Bool.false_eq_true,if_false,List.lookup_cons,beq_self_eq_true,if_true] at h
              rcases h with h | h
              · exact hnc (Option.some.inj h)
              · exact hk (Option.some.inj h)
          · have hb':(x==n)=false:=by simpa using hb
            have h':((r.map fun (n,k)=>if (k==NameKind.free && X.env.scope.kind==.function && X.env.kindOf n==some .cell) then (n,NameKind.cell) else (n,k)).lookup x=some .cell∨
                (r.map fun (n,k)=>if (k==NameKind.free && X.env.scope.kind==.function && X.env.kindOf n==some .cell) then (n,NameKind.cell) else (n,k)).lookup x=some .free):=by
              rw [List.map_cons] at h
              dsimp only at h
              by_cases hcnd:(k==NameKind.free && X.env.scope.kind==.function && X.env.kindOf n==some .cell)=true
              · rw [if_pos hcnd] at h
                simpa only [List.lookup_cons,hb'] using h
              · rw [if_neg hcnd] at h
                simpa only [List.lookup_cons,hb'] using h
            obtain ⟨y,hy,e1,e2⟩:=ih (fun y hy=>hn y (List.mem_cons_of_mem _ hy)) h'
            exact ⟨y,List.mem_cons_of_mem _ hy,e1,e2⟩
      obtain ⟨y,hy,e1,e2⟩:=key scope.names ck.nocell hx'
      obtain ⟨c,hc'⟩:=hhas y hy e2
      exact ⟨c,e1▸hc'⟩
    · rcases (f2 b hb).2.2.2.1 with z | z
      · exact I2.ok.noex b o e z
      · exact absurd (Nat.lt_of_lt_of_le (Heap.lt_size e) (Nat.le_trans I2.ok.bsz z)) (Nat.lt_irrefl _)
  have stat:∀{H':Hp},(∀b∈fp,H' b=none)→∀b∈fp,FpOk X' [] H' b:=by
    subst hX
    intro H' hn b hb
    refine ⟨hn b hb,(below b (fplt b hb)).1,hfrs b hb,.inl hb,fun x c e=>(f2 b hb).2.2.2.2.1 x c (hsub _ _ e),fun p hp=>?_⟩
    have hp':p∈X.pn++pins:=by simpa [cxComp] using hp
    exact (f2 b hb).2.2.2.2.2 p hp'
  have I1:Inv X' [] (cst L src σ) (upd H2 s2.heap.objs.size (.dK [])) { s2 with heap:=h₁,toks:=s2.toks+([]:List (Str×Value)).length }:=by
    subst hX
    have up:∀b o,H2 b=some o→upd H2 s2.heap.objs.size (.dK []) b=some o:=fun b o e=>by rw [upd_ne (ne_of_none e hDn)];exact e
    have upn:∀b,b<s2.heap.objs.size→H2 b=none→upd H2 s2.heap.objs.size (.dK []) b=none:=fun b hb e=>by rw [upd_ne (Nat.ne_of_lt hb)];exact e
    refine ⟨ok',rfl,I2.bare,Un.laid old (Nat.le_refl _) hDn,⟨_,hns₁,fun i x v e1 e2 e3=>?_⟩,fun x c e=>?_,?_,fun x c e=>?_,fun p hp=>?_,I2.hok.laid old (Nat.le_refl _) ⟨Nat.zero_le _,hbig,[],.nil,hacc⟩,?_⟩
    · -- the names of the def around
      have hiL:L≤i:=by
        by_cases hlt:i<L
        · exfalso
          unfold cst at e2
          rw [List.getElem?_append_left (by simpa using hlt),List.getElem?_replicate,if_pos hlt] at e2
          cases e2
        · trivial
      have e2':(src.map fun j=>(σ[j]?).join)[i - L]?=some (some v):=by
        unfold cst at e2
        rw [List.getElem?_append_right (by simpa using hiL),List.length_replicate] at e2
        exact e2
      rw [List.getElem?_map] at e2'
      cases hj:src[i - L]? with
      | none=>rw [hj] at e2';cases e2'
      | some j=>
        rw [hj] at e2'
        have e3':(σ[j]?).join=some v:=Option.some.inj e2'
        have hσ:σ[j]?=some (some v):=by
          cases q:σ[j]? with
          | none=>rw [q] at e3';cases e3'
          | some o=>rw [q] at e3';exact congrArg some e3'
        obtain ⟨x',g1,g2,g3⟩:=ck.frees (i - L) j hj
        have:L+(i - L)=i:=by trivial
        rw [this] at g1
        have ex:x'=x:=Option.some.inj (g1.symm.trans e1)
        subst ex
        have hfree:=ck.free _ (PySem.mem_of_lookup g3) rfl
        obtain ⟨m,hn,hl⟩:=I2.loc
        obtain ⟨u,r,l⟩:=hl j x' v g2 hσ (hfree.elim (fun z=>.inr (.inl z)) fun z=>.inr (.inr z))
        refine ⟨u,r,.inr ⟨?_,?_⟩⟩
        · -- its kind in the block
          have key:∀(names:List (Str×NameKind)),names.lookup x'=some .free→
              ((names.map fun (n,k)=>if (k==NameKind.free && X.env.scope.kind==.function && X.env.kindOf n==some .cell) then (n,NameKind.cell) else (n,k)).lookup x'=some .cell∨
               (names.map fun (n,k)=>if (k==NameKind.free && X.env.scope.kind==.function && X.env.kindOf n==some .cell) then (n,NameKind.cell) else (n,k)).lookup x'=some .free):=by
            intro names
            induction names with
            | nil=>intro h;simp at h
            | cons y r ih=>
              intro h
              obtain ⟨n,k⟩:=y
              by_cases hb:x'=n
              · subst hb
                simp only [List.lookup_cons,beq_self_eq_true,if_true] at h
                have hk:k=.free:=Option.some.inj h
                subst hk
                rw [List.map_cons]
                dsimp only
                by_cases hcnd:(NameKind.free==NameKind.free && X.env.scope.kind==.function && X.env.kindOf x'==some .cell)=true
                · rw [if_pos hcnd];left;simp [List.lookup_cons]
                · rw [if_neg hcnd];right;simp [List.lookup_cons]
              · have hb':(x'==n)=false:=by simpa using hb
                have h':=ih (by simpa only [List.lookup_cons,hb'] using h)
                rw [List.map_cons]
                dsimp only
                by_cases hcnd:(k==NameKind.free && X.env.scope.kind==.function && X.env.kindOf n==some .cell)=true
                · rw [if_pos hcnd];simpa only [List.lookup_cons,hb'] using h'
                · rw [if_neg hcnd];simpa only [List.lookup_cons,hb'] using h'
          exact key scope.names g3
        · obtain ⟨c,hcl⟩:=hhas _ (PySem.mem_of_lookup g3) rfl
          have hcx:=hsub _ _ hcl
          rcases l with ⟨k1,_⟩ | ⟨_,c',e4,z⟩
          · exfalso
            have k1':X.env.scope.names.lookup x'=some .local:=k1
            rcases hfree with z | z
            · rw [z] at k1';cases k1'
            · rw [z] at k1';cases k1'
          · rw [hcx] at e4
            cases e4
            obtain ⟨o,ho,hd⟩:=z
            exact ⟨c,hcl,o,old _ _ ho,hd⟩
    · obtain ⟨v,o,ho,hd⟩:=I2.cell x c (hsub _ _ e)
      exact ⟨v,o,old _ _ ho,hd⟩
    · show upd H2 s2.heap.objs.size (.dK []) hp2.objs.size=none
      rw [upd_ne (Ne.symm hDC)]
      exact I2.hok.fresh hCle
    · obtain ⟨v,o,ho,hd⟩:=I2.cell x c (hsub _ _ e)
      exact upn c (Heap.lt_size ho) (I2.freeC x c (hsub _ _ e))
    · have hp':p∈X.pn++pins:=by simpa [cxComp] using hp
      obtain ⟨e,n,ne,nf,d⟩:=I2.pin p hp'
      have hlt:=Heap.lt_size e
      refine ⟨old _ _ e,upn _ hlt n,(below _ hlt).1,fun z=>?_,d⟩
      rcases List.mem_cons.mp (I2.stkSub _ z) with z' | z'
      · exact ne z'
      · exact nf z'
    · show (cst L src σ).length=N'.length
      unfold cst
      rw [List.length_append,List.length_replicate,List.length_map,ck.len]
  have eA:X'.A=X.A:=by subst hX;rfl
  have eP:X'.prog=X.prog:=by subst hX;rfl
  have eW:X'.w=X.w:=by subst hX;rfl
  have eK:X'.K=X.K:=by subst hX;rfl
  have ec:X'.calm=true:=by subst hX;exact hc
  have exe:X'.xe=fun _ _=>False:=by subst hX;rfl
  have eE:X'.env=compEnvC scope cl hp2.objs.size X.env:=by subst hX;rfl
  have hg':PG X' tg g:=by subst hX;exact hg _ _ _ _ _ _
  have hif':PIfs X' ifs tt:=by subst hX;exact hif _ _ _ _ _ _
  have hk':PE X' kx tk:=by subst hX;exact hk _ _ _ _ _ _
  have hv':PE X' vx tv:=by subst hX;exact hv _ _ _ _ _ _
  have aft:∀{H':Hp}{s':Shared},Inv X' [] (cst L src σ) H' s'→Inv X pins σ H' s'∧(∃m,s'.heap.Ns hp2.objs.size m)∧FpOk X pins H' hp2.objs.size:=by
    subst hX
    intro H' s' J
    refine ⟨I2.call' (ch:=fp) J.os J.base J.hok J.bare fun b hb=>⟨(f2 b hb).2.2.2.1,(f2 b hb).2.1,(f2 b hb).2.2.2.2.1,(f2 b hb).2.2.2.2.2⟩,?_,I2.fpOk hCle J.free⟩
    obtain ⟨m,hn,_⟩:=J.loc
    exact ⟨m,hn⟩
  have st1:tn 0 h₁:=T.keep _ _ _ st2 fun b hb o e=>old b o e
  have loop:∀s₃:Shared,s₃={ s2 with heap:=h₁,toks:=s2.toks+([]:List (Str×Value)).length }→
      codeAny (model X.prog X.w) X.A (.compLoop (.DictComp kx vx [⟨tg,iter,ifs,0⟩] scope pos) 0 (.ref it) (.ref s2.heap.objs.size) (compEnvC scope cl hp2.objs.size X.env))
        (RR (.ref s2.heap.objs.size) hp2.objs.size) s₃:=by
    rintro s₃ rfl
    refine compLoop_allD (fun n s'=>Ex3 fun i H' ys=>Inv X' [] (cst L src σ) H' s'∧tn i s'.heap∧(∀b∈fp,H' b=none)∧W i n H' ys) ?_ m0
      ⟨0,_,[],I1,st1,fun b hb=>(by rw [upd_ne (below b (fplt b hb)).2];exact (f2 b hb).1),w0⟩
    rintro n s3 ⟨i,H3,ys,I3,st3,fr3,w3⟩
    obtain ⟨hD,alt⟩:=turn i n H3 ys w3
    rcases alt with ⟨stop,qn⟩ | ⟨go,hlen,N,hN,step⟩
    · have d:=T.done X' eP eW eK ec i [] s3 (cst L src σ) H3 (fun _ _=>False) I3 (stat fr3) st3 stop
      rw [eA] at d
      refine thn d fun r s4 ⟨hr,I4⟩=>?_
      subst hr
      obtain ⟨J,⟨m,hn⟩,fpC⟩:=aft I4
      exact hRR _ _ H3 .next s4 m J hn fpC qn
    · have d:=T.item X' eP eW eK ec i [] s3 (cst L src σ) H3 (fun _ _=>False) I3 (stat fr3) st3 go
      rw [eA] at d
      refine thn d fun r s4 ⟨u,hr,h4⟩=>?_
      subst hr
      refine thn h4 fun _ s5 ⟨x,H5,I5,r5,y5,st5,fr5⟩=>?_
      have I5':=I5.pinned (stat fr5) (T.obj _ _ st5)
      have a1:=hg' _ s5 (cst L src σ) H5 x u _ I5' r5 (step x H5 y5)
      rw [eP,eW,eA,eE,exe] at a1
      refine thn a1 fun _ s6 ⟨σ6,H6,I6,bk,q6⟩=>?_
      have a2:=hif' _ s6 σ6 H6 _ I6 q6
      rw [eP,eW,eA,eE,exe] at a2
      refine thn a2 fun b s7 ⟨H7,I7,q7⟩=>?_
      have again:∀{H8:Hp}{s8:Shared}{ys':List (Key×V)},Inv X' ([]++pinsAt fp s5.heap) σ6 H8 s8→N H8 ys'→∃m,m<n∧Ex3 fun i H' ys=>Inv X' [] (cst L src σ) H' s8∧tn i s8.heap∧(∀b∈fp,H' b=none)∧W i m H' ys:=fun {H8 s8 ys'} I8 n8=>by
        obtain ⟨m',hm,w8⟩:=hN H8 ys' n8
        refine ⟨m',hm,i+1,H8,ys',(I8.unpinned).weak bk.1.symm bk.2,T.keep _ _ _ st5 fun b hb o e=>(I8.pin (b,o) (List.mem_append_right _ (List.mem_append_right _ (mem_pinsAt hb e)))).1,fun b hb=>?_,w8⟩
        obtain ⟨o,e,d⟩:=T.obj _ _ st5 b hb
        exact (I8.pin (b,o) (List.mem_append_right _ (List.mem_append_right _ (mem_pinsAt hb e)))).2.1
      cases b with
      | false=>
        rw [if_neg Bool.false_ne_true] at q7 ⊢
        exact again I7 q7
      | true=>
        rw [if_pos rfl] at q7 ⊢
        have a3:=hk' _ s7 σ6 H7 _ I7 q7
        rw [eP,eW,eA,eE,exe] at a3
        refine thn a3 fun kv s8 ⟨yk,H8,I8,r8,k,ek,q8⟩=>?_
        subst ek
        have a4:=hv' _ s8 σ6 H8 _ I8 q8
        rw [eP,eW,eA,eE,exe] at a4
        refine thn a4 fun vv s9 ⟨y,H9,I9,r9,hD9,q9⟩=>?_
        obtain ⟨hz,hm,vs,rel,dd⟩:=(show ObjOk X'.prog X'.w H9 s9.heap s2.heap.objs.size (.dK ys) from I9.hok _ _ hD9)
        rw [eP,eW] at dd
        refine wpAny_dictSet_pairs (knd:=mixKind X.prog X.w) (hsz:=by rw [←rel.length];exact hz) (keyV_kind r8) dd fun h' hd' sb=>?_
        have hd2:h'.DictOf (mixKind X'.prog X'.w) s2.heap.objs.size (stored vs k vv):=by rw [eP,eW];exact hd'
        exact again (I9.dset (t':=s9.toks+1) hD9 hm (storV_len hlen) (kv_stored rel r9) hd2 sb) q9
  exact codeAny_compStart_dict (loop _ rfl) (T.self _ 0 _ _ _ st1 (loop _ rfl))
theorem pe_compD (hc:X.calm=true) (ck:compChk X.env.scope X.N scope N' L src=true) (hi:PI X tg iter wi) (hg:∀cl C s H ex pn,PG (cxComp X scope cl C N' s H ex pn) tg g) (hif:∀cl C s H ex pn,PIfs (cxComp X scope cl C N' s H ex pn) ifs tt)
    (hk:∀cl C s H ex pn,PE (cxComp X scope cl C N' s H ex pn) kx tk) (hv:∀cl C s H ex pn,PE (cxComp X scope cl C N' s H ex pn) vx tv) (hs:∀x,foldedSetIterable iter X.env x=pure x:=by intro _;rfl) :
    PE X (.DictComp kx vx [⟨tg,iter,ifs,0⟩] scope pos) (tCompD wi L src g tt tk tv):=by
  intro pins s σ H Q I h
  have ck:=compOk_of ck
  obtain ⟨cl,hclos,hsub,hhas⟩:=clos_ok (scope:=scope) (env:=X.env) fun y hy e=>I.ok.has y.1 (ck.free y hy e)
  rw [arm_eval_DictComp]
  refine wpAny_comprehension_free (use:=none) rfl hs hclos ck.kind ck.loc (comp_runD hc ck I hsub hhas hi hg hif hk hv h (RR:=fun acc C=>compPost (model X.prog X.w) X.A X.xe none (EP X pins σ Q) acc C) ?_)
  intro D C H' f s' m J hn fpC q
  refine ⟨m,hn,fun h' hsb=>⟨.ref D,H',?_,rfl,q⟩⟩
  obtain ⟨f0,f1,f2,f3,f4,f5⟩:=fpC
  exact J.turned (t':=s'.toks) (fun b o hb e=>(hsb.2 b hb).trans e) f0 f1 f3 f4 f5
theorem ps_setCompD {j:Nat}{y:Str}{py spos:Pos} (hN:X.N.Nodup) (hj:X.N[j]?=some y) (hy:X.env.scope.names.lookup y=some .local) (hsw:swapsWith (.DictComp kx vx [⟨tg,iter,ifs,0⟩] scope pos) (some (.Name y py)) spos.line X.env=pure true)
    (hc:X.calm=true) (ck:compChk X.env.scope X.N scope N' L src=true) (hi:PI X tg iter wi) (hg:∀cl C s H ex pn,PG (cxComp X scope cl C N' s H ex pn) tg g) (hif:∀cl C s H ex pn,PIfs (cxComp X scope cl C N' s H ex pn) ifs tt)
    (hk:∀cl C s H ex pn,PE (cxComp X scope cl C N' s H ex pn) kx tk) (hv:∀cl C s H ex pn,PE (cxComp X scope cl C N' s H ex pn) vx tv) (hs:∀x,foldedSetIterable iter X.env x=pure x:=by intro _;rfl) :
    PS X (.Assign [.Name y py] (.DictComp kx vx [⟨tg,iter,ifs,0⟩] scope pos) spos) (tAsg (tCompD wi L src g tt tk tv) (gName j)):=by
  intro pins s σ H D I h
  have ck:=compOk_of ck
  obtain ⟨cl,hclos,hsub,hhas⟩:=clos_ok (scope:=scope) (env:=X.env) fun y hy e=>I.ok.has y.1 (ck.free y hy e)
  rw [exec_Assign_Name_used _ _ _ _ hsw]
  refine wpAny_bind (wpAny_standAt (wpAny_bind ?_))
  show wpAny _ X.A (do let _ ←comprehension (.DictComp kx vx [⟨tg,iter,ifs,0⟩] scope pos) scope X.env _ newDict false (eval iter X.env) (some (assign (.Name y py) X.env))) _ _ s
  refine wpAny_bind (wpAny_mono (wpAny_comprehension_free (use:=some (assign (.Name y py) X.env)) (Q:=fun _ s'=>SP X pins D .next s') rfl hs hclos ck.kind ck.loc
    (comp_runD hc ck I hsub hhas hi hg hif hk hv h (RR:=fun acc C=>compPost (model X.prog X.w) X.A X.xe (some (assign (.Name y py) X.env)) (fun _ s'=>SP X pins D .next s') acc C) ?_)) (fun _ s' hq=>wpAny_pure (wpAny_pure hq)) fun _ _ e=>e)
  intro L' C H' f s' m J hn fpC q
  show wpAny _ X.A (assign (.Name y py) X.env (.ref L')) _ _ _
  refine wpAny_assign_Name (store_ok2 J hN hj (.inl hy) (v:=.ref L') rfl (fun s2 J2 hsb=>?_) (.inr hy))
  obtain ⟨f0,f1,f2,f3,f4,f5⟩:=fpC
  obtain ⟨a,hsb,ha⟩:=hsb
  have hCa:C≠a:=by
    rcases ha with rfl | ha
    · exact f1
    · exact fun z=>f4 _ _ ha z.symm
  refine ⟨m,hn.sameBut hsb hCa,fun h' hsb'=>⟨_,H',?_,q⟩⟩
  exact J2.turned (t':=s2.toks) (fun b o hb e=>(hsb'.2 b hb).trans e) f0 f1 f3 f4 f5
end
end L2
namespace KM
theorem mul_le_l {a b c:Rat} (h:a≤b) (hc:0≤c):c*a≤c*b:=Rat.mul_le_mul_of_nonneg_left h hc
variable {ls:List (List Nat)}{es done:List Edge}{W u:List Nat→Rat}{S:List (List Nat)}{q:List Nat}{m:Rat}
end KM
namespace L2
open PySem PySem.Spec PyProof.Rows
section
variable {z:Nat}{E:Addr→Prop}{H H':Hp}{n m k:Nat}{v:V}{xs ys:List V}
end
section
variable {X:Cx}{K:PySem.W.Frag}
end
end L2
namespace L2
open PySem PySem.Spec PyProof.Rows
def tDead:TS:=fun _ _ _=>False
section
variable {X:Cx}
theorem ps_dead {st:Stmt}:PS X st tDead:=fun _ _ _ _ _ _ h=>h.elim
inductive rAppB_ (x:V) (vs:List V) (H:Hp) (Q:VK):Prop
  | mk (l:_) (xs:_) (y:_) (h0:x=.ref l) (h1:vs=[y]) (h2:H l=some (.lst xs)) (h3:xs.length≤16700000) (h4:∀H',Ch H l (xs++[y]) H'→Q .non H')
def rAppB:V→List V→Hp→VK→Prop:=fun x vs H Q=>rAppB_  x vs H Q
theorem mt_appendB:MtM X "list.append" rAppB:=fun pins s σ H x vs v us Q I rx rv ⟨l,xs,y,e1,e2,h,hz,q⟩=>mt_append pins s σ H x vs v us Q I rx rv ⟨l,xs,y,e1,e2,h,(by rw [sizeLine_eq];trivial),q _ .mk'⟩
inductive rPopL_ (x:V) (vs:List V) (H:Hp) (Q:VK):Prop
  | mk (l:_) (xs:_) (y:_) (h0:x=.ref l) (h1:vs=[]) (h2:H l=some (.lst (xs++[y]))) (h3:∀H',Ch H l xs H'→Q y H')
def rPopL:V→List V→Hp→VK→Prop:=fun x vs H Q=>rPopL_  x vs H Q
theorem mt_popL:MtM X "list.pop" rPopL:=fun pins s σ H x vs v us Q I rx rv ⟨l,xs,y,e1,e2,h,q⟩=>mt_pop pins s σ H x vs v us Q I rx rv ⟨l,xs++[y],y,e1,e2,h,by simp,by
  rw [List.dropLast_concat];exact q _ .mk'⟩
inductive rReverseA_ (x:V) (vs:List V) (H:Hp) (Q:VK):Prop
  | mk (l:_) (xs:_) (h0:x=.ref l) (h1:vs=[]) (h2:H l=some (.lst xs)) (h3:∀H',Ch H l xs.reverse H'→Q .non H')
def rReverseA:V→List V→Hp→VK→Prop:=fun x vs H Q=>rReverseA_  x vs H Q
theorem mt_reverseA:MtM X "list.reverse" rReverseA:=fun pins s σ H x vs v us Q I rx rv ⟨l,xs,e1,e2,h,q⟩=>mt_reverse pins s σ H x vs v us Q I rx rv ⟨l,xs,e1,e2,h,q _ .mk'⟩
inductive rIndexS_ (x:V) (vs:List V) (H:Hp) (Q:VK):Prop
  | mk (l:Addr) (ks:List (List Nat)) (k:List Nat) (j:Nat) (h0:x=.ref l) (h1:vs=[strV k]) (h2:H l=some (.lst (ks.map strV))) (h3:ks.length≤10000) (h4:ks[j]?=some k) (h5:ks.Nodup) (h6:Q (.int (j:Int)) H)
def rIndexS:V→List V→Hp→VK→Prop:=fun x vs H Q=>rIndexS_  x vs H Q
theorem mt_indexS:MtM X "list.index" rIndexS:=by
  intro pins s σ H x vs v us Q I rx rv h
  obtain ⟨l,ks,k,j,rfl,rfl,hH,hz,hj,nd,q⟩:=h
  cases rx
  obtain ⟨u,rfl,ru⟩:=rv.one
  obtain ⟨t,rfl⟩:=ru
  obtain ⟨z,its,n,r,hl,e⟩:=I.lstM hH
  have hlen:ks.length=its.length:=by rw [←hl,List.length_map]
  have isI:∀(m:Nat) (w:Value),its[m]?=some w→Ex2 fun i t'=>ks[m]?=some i∧w=.str (S i) t':=fun m w hw=>by
    obtain ⟨i,hi⟩:∃i,ks[m]?=some i:=⟨_,List.getElem?_eq_getElem (by rw [hlen];exact (List.getElem?_eq_some_iff.mp hw).1)⟩
    obtain ⟨w',hw',rw'⟩:=r.get (show (ks.map strV)[m]?=some (strV i) by rw [List.getElem?_map,hi];rfl)
    rw [hw] at hw'
    cases hw'
    obtain ⟨t',rfl⟩:=rw'
    exact ⟨i,t',hi,rfl⟩
  have hji:j<its.length:=by rw [←hlen];exact (List.getElem?_eq_some_iff.mp hj).1
  refine call_meets F.slot_list_index ⟨_,e,rfl⟩ F.entry_list_index (F.args_list_index_2 _ _)
    (MeetsSeq.list_index l its.toArray n (.str (S k) t) (fun y=>match y with | .str i _=>i==S k | _=>false) (fun y hy=>?_) j (by simpa using hji) (by trivial) ?_ (fun m hm hlt=>?_)) ⟨e,?_⟩
  · obtain ⟨m,hm⟩:=List.getElem?_of_mem (by simpa using hy:y∈its)
    obtain ⟨i,t',_,rfl⟩:=isI m y hm
    exact eqGives_str (S i) (S k) t' t
  · obtain ⟨i,t',e1,e2⟩:=isI j its[j] (List.getElem?_eq_getElem hji)
    rw [hj] at e1
    cases e1
    simp only [List.getElem_toArray,e2,beq_self_eq_true]
  · have hm':m<its.length:=by simpa using hm
    obtain ⟨i,t',e1,e2⟩:=isI m its[m] (List.getElem?_eq_getElem hm')
    simp only [List.getElem_toArray,e2]
    apply beq_eq_false_iff_ne.mpr
    intro q
    have q':i=k:=S_inj q
    subst q'
    have a1:=List.getElem?_eq_some_iff.mp e1
    have a2:=List.getElem?_eq_some_iff.mp hj
    have:=nodup_inj nd a1.1 a2.1 (by rw [a1.2,a2.2])
    trivial
  · exact ⟨.int (j:Int),H,I.tok _,⟨_,rfl⟩,q⟩
inductive rMinL_ (xs:List V) (H:Hp) (Q:VK):Prop
  | mk (a:Addr) (ks:List Int) (h0:xs=[.ref a]) (h1:H a=some (.lst (ks.map V.int))) (h2:ks≠[]) (h3:∀k∈ks,Q (.int k) H)
def rMinL:List V→Hp→VK→Prop:=fun xs H Q=>rMinL_  xs H Q
theorem ints_of:∀{ks:List Int}{its:List Value},Vals (ks.map V.int) its→∃ps:List (Int×Tok),its=ps.map (fun p=>Value.int p.1 p.2)∧ks=ps.map (·.1)
  | [],_,.nil=>⟨[],rfl,rfl⟩
  | k :: ks,u :: us,.cons r t=>by
    obtain ⟨tk,rfl⟩:=r
    obtain ⟨ps,e1,e2⟩:=ints_of t
    exact ⟨(k,tk) :: ps,by rw [e1];rfl,by rw [e2];rfl⟩
theorem call_minL (hc:X.calm=true):CallR X (.builtin "min") rMinL:=by
  intro pins s σ H xs us Q I r h
  obtain ⟨a,ks,rfl,ha,hne,q⟩:=h
  obtain ⟨u,rfl,ru⟩:=vals1 r
  cases ru
  obtain ⟨z,its,n,rv,hl,e⟩:=I.lstM ha
  obtain ⟨ps,e1,e2⟩:=ints_of rv
  have hi:s.heap.IsList a (intItems ps.toArray):=⟨_,e,rfl,n,by rw [e1];simp [intItems]⟩
  have hp:0<ps.toArray.size:=by
    rw [List.size_toArray]
    cases ps with
    | nil=>exact absurd e2 hne
    | cons p r=>simp
  refine min_intList (I.ok.hd hc) hi hp fun v h' tk hv hk=>?_
  simp only [intItems,Array.getElem?_map,Option.map_eq_some_iff] at hv
  obtain ⟨p,hp,rfl⟩:=hv
  have hm:p∈ps:=by
    have:=Array.mem_of_getElem? hp
    simpa using this
  exact ⟨.int p.1,H,I.kept hk,⟨_,rfl⟩,q p.1 (by rw [e2];exact List.mem_map_of_mem hm)⟩
end
end L2
namespace L2
open PySem
theorem rat_lt_le {a b c:Rat} (h:a<b) (k:b≤c):a<c:=by grind
theorem rat_le_lt {a b c:Rat} (h:a≤b) (k:b<c):a<c:=by grind
theorem vl_le_iff {p q:KM.Fra} (hp:1≤p.2) (hq:1≤q.2):KM.vl p≤KM.vl q↔p.1*q.2≤q.1*p.2:=by
  have e:KM.vl q - KM.vl p=Rat.divInt (q.1*p.2 - p.1*q.2) (q.2*p.2):=by
    unfold KM.vl
    rw [Rat.divInt_sub_divInt _ _ (by trivial) (by trivial)]
  have h:=Rat.divInt_nonneg_iff_of_pos_right (a:=q.1*p.2 - p.1*q.2) (b:=q.2*p.2) (Int.mul_pos (by trivial) (by trivial))
  rw [←e] at h
  constructor
  · intro z
    have:=h.mp (by grind)
    trivial
  · intro z
    have:=h.mpr (by trivial)
    grind
theorem vl_lt_iff {p q:KM.Fra} (hp:1≤p.2) (hq:1≤q.2):KM.vl p<KM.vl q↔p.1*q.2<q.1*p.2:=by
  have:=vl_le_iff hq hp
  constructor
  · intro z
    have n:¬KM.vl q≤KM.vl p:=Rat.not_le.mpr z
    rw [this] at n
    trivial
  · intro z
    apply Rat.not_le.mp
    rw [this]
    trivial
theorem vl_pos1 {p:KM.Fra} (h:1≤p.1) (k:1≤p.2):0<KM.vl p:=by
  have:=(vl_lt_iff (p:=(0,1)) (q:=p) (by decide) k).mpr (by show 0*p.2<p.1*1;trivial)
  rw [KM.vl_zero] at this
  exact this
abbrev Wof:=List Nat→KM.Fra
def setF (ω:Wof) (b:List Nat) (v:KM.Fra):Wof:=fun l=>if l=b then v else ω l
def lifts (ω:Wof) (t:TieD):Bool:=decide (t.most≠(0,1)) && decide ((ω t.bg).1*(KM.lTim t.gain (ω t.en)).2<(KM.lTim t.gain (ω t.en)).1*(ω t.bg).2)
structure LS where
  ω:Wof
  on:List Nat→Option Nat
  lf:Option (List Nat)
  la:List Nat→Nat
  tm:List Nat→Nat
  ct:Nat
def stepL (p i:Nat) (t:TieD) (s:LS):LS:=if lifts s.ω t=true then ⟨setF s.ω t.bg (KM.lTim t.gain (s.ω t.en)),fun l=>if l=t.bg then some i else s.on l,some t.bg,fun l=>if l=t.bg then p else s.la l,fun l=>if l=t.bg then s.ct+1 else s.tm l,s.ct+1⟩ else s
def upTo (p:Nat) (ts:List TieD) (s:LS):Nat→LS
  | 0=>{ s with lf:=none }
  | i+1=>match ts[i]? with
    | some t=>stepL p i t (upTo p ts s i)
    | none=>upTo p ts s i
theorem upTo_succ {p i:Nat}{ts:List TieD}{s:LS}{t:TieD} (h:ts[i]?=some t):upTo p ts s (i+1)=stepL p i t (upTo p ts s i):=by
  rw [upTo,h]
def passL (p:Nat) (ts:List TieD) (s:LS):LS:=upTo p ts s ts.length
def ls0:LS:=⟨fun _=>(1,1),fun _=>none,none,fun _=>0,fun _=>0,0⟩
def stL (ts:List TieD):Nat→LS
  | 0=>ls0
  | k+1=>passL (k+1) ts (stL ts k)
theorem stepL_yes {p i:Nat}{t:TieD}{s:LS} (h:lifts s.ω t=true):stepL p i t s=⟨setF s.ω t.bg (KM.lTim t.gain (s.ω t.en)),fun l=>if l=t.bg then some i else s.on l,some t.bg,fun l=>if l=t.bg then p else s.la l,fun l=>if l=t.bg then s.ct+1 else s.tm l,s.ct+1⟩:=by
  unfold stepL;rw [if_pos h]
theorem stepL_no {p i:Nat}{t:TieD}{s:LS} (h:lifts s.ω t=false):stepL p i t s=s:=by
  unfold stepL;rw [if_neg (by rw [h];decide)]
theorem upTo_none {p:Nat}{ts:List TieD}{s:LS}:∀{i:Nat},(upTo p ts s i).lf=none→(upTo p ts s i).ω=s.ω∧∀k t,k<i→ts[k]?=some t→lifts s.ω t=false
  | 0,_=>⟨rfl,fun k t h=>by trivial⟩
  | i+1,h=>by
    cases e:ts[i]? with
    | none=>
      have e':upTo p ts s (i+1)=upTo p ts s i:=by rw [upTo,e]
      rw [e'] at h ⊢
      obtain ⟨h1,h2⟩:=upTo_none h
      refine ⟨h1,fun k t hk et=>?_⟩
      by_cases c:k=i
      · rw [c,e] at et;cases et
      · exact h2 k t (by trivial) et
    | some t=>
      rw [upTo_succ e] at h ⊢
      cases q:lifts (upTo p ts s i).ω t with
      | true=>rw [stepL_yes q] at h;cases h
      | false=>
        rw [stepL_no q] at h ⊢
        obtain ⟨h1,h2⟩:=upTo_none h
        refine ⟨h1,fun k t' hk et=>?_⟩
        by_cases c:k=i
        · rw [c,e] at et;cases et;rw [←h1];exact q
        · exact h2 k t' (by trivial) et
theorem pass_none {p:Nat}{ts:List TieD}{s:LS} (h:(passL p ts s).lf=none):(passL p ts s).ω=s.ω∧∀t∈ts,lifts s.ω t=false:=by
  obtain ⟨h1,h2⟩:=upTo_none h
  refine ⟨h1,fun t ht=>?_⟩
  obtain ⟨k,hk⟩:=List.getElem?_of_mem ht
  exact h2 k t (List.getElem?_eq_some_iff.mp hk).1 hk
structure TOk (ls:List (List Nat)) (t:TieD):Prop where
  b:t.bg∈ls
  e:t.en∈ls
  ne:t.bg≠t.en
  g1:1≤t.gain.1
  g2:1≤t.gain.2
abbrev uW (s:LS) (l:List Nat):Rat:=KM.vl (s.ω l)
abbrev gR (t:TieD):Rat:=KM.vl t.gain
structure BI (ls:List (List Nat)) (ts:List TieD) (p i:Nat) (s:LS):Prop where
  pos:∀l∈ls,1≤(s.ω l).1∧1≤(s.ω l).2
  on:∀l k,s.on l=some k→∃t,ts[k]?=some t∧t.most≠(0,1)∧t.bg=l∧uW s l≤gR t*uW s t.en∧(s.tm l≤s.tm t.en→uW s l<gR t*uW s t.en)∧s.la l≤s.la t.en+1
  la1:∀l,1≤s.la l→s.on l≠none
  up:∀k t,ts[k]?=some t→t.most≠(0,1)→gR t*uW s t.en≤uW s t.bg∨(if k<i then p else p - 1)≤s.la t.en
  lap:∀l,s.la l≤p
  tmc:∀l,s.tm l≤s.ct
  lf:∀b,s.lf=some b→s.la b=p∧b∈ls
theorem lift_val {ls:List (List Nat)}{t:TieD}{ω:Wof} (c:TOk ls t) (pos:∀l∈ls,1≤(ω l).1∧1≤(ω l).2):KM.vl (KM.lTim t.gain (ω t.en))=KM.vl t.gain*KM.vl (ω t.en)∧1≤(KM.lTim t.gain (ω t.en)).2∧1≤(KM.lTim t.gain (ω t.en)).1:=by
  obtain ⟨p1,p2⟩:=pos t.en c.e
  have g2:=c.g2
  exact ⟨KM.vl_tim (by trivial) (by trivial),(KM.low_spec _ _ (Int.mul_ne_zero (by trivial) (by trivial))).1,tim_pos c.g1 c.g2 p1 p2⟩
theorem lifts_iff {ls:List (List Nat)}{t:TieD}{ω:Wof} (c:TOk ls t) (pos:∀l∈ls,1≤(ω l).1∧1≤(ω l).2):lifts ω t=true↔(t.most≠(0,1)∧KM.vl (ω t.bg)<KM.vl t.gain*KM.vl (ω t.en)):=by
  obtain ⟨e1,e2,e3⟩:=lift_val c pos
  unfold lifts
  rw [Bool.and_eq_true,decide_eq_true_iff,decide_eq_true_iff,←e1,vl_lt_iff (pos t.bg c.b).2 e2]
theorem BI.step {ls:List (List Nat)}{ts:List TieD}{p i:Nat}{s:LS}{t:TieD} (hp:1≤p) (c:TOk ls t) (et:ts[i]?=some t) (tc:∀t∈ts,TOk ls t) (h:BI ls ts p i s):BI ls ts p (i+1) (stepL p i t s):=by
  have hlt:=lifts_iff c h.pos
  cases q:lifts s.ω t with
  | false=>
    rw [stepL_no q]
    refine ⟨h.pos,h.on,h.la1,fun k t' ek ho=>?_,h.lap,h.tmc,h.lf⟩
    by_cases ck:k=i
    · subst ck
      rw [et] at ek
      cases ek
      left
      rw [q] at hlt
      have:¬(KM.vl (s.ω t.bg)<KM.vl t.gain*KM.vl (s.ω t.en)):=fun z=>by
        have:=hlt.mpr ⟨ho,z⟩
        cases this
      exact Rat.not_lt.mp this
    · rcases h.up k t' ek ho with z | z
      · exact .inl z
      · right
        by_cases ck2:k<i
        · rw [if_pos (by trivial)];rw [if_pos ck2] at z;exact z
        · rw [if_neg (by trivial)];rw [if_neg ck2] at z;exact z
  | true=>
    rw [q] at hlt
    obtain ⟨ho,hl⟩:=hlt.mp rfl
    obtain ⟨e1,e2,e3⟩:=lift_val c h.pos
    rw [stepL_yes q]
    have ub:∀l,l=t.bg→uW ⟨setF s.ω t.bg (KM.lTim t.gain (s.ω t.en)),fun l=>if l=t.bg then some i else s.on l,some t.bg,fun l=>if l=t.bg then p else s.la l,fun l=>if l=t.bg then s.ct+1 else s.tm l,s.ct+1⟩ l=gR t*uW s t.en:=fun l e=>by
      show KM.vl (setF _ _ _ l)=_
      unfold setF
      rw [if_pos e]
      exact e1
    have un:∀l,l≠t.bg→uW ⟨setF s.ω t.bg (KM.lTim t.gain (s.ω t.en)),fun l=>if l=t.bg then some i else s.on l,some t.bg,fun l=>if l=t.bg then p else s.la l,fun l=>if l=t.bg then s.ct+1 else s.tm l,s.ct+1⟩ l=uW s l:=fun l e=>by
      show KM.vl (setF _ _ _ l)=_
      unfold setF
      rw [if_neg e]
    generalize es:(⟨setF s.ω t.bg (KM.lTim t.gain (s.ω t.en)),fun l=>if l=t.bg then some i else s.on l,some t.bg,fun l=>if l=t.bg then p else s.la l,fun l=>if l=t.bg then s.ct+1 else s.tm l,s.ct+1⟩:LS)=s' at ub un ⊢
    have a1:s'.ω=setF s.ω t.bg (KM.lTim t.gain (s.ω t.en)):=by rw [←es]
    have a2:∀l,s'.on l=if l=t.bg then some i else s.on l:=fun l=>by rw [←es]
    have a3:∀l,s'.la l=if l=t.bg then p else s.la l:=fun l=>by rw [←es]
    have a4:∀l,s'.tm l=if l=t.bg then s.ct+1 else s.tm l:=fun l=>by rw [←es]
    have a5:s'.ct=s.ct+1:=by rw [←es]
    have a6:s'.lf=some t.bg:=by rw [←es]
    have mono:∀l,uW s l≤uW s' l:=fun l=>by
      by_cases cl:l=t.bg
      · rw [ub l cl,cl];exact Rat.le_of_lt hl
      · rw [un l cl];exact Rat.le_refl
    have lamono:∀l,s.la l≤s'.la l:=fun l=>by
      rw [a3]
      by_cases cl:l=t.bg
      · rw [if_pos cl];exact h.lap l
      · rw [if_neg cl];exact Nat.le_refl _
    have gpos:∀{t:TieD},t∈ts→0<gR t:=fun {t} ht=>vl_pos1 (tc t ht).g1 (tc t ht).g2
    refine ⟨fun l hl'=>?_,fun l k hk=>?_,fun l h1=>?_,fun k t' ek ho'=>?_,fun l=>?_,fun l=>?_,fun b hb=>?_⟩
    · rw [a1]
      unfold setF
      by_cases cl:l=t.bg
      · rw [if_pos cl];exact ⟨e3,e2⟩
      · rw [if_neg cl];exact h.pos l hl'
    · rw [a2] at hk
      by_cases cl:l=t.bg
      · rw [if_pos cl] at hk
        cases hk
        have ne:t.en≠t.bg:=fun z=>c.ne z.symm
        refine ⟨t,et,ho,cl.symm,?_,fun z=>?_,?_⟩
        · rw [ub l cl,un t.en ne];exact Rat.le_refl
        · rw [a4,a4,if_pos cl,if_neg ne] at z
          have:=h.tmc t.en
          trivial
        · rw [a3,a3,if_pos cl,if_neg ne]
          rcases h.up i t et ho with z | z
          · exact absurd hl (Rat.not_lt.mpr z)
          · rw [if_neg (Nat.lt_irrefl _)] at z
            trivial
      · rw [if_neg cl] at hk
        obtain ⟨t',e',o',b',l',s',r'⟩:=h.on l k hk
        have gp:=gpos (List.mem_of_getElem? e')
        have hm:=KM.mul_le_l (mono t'.en) (Rat.le_of_lt gp)
        refine ⟨t',e',o',b',?_,fun z=>?_,?_⟩
        · rw [un l cl];exact Rat.le_trans l' hm
        · rw [un l cl]
          rw [a4,a4,if_neg cl] at z
          by_cases ce:t'.en=t.bg
          · rw [ub t'.en ce]
            have:uW s t'.en<gR t*uW s t.en:=by rw [ce];exact hl
            have h2:=Rat.mul_lt_mul_of_pos_left this gp
            exact rat_le_lt l' h2
          · rw [un t'.en ce]
            rw [if_neg ce] at z
            exact s' z
        · rw [a3 l,if_neg cl]
          exact Nat.le_trans r' (Nat.add_le_add_right (lamono _) 1)
    · rw [a2]
      by_cases cl:l=t.bg
      · rw [if_pos cl];intro z;cases z
      · rw [if_neg cl]
        rw [a3,if_neg cl] at h1
        exact h.la1 l h1
    · by_cases ck:k=i
      · subst ck
        rw [et] at ek
        cases ek
        left
        rw [ub t.bg rfl,un t.en (fun z=>c.ne z.symm)]
        exact Rat.le_refl
      · by_cases ce:t'.en=t.bg
        · right
          rw [a3,if_pos ce]
          split <;> trivial
        · rcases h.up k t' ek ho' with z | z
          · left
            rw [un t'.en ce]
            exact Rat.le_trans z (mono _)
          · right
            rw [a3,if_neg ce]
            by_cases ck2:k<i
            · rw [if_pos (by trivial)];rw [if_pos ck2] at z;exact z
            · rw [if_neg (by trivial)];rw [if_neg ck2] at z;exact z
    · rw [a3]
      by_cases cl:l=t.bg
      · rw [if_pos cl];exact Nat.le_refl _
      · rw [if_neg cl];exact h.lap l
    · rw [a4,a5]
      by_cases cl:l=t.bg
      · rw [if_pos cl];exact Nat.le_refl _
      · rw [if_neg cl];have:=h.tmc l;trivial
    · rw [a6] at hb
      cases hb
      exact ⟨by rw [a3,if_pos rfl],c.b⟩
theorem BI.all {ls:List (List Nat)}{ts:List TieD} (tc:∀t∈ts,TOk ls t) (p:Nat):∀i,i≤ts.length→BI ls ts p ts.length (stL ts p)→BI ls ts (p+1) i (upTo (p+1) ts (stL ts p) i)
  | 0,_,h=>⟨h.pos,h.on,h.la1,fun k t e o=>by
      rcases h.up k t e o with z | z
      · exact .inl z
      · right
        rw [if_pos (List.getElem?_eq_some_iff.mp e).1] at z
        rw [if_neg (by trivial)]
        exact z,fun l=>by have:=h.lap l;exact Nat.le_succ_of_le this,h.tmc,fun b hb=>by cases hb⟩
  | i+1,hi,h=>by
    have ih:=BI.all tc p i (by trivial) h
    have e:ts[i]?=some ts[i]:=List.getElem?_eq_getElem (by trivial)
    rw [upTo_succ e]
    exact ih.step (by trivial) (tc _ (List.getElem_mem _)) e tc
theorem BI.st {ls:List (List Nat)}{ts:List TieD} (tc:∀t∈ts,TOk ls t):∀p,BI ls ts p ts.length (stL ts p)
  | 0=>⟨fun l _=>⟨by show (1:Int)≤1;decide,by show (1:Int)≤1;decide⟩,(fun l k h=>by cases h),(fun l h=>by exact absurd h (by show ¬1≤0;decide)),(fun k t e o=>.inr (by split <;> exact Nat.zero_le _)),fun l=>Nat.le_refl _,fun l=>Nat.le_refl _,fun b hb=>by cases hb⟩
  | p+1=>BI.all tc p _ (Nat.le_refl _) (BI.st tc p)
def prodG (us:List TieD):Rat:=(us.map gR).foldr (· * ·) 1
structure Ed (s:LS) (t:TieD):Prop where
  g:0<gR t
  le:uW s t.bg≤gR t*uW s t.en
  lt:s.tm t.bg≤s.tm t.en→uW s t.bg<gR t*uW s t.en
theorem along {s:LS}{c:List Nat}:∀{us:List TieD}{a:List Nat},us.map (·.bg)++[c]=a :: us.map (·.en)→(∀t∈us,Ed s t)→us≠[]→uW s a≤prodG us*uW s c∧(uW s a<prodG us*uW s c∨s.tm c<s.tm a)
  | [],_,_,_,h=>absurd rfl h
  | t :: r,a,e,h,_=>by
    simp only [List.map_cons,List.cons_append,List.cons.injEq] at e
    obtain ⟨rfl,e⟩:=e
    have ht:=h t (List.mem_cons_self ..)
    have hr:=fun x hx=>h x (List.mem_cons_of_mem _ hx)
    have ep:prodG (t :: r)=gR t*prodG r:=rfl
    rw [ep]
    have g0:=Rat.le_of_lt ht.g
    cases r with
    | nil=>
      simp only [List.map_nil,List.nil_append,List.cons.injEq,and_true] at e
      subst e
      have e1:prodG []=1:=rfl
      rw [e1,Rat.mul_one]
      refine ⟨ht.le,?_⟩
      by_cases z:s.tm t.bg≤s.tm t.en
      · exact .inl (ht.lt z)
      · exact .inr (by trivial)
    | cons t2 r2=>
      obtain ⟨h1,h2⟩:=along e hr (by simp)
      have m1:=KM.mul_le_l h1 g0
      have ea:gR t*(prodG (t2 :: r2)*uW s c)=gR t*prodG (t2 :: r2)*uW s c:=(Rat.mul_assoc _ _ _).symm
      rw [ea] at m1
      refine ⟨Rat.le_trans ht.le m1,?_⟩
      by_cases z:s.tm t.bg≤s.tm t.en
      · exact .inl (rat_lt_le (ht.lt z) m1)
      · rcases h2 with h2 | h2
        · have m2:=Rat.mul_lt_mul_of_pos_left h2 ht.g
          rw [ea] at m2
          exact .inl (rat_le_lt ht.le m2)
        · exact .inr (by trivial)
structure RndOk (ts:List TieD) (R:List Nat) (us:List TieD):Prop where
  at':R.map (fun k=>ts[k]?)=us.map some
  op:∀t∈us,t.most≠(0,1)
  two:2≤R.length
  nd:(us.map (·.bg)).Nodup
  rot:us.map (·.en)=(us.map (·.bg)).drop 1++(us.map (·.bg)).take 1
  gain:1<prodG us
theorem rnd_of {ls:List (List Nat)}{ts:List TieD}{s:LS}{ks:List Nat}{us:List TieD}{l0 c:List Nat}{j:Nat} (tc:∀t∈ts,TOk ls t) (pos:∀l∈ls,1≤(s.ω l).1∧1≤(s.ω l).2)
    (h1:ks.map (fun k=>ts[k]?)=us.map some) (ho:∀t∈us,t.most≠(0,1)) (he:∀t∈us,Ed s t) (nd:(us.map (·.bg)).Nodup) (ch:us.map (·.bg)++[c]=l0 :: us.map (·.en)) (hj:(us.map (·.bg))[j]?=some c):RndOk ts (ks.drop j) (us.drop j):=by
  have lj:j<us.length:=by have:=(List.getElem?_eq_some_iff.mp hj).1;rwa [List.length_map] at this
  have lk:ks.length=us.length:=by have:=congrArg List.length h1;simpa using this
  have memT:∀t∈us,t∈ts:=fun t ht=>by
    have:some t∈ks.map (fun k=>ts[k]?):=by rw [h1];exact List.mem_map_of_mem ht
    obtain ⟨k,_,hk⟩:=List.mem_map.mp this
    exact List.mem_of_getElem? hk
  have sub:∀t∈us.drop j,t∈us:=fun t ht=>List.mem_of_mem_drop ht
  have ch2:(us.drop j).map (·.bg)++[c]=c :: (us.drop j).map (·.en):=by
    have e:=congrArg (List.drop j) ch
    rw [List.drop_append_of_le_length (by rw [List.length_map];trivial)] at e
    rw [List.map_drop,e]
    cases j with
    | zero=>
      cases us with
      | nil=>simp at lj
      | cons t r=>
        simp at hj ch
        simp [←ch.1,hj]
    | succ m=>
      rw [List.drop_succ_cons,List.map_drop]
      have hm:m<(us.map (·.en)).length:=by rw [List.length_map];trivial
      rw [List.drop_eq_getElem_cons hm]
      have:(us.map (·.en))[m]?=some c:=by
        have e2:=congrArg (fun z=>z[m+1]?) ch
        simp only [List.getElem?_cons_succ] at e2
        rw [←e2,List.getElem?_append_left (by rw [List.length_map];exact lj)]
        exact hj
      rw [(List.getElem?_eq_some_iff.mp this).2]
  obtain ⟨t0,r0,e0⟩:Ex2 fun t r=>us.drop j=t :: r:=by
    cases e:us.drop j with
    | nil=>have:=congrArg List.length e;simp at this;trivial
    | cons t r=>exact ⟨t,r,rfl⟩
  have al:=along ch2 (fun t ht=>he t (sub t ht)) (by rw [e0];simp)
  have hc:c∈ls:=by
    obtain ⟨t,ht,rfl⟩:=List.mem_map.mp (List.mem_of_getElem? hj)
    exact (tc t (memT t ht)).b
  have up:0<uW s c:=vl_pos1 (pos c hc).1 (pos c hc).2
  have gain:1<prodG (us.drop j):=by
    rcases al.2 with z | z
    · apply Rat.not_le.mp
      intro w
      have:=Rat.mul_le_mul_of_nonneg_right w (Rat.le_of_lt up)
      rw [Rat.one_mul] at this
      exact absurd z (Rat.not_lt.mpr this)
    · trivial
  have rot:(us.drop j).map (·.en)=((us.drop j).map (·.bg)).drop 1++((us.drop j).map (·.bg)).take 1:=by
    rw [e0] at ch2 ⊢
    simp only [List.map_cons,List.cons_append,List.cons.injEq] at ch2
    simp only [List.map_cons,List.drop_succ_cons,List.drop_zero,List.take_succ_cons,List.take_zero]
    rw [←ch2.2,ch2.1]
  refine ⟨by rw [List.map_drop,h1,List.map_drop],fun t ht=>ho t (sub t ht),?_,?_,rot,gain⟩
  · rw [List.length_drop,lk]
    have:(us.drop j).length=us.length - j:=List.length_drop ..
    rw [←this]
    cases r0 with
    | nil=>
      rw [e0] at rot
      simp at rot
      exact absurd rot.symm (tc t0 (memT t0 (sub t0 (by rw [e0];simp)))).ne
    | cons t1 r1=>rw [e0];simp
  · rw [List.map_drop]
    exact List.Sublist.nodup (List.drop_sublist _ _) nd
theorem closed_le {ls:List (List Nat)}{u:List Nat→Rat} (pos:∀l∈ls,0<u l) {c:List Nat}:∀{us:List TieD}{a:List Nat},us.map (·.bg)++[c]=a :: us.map (·.en)→(∀t∈us,TOk ls t∧gR t*u t.en≤u t.bg)→prodG us*u c≤u a
  | [],a,e,_=>by
    simp at e
    rw [e]
    show (1:Rat)*u a≤u a
    rw [Rat.one_mul]
    exact Rat.le_refl
  | t :: r,a,e,h=>by
    simp only [List.map_cons,List.cons_append,List.cons.injEq] at e
    obtain ⟨rfl,e⟩:=e
    obtain ⟨ht,hh⟩:=h t (List.mem_cons_self ..)
    have ih:=closed_le pos e fun x hx=>h x (List.mem_cons_of_mem _ hx)
    have g0:0<gR t:=vl_pos1 ht.g1 ht.g2
    have m:=KM.mul_le_l ih (Rat.le_of_lt g0)
    have ea:gR t*(prodG r*u c)=prodG (t :: r)*u c:=(Rat.mul_assoc _ _ _).symm
    rw [ea] at m
    exact Rat.le_trans m hh
end L2
set_option maxHeartbeats 4000000
namespace K10
open PySem L2
def top (i:Nat):Stmt:=PySem.Challenge.pw_gainroads_k10_rounds_that_gain.main.body.getD i (.Pass ⟨0,0,0,0⟩)
abbrev s_common_divisor:Stmt:=top 4
abbrev s_fraction:Stmt:=top 5
abbrev s_times:Stmt:=top 6
abbrev s_compared:Stmt:=top 7
abbrev s_is_shut:Stmt:=top 9
abbrev s_lift_once:Stmt:=top 10
abbrev s_round_ahead:Stmt:=top 11
abbrev s_gaining_round:Stmt:=top 12
abbrev s_lift_all:Stmt:=top 13
abbrev s_holding_worths:Stmt:=top 14
abbrev s_l_box:Stmt:=top 16
abbrev s_l_take:Stmt:=top 17
abbrev s_l_folded:Stmt:=top 18
abbrev s_l_frac:Stmt:=top 19
abbrev s_l_product:Stmt:=top 20
abbrev s_l_over:Stmt:=top 21
abbrev s_l_above:Stmt:=top 22
abbrev s_l_names_by:Stmt:=top 23
abbrev s_l_any_gain:Stmt:=top 24
abbrev s_l_any_much:Stmt:=top 25
abbrev s_l_any_price:Stmt:=top 26
abbrev s_l_planted:Stmt:=top 27
abbrev s_l_net_by:Stmt:=top 28
abbrev s_l_opened:Stmt:=top 29
abbrev s_l_gain_of:Stmt:=top 30
abbrev s_l_all_ways:Stmt:=top 31
abbrev s_l_is_round:Stmt:=top 32
abbrev s_l_some_gains:Stmt:=top 33
abbrev s_l_held:Stmt:=top 34
abbrev s_l_right:Stmt:=top 35
abbrev s_law:Stmt:=top 36
theorem sc_common_divisor:FnScope ["n", "d"] ["n", "d"] (defScope s_common_divisor):=⟨rfl,rfl,rfl,by decide +kernel,rfl,by decide +kernel,by decide +kernel⟩
theorem sc_fraction:FnScope ["n", "d", "divisor"] ["n", "d"] (defScope s_fraction):=⟨rfl,rfl,rfl,by decide +kernel,rfl,by decide +kernel,by decide +kernel⟩
theorem sc_times:FnScope ["one", "other"] ["one", "other"] (defScope s_times):=⟨rfl,rfl,rfl,by decide +kernel,rfl,by decide +kernel,by decide +kernel⟩
theorem sc_compared:FnScope ["one", "other", "left", "right"] ["one", "other"] (defScope s_compared):=⟨rfl,rfl,rfl,by decide +kernel,rfl,by decide +kernel,by decide +kernel⟩
theorem sc_is_shut:FnScope ["tie"] ["tie"] (defScope s_is_shut):=⟨rfl,rfl,rfl,by decide +kernel,rfl,by decide +kernel,by decide +kernel⟩
theorem sc_lift_once:FnScope ["net", "worths", "onward", "lifted", "number", "tie", "begin", "end", "most", "gain", "price", "worth"] ["net", "worths", "onward"] (defScope s_lift_once):=⟨rfl,rfl,rfl,by decide +kernel,rfl,by decide +kernel,by decide +kernel⟩
theorem sc_round_ahead:FnScope ["net", "onward", "place", "places", "ties"] ["net", "onward", "place"] (defScope s_round_ahead):=⟨rfl,rfl,rfl,by decide +kernel,rfl,by decide +kernel,by decide +kernel⟩
theorem sc_gaining_round:FnScope ["net", "worths", "onward", "lifted", "turn"] ["net"] (defScope s_gaining_round):=⟨rfl,rfl,rfl,by decide +kernel,rfl,by decide +kernel,by decide +kernel⟩
theorem sc_lift_all:FnScope ["net", "worths", "gaining", "onward"] ["net", "worths"] (defScope s_lift_all):=⟨rfl,rfl,rfl,by decide +kernel,rfl,by decide +kernel,by decide +kernel⟩
theorem sc_holding_worths:FnScope ["net", "worths"] ["net"] (defScope s_holding_worths):=⟨rfl,rfl,rfl,by decide +kernel,rfl,by decide +kernel,by decide +kernel⟩
theorem sc_l_box:FnScope ["_law_script", "_law_k", "_law_cell"] ["_law_script", "_law_k"] (defScope s_l_box):=⟨rfl,rfl,rfl,by decide +kernel,rfl,by decide +kernel,by decide +kernel⟩
theorem sc_l_take:FnScope ["_law_box_here", "_law_many", "_law_found", "_law_once"] ["_law_box_here", "_law_many"] (defScope s_l_take):=⟨rfl,rfl,rfl,by decide +kernel,rfl,by decide +kernel,by decide +kernel⟩
theorem sc_l_folded:FnScope ["_law_script", "_law_many", "_law_cells", "_law_k", "_law_cell"] ["_law_script", "_law_many"] (defScope s_l_folded):=⟨rfl,rfl,rfl,by decide +kernel,rfl,by decide +kernel,by decide +kernel⟩
theorem sc_l_frac:FnScope ["_law_n", "_law_d", "_law_one", "_law_other"] ["_law_n", "_law_d"] (defScope s_l_frac):=⟨rfl,rfl,rfl,by decide +kernel,rfl,by decide +kernel,by decide +kernel⟩
theorem sc_l_product:FnScope ["_law_one", "_law_other"] ["_law_one", "_law_other"] (defScope s_l_product):=⟨rfl,rfl,rfl,by decide +kernel,rfl,by decide +kernel,by decide +kernel⟩
theorem sc_l_over:FnScope ["_law_one", "_law_other"] ["_law_one", "_law_other"] (defScope s_l_over):=⟨rfl,rfl,rfl,by decide +kernel,rfl,by decide +kernel,by decide +kernel⟩
theorem sc_l_above:FnScope ["_law_one", "_law_other"] ["_law_one", "_law_other"] (defScope s_l_above):=⟨rfl,rfl,rfl,by decide +kernel,rfl,by decide +kernel,by decide +kernel⟩
theorem sc_l_names_by:FnScope ["_law_box_here", "_law_many", "_law_letters", "_law_first", "_law_rest", "_law_behind", "_law_sign", "_law_other"] ["_law_box_here", "_law_many"] (defScope s_l_names_by):=⟨rfl,rfl,rfl,by decide +kernel,rfl,by decide +kernel,by decide +kernel⟩
theorem sc_l_any_gain:FnScope ["_law_box_here", "_law_way", "_law_top"] ["_law_box_here"] (defScope s_l_any_gain):=⟨rfl,rfl,rfl,by decide +kernel,rfl,by decide +kernel,by decide +kernel⟩
theorem sc_l_any_much:FnScope ["_law_box_here", "_law_way"] ["_law_box_here"] (defScope s_l_any_much):=⟨rfl,rfl,rfl,by decide +kernel,rfl,by decide +kernel,by decide +kernel⟩
theorem sc_l_any_price:FnScope ["_law_box_here", "_law_way"] ["_law_box_here"] (defScope s_l_any_price):=⟨rfl,rfl,rfl,by decide +kernel,rfl,by decide +kernel,by decide +kernel⟩
theorem sc_l_planted:FnScope ["_law_box_here", "_law_places", "_law_many", "_law_first", "_law_a", "_law_b", "_law_more", "_law_gains", "_law_spots"] ["_law_box_here", "_law_places"] (defScope s_l_planted):=⟨rfl,rfl,rfl,by decide +kernel,rfl,by decide +kernel,by decide +kernel⟩
theorem sc_l_net_by:FnScope ["_law_box_here", "_law_most_places", "_law_most_ties", "_law_way", "_law_great", "_law_places", "_law_many", "_law_some", "_law_worths", "_law_ends", "_law_turn", "_law_at", "_law_begin", "_law_end", "_law_gain", "_law_less", "_law_ties", "_law_top"] ["_law_box_here", "_law_most_places", "_law_most_ties"] (defScope s_l_net_by):=⟨rfl,rfl,rfl,by decide +kernel,rfl,by decide +kernel,by decide +kernel⟩
theorem sc_l_opened:FnScope ["_law_net"] ["_law_net"] (defScope s_l_opened):=⟨rfl,rfl,rfl,by decide +kernel,rfl,by decide +kernel,by decide +kernel⟩
theorem sc_l_gain_of:FnScope ["_law_net", "_law_way", "_law_found", "_law_number"] ["_law_net", "_law_way"] (defScope s_l_gain_of):=⟨rfl,rfl,rfl,by decide +kernel,rfl,by decide +kernel,by decide +kernel⟩
theorem sc_l_all_ways:FnScope ["_law_net", "_law_begin", "_law_found", "_law_waiting", "_law_way", "_law_spots", "_law_number"] ["_law_net", "_law_begin"] (defScope s_l_all_ways):=⟨rfl,rfl,rfl,by decide +kernel,rfl,by decide +kernel,by decide +kernel⟩
theorem sc_l_is_round:FnScope ["_law_net", "_law_thing", "_law_begins"] ["_law_net", "_law_thing"] (defScope s_l_is_round):=⟨rfl,rfl,rfl,by decide +kernel,rfl,by decide +kernel,by decide +kernel⟩
theorem sc_l_some_gains:FnScope ["_law_net", "_law_place", "_law_way", "_law_number"] ["_law_net"] (defScope s_l_some_gains):=⟨rfl,rfl,rfl,by decide +kernel,rfl,by decide +kernel,by decide +kernel⟩
theorem sc_l_held:FnScope ["_law_net", "_law_worths", "_law_known", "_law_number", "_law_begin", "_law_end", "_law_top", "_law_gain", "_law_price"] ["_law_net", "_law_worths"] (defScope s_l_held):=⟨rfl,rfl,rfl,by decide +kernel,rfl,by decide +kernel,by decide +kernel⟩
theorem sc_l_right:FnScope ["_law_net", "_law_found"] ["_law_net"] (defScope s_l_right):=⟨rfl,rfl,rfl,by decide +kernel,rfl,by decide +kernel,by decide +kernel⟩
theorem sc_law:FnScope ["_law_script", "_law_cells", "_law_k", "_law_box_here", "_law_turn", "_law_net", "_law_written", "_law_again", "_law_found"] ["_law_script"] (defScope s_law):=⟨rfl,rfl,rfl,by decide +kernel,rfl,by decide +kernel,by decide +kernel⟩
end K10
namespace K10
open PySem L2
set_option genInjectivity false in
set_option genSizeOf false in
structure Txt (K:PySem.W.Frag) (mg:Str→Option Value) where
  b_abs:mg "abs" = none
  b_all:mg "all" = none
  b_any:mg "any" = none
  b_bool:mg "bool" = none
  b_dict:mg "dict" = none
  b_divmod:mg "divmod" = none
  b_enumerate:mg "enumerate" = none
  b_int:mg "int" = none
  b_isinstance:mg "isinstance" = none
  b_len:mg "len" = none
  b_list:mg "list" = none
  b_max:mg "max" = none
  b_min:mg "min" = none
  b_range:mg "range" = none
  b_set:mg "set" = none
  b_str:mg "str" = none
  b_tuple:mg "tuple" = none
  b_zip:mg "zip" = none
  f_common_divisor:Addr
  d_common_divisor:FuncData
  m_common_divisor:mg "common_divisor" = some (.ref f_common_divisor)
  F_common_divisor:Fun K "common_divisor" "common_divisor" s_common_divisor f_common_divisor d_common_divisor
  B_common_divisor:Binds K d_common_divisor ["n", "d"] []
  f_fraction:Addr
  d_fraction:FuncData
  m_fraction:mg "fraction" = some (.ref f_fraction)
  F_fraction:Fun K "fraction" "fraction" s_fraction f_fraction d_fraction
  B_fraction:Binds K d_fraction ["n", "d"] []
  f_times:Addr
  d_times:FuncData
  m_times:mg "times" = some (.ref f_times)
  F_times:Fun K "times" "times" s_times f_times d_times
  B_times:Binds K d_times ["one", "other"] []
  f_compared:Addr
  d_compared:FuncData
  m_compared:mg "compared" = some (.ref f_compared)
  F_compared:Fun K "compared" "compared" s_compared f_compared d_compared
  B_compared:Binds K d_compared ["one", "other"] []
  f_is_shut:Addr
  d_is_shut:FuncData
  m_is_shut:mg "is_shut" = some (.ref f_is_shut)
  F_is_shut:Fun K "is_shut" "is_shut" s_is_shut f_is_shut d_is_shut
  B_is_shut:Binds K d_is_shut ["tie"] []
  f_lift_once:Addr
  d_lift_once:FuncData
  m_lift_once:mg "lift_once" = some (.ref f_lift_once)
  F_lift_once:Fun K "lift_once" "lift_once" s_lift_once f_lift_once d_lift_once
  B_lift_once:Binds K d_lift_once ["net", "worths", "onward"] []
  f_round_ahead:Addr
  d_round_ahead:FuncData
  m_round_ahead:mg "round_ahead" = some (.ref f_round_ahead)
  F_round_ahead:Fun K "round_ahead" "round_ahead" s_round_ahead f_round_ahead d_round_ahead
  B_round_ahead:Binds K d_round_ahead ["net", "onward", "place"] []
  f_gaining_round:Addr
  d_gaining_round:FuncData
  m_gaining_round:mg "gaining_round" = some (.ref f_gaining_round)
  F_gaining_round:Fun K "gaining_round" "gaining_round" s_gaining_round f_gaining_round d_gaining_round
  B_gaining_round:Binds K d_gaining_round ["net"] []
  f_lift_all:Addr
  d_lift_all:FuncData
  m_lift_all:mg "lift_all" = some (.ref f_lift_all)
  F_lift_all:Fun K "lift_all" "lift_all" s_lift_all f_lift_all d_lift_all
  B_lift_all:Binds K d_lift_all ["net", "worths"] []
  f_holding_worths:Addr
  d_holding_worths:FuncData
  m_holding_worths:mg "holding_worths" = some (.ref f_holding_worths)
  F_holding_worths:Fun K "holding_worths" "holding_worths" s_holding_worths f_holding_worths d_holding_worths
  B_holding_worths:Binds K d_holding_worths ["net"] []
  f_l_box:Addr
  d_l_box:FuncData
  m_l_box:mg "_law_box" = some (.ref f_l_box)
  F_l_box:Fun K "_law_box" "_law_box" s_l_box f_l_box d_l_box
  B_l_box:Binds K d_l_box ["_law_script", "_law_k"] []
  f_l_take:Addr
  d_l_take:FuncData
  m_l_take:mg "_law_take" = some (.ref f_l_take)
  F_l_take:Fun K "_law_take" "_law_take" s_l_take f_l_take d_l_take
  B_l_take:Binds K d_l_take ["_law_box_here", "_law_many"] []
  f_l_folded:Addr
  d_l_folded:FuncData
  m_l_folded:mg "_law_folded" = some (.ref f_l_folded)
  F_l_folded:Fun K "_law_folded" "_law_folded" s_l_folded f_l_folded d_l_folded
  B_l_folded:Binds K d_l_folded ["_law_script", "_law_many"] []
  f_l_frac:Addr
  d_l_frac:FuncData
  m_l_frac:mg "_law_frac" = some (.ref f_l_frac)
  F_l_frac:Fun K "_law_frac" "_law_frac" s_l_frac f_l_frac d_l_frac
  B_l_frac:Binds K d_l_frac ["_law_n", "_law_d"] []
  f_l_product:Addr
  d_l_product:FuncData
  m_l_product:mg "_law_product" = some (.ref f_l_product)
  F_l_product:Fun K "_law_product" "_law_product" s_l_product f_l_product d_l_product
  B_l_product:Binds K d_l_product ["_law_one", "_law_other"] []
  f_l_over:Addr
  d_l_over:FuncData
  m_l_over:mg "_law_over" = some (.ref f_l_over)
  F_l_over:Fun K "_law_over" "_law_over" s_l_over f_l_over d_l_over
  B_l_over:Binds K d_l_over ["_law_one", "_law_other"] []
  f_l_above:Addr
  d_l_above:FuncData
  m_l_above:mg "_law_above" = some (.ref f_l_above)
  F_l_above:Fun K "_law_above" "_law_above" s_l_above f_l_above d_l_above
  B_l_above:Binds K d_l_above ["_law_one", "_law_other"] []
  f_l_names_by:Addr
  d_l_names_by:FuncData
  m_l_names_by:mg "_law_names_by" = some (.ref f_l_names_by)
  F_l_names_by:Fun K "_law_names_by" "_law_names_by" s_l_names_by f_l_names_by d_l_names_by
  B_l_names_by:Binds K d_l_names_by ["_law_box_here", "_law_many"] []
  f_l_any_gain:Addr
  d_l_any_gain:FuncData
  m_l_any_gain:mg "_law_any_gain" = some (.ref f_l_any_gain)
  F_l_any_gain:Fun K "_law_any_gain" "_law_any_gain" s_l_any_gain f_l_any_gain d_l_any_gain
  B_l_any_gain:Binds K d_l_any_gain ["_law_box_here"] []
  f_l_any_much:Addr
  d_l_any_much:FuncData
  m_l_any_much:mg "_law_any_much" = some (.ref f_l_any_much)
  F_l_any_much:Fun K "_law_any_much" "_law_any_much" s_l_any_much f_l_any_much d_l_any_much
  B_l_any_much:Binds K d_l_any_much ["_law_box_here"] []
  f_l_any_price:Addr
  d_l_any_price:FuncData
  m_l_any_price:mg "_law_any_price" = some (.ref f_l_any_price)
  F_l_any_price:Fun K "_law_any_price" "_law_any_price" s_l_any_price f_l_any_price d_l_any_price
  B_l_any_price:Binds K d_l_any_price ["_law_box_here"] []
  f_l_planted:Addr
  d_l_planted:FuncData
  m_l_planted:mg "_law_planted" = some (.ref f_l_planted)
  F_l_planted:Fun K "_law_planted" "_law_planted" s_l_planted f_l_planted d_l_planted
  B_l_planted:Binds K d_l_planted ["_law_box_here", "_law_places"] []
  f_l_net_by:Addr
  d_l_net_by:FuncData
  m_l_net_by:mg "_law_net_by" = some (.ref f_l_net_by)
  F_l_net_by:Fun K "_law_net_by" "_law_net_by" s_l_net_by f_l_net_by d_l_net_by
  B_l_net_by:Binds K d_l_net_by ["_law_box_here", "_law_most_places", "_law_most_ties"] []
  f_l_opened:Addr
  d_l_opened:FuncData
  m_l_opened:mg "_law_opened" = some (.ref f_l_opened)
  F_l_opened:Fun K "_law_opened" "_law_opened" s_l_opened f_l_opened d_l_opened
  B_l_opened:Binds K d_l_opened ["_law_net"] []
  f_l_gain_of:Addr
  d_l_gain_of:FuncData
  m_l_gain_of:mg "_law_gain_of" = some (.ref f_l_gain_of)
  F_l_gain_of:Fun K "_law_gain_of" "_law_gain_of" s_l_gain_of f_l_gain_of d_l_gain_of
  B_l_gain_of:Binds K d_l_gain_of ["_law_net", "_law_way"] []
  f_l_all_ways:Addr
  d_l_all_ways:FuncData
  m_l_all_ways:mg "_law_all_ways" = some (.ref f_l_all_ways)
  F_l_all_ways:Fun K "_law_all_ways" "_law_all_ways" s_l_all_ways f_l_all_ways d_l_all_ways
  B_l_all_ways:Binds K d_l_all_ways ["_law_net", "_law_begin"] []
  f_l_is_round:Addr
  d_l_is_round:FuncData
  m_l_is_round:mg "_law_is_round" = some (.ref f_l_is_round)
  F_l_is_round:Fun K "_law_is_round" "_law_is_round" s_l_is_round f_l_is_round d_l_is_round
  B_l_is_round:Binds K d_l_is_round ["_law_net", "_law_thing"] []
  f_l_some_gains:Addr
  d_l_some_gains:FuncData
  m_l_some_gains:mg "_law_some_gains" = some (.ref f_l_some_gains)
  F_l_some_gains:Fun K "_law_some_gains" "_law_some_gains" s_l_some_gains f_l_some_gains d_l_some_gains
  B_l_some_gains:Binds K d_l_some_gains ["_law_net"] []
  f_l_held:Addr
  d_l_held:FuncData
  m_l_held:mg "_law_held" = some (.ref f_l_held)
  F_l_held:Fun K "_law_held" "_law_held" s_l_held f_l_held d_l_held
  B_l_held:Binds K d_l_held ["_law_net", "_law_worths"] []
  f_l_right:Addr
  d_l_right:FuncData
  m_l_right:mg "_law_right" = some (.ref f_l_right)
  F_l_right:Fun K "_law_right" "_law_right" s_l_right f_l_right d_l_right
  B_l_right:Binds K d_l_right ["_law_net"] []
  f_law:Addr
  d_law:FuncData
  m_law:mg "law" = some (.ref f_law)
  F_law:Fun K "law" "law" s_law f_law d_law
  B_law:Binds K d_law ["_law_script"] []
theorem txt_mk {K:PySem.W.Frag}{h:Heap}{mg:Str→Option Value} (X:K.In h) (G:h.Ns mainGlobals mg)
    {f0 f1 f2 f3 f4 f5 f6 f7 f8 f9 f10 f11 f12 f13 f14 f15 f16 f17 f18 f19 f20 f21 f22 f23 f24 f25 f26 f27 f28 f29 f30:Addr}{od0 an0 od1 an1 od2 an2 od3 an3 od4 an4 od5 an5 od6 an6 od7 an7 od8 an8 od9 an9 od10 an10 od11 an11 od12 an12 od13 an13 od14 an14 od15 an15 od16 an16 od17 an17 od18 an18 od19 an19 od20 an20 od21 an21 od22 an22 od23 an23 od24 an24 od25 an25 od26 an26 od27 an27 od28 an28 od29 an29 od30 an30:Option Addr}{sl0 sl1 sl2 sl3 sl4 sl5 sl6 sl7 sl8 sl9 sl10 sl11 sl12 sl13 sl14 sl15 sl16 sl17 sl18 sl19 sl20 sl21 sl22 sl23 sl24 sl25 sl26 sl27 sl28 sl29 sl30:Array (Option Value)}{oc0 kV0 dc0 pm0 cd0 ct0 oc1 kV1 dc1 pm1 cd1 ct1 oc2 kV2 dc2 pm2 cd2 ct2 oc3 kV3 dc3 pm3 cd3 ct3 oc4 kV4 dc4 pm4 cd4 ct4 oc5 kV5 dc5 pm5 cd5 ct5 oc6 kV6 dc6 pm6 cd6 ct6 oc7 kV7 dc7 pm7 cd7 ct7 oc8 kV8 dc8 pm8 cd8 ct8 oc9 kV9 dc9 pm9 cd9 ct9 oc10 kV10 dc10 pm10 cd10 ct10 oc11 kV11 dc11 pm11 cd11 ct11 oc12 kV12 dc12 pm12 cd12 ct12 oc13 kV13 dc13 pm13 cd13 ct13 oc14 kV14 dc14 pm14 cd14 ct14 oc15 kV15 dc15 pm15 cd15 ct15 oc16 kV16 dc16 pm16 cd16 ct16 oc17 kV17 dc17 pm17 cd17 ct17 oc18 kV18 dc18 pm18 cd18 ct18 oc19 kV19 dc19 pm19 cd19 ct19 oc20 kV20 dc20 pm20 cd20 ct20 oc21 kV21 dc21 pm21 cd21 ct21 oc22 kV22 dc22 pm22 cd22 ct22 oc23 kV23 dc23 pm23 cd23 ct23 oc24 kV24 dc24 pm24 cd24 ct24 oc25 kV25 dc25 pm25 cd25 ct25 oc26 kV26 dc26 pm26 cd26 ct26 oc27 kV27 dc27 pm27 cd27 ct27 oc28 kV28 dc28 pm28 cd28 ct28 oc29 kV29 dc29 pm29 cd29 ct29 oc30 kV30 dc30 pm30 cd30 ct30:Value}
    (a0:PySem.W.nsIn K mainGlobals "common_divisor" = some (some (.ref f0))) (l0:K.lookup f0=some ⟨oc0,od0,.func (PySem.W.fnOf "common_divisor" "common_divisor" (defArgs s_common_divisor) (defBody s_common_divisor) (defScope s_common_divisor) .none kV0 dc0 pm0 an0 cd0 ct0),sl0⟩) (c0:PySem.W.codeIn K cd0 "common_divisor" = true) (k0:PySem.W.keepIn K (.ref f0)=true)
    (a1:PySem.W.nsIn K mainGlobals "fraction" = some (some (.ref f1))) (l1:K.lookup f1=some ⟨oc1,od1,.func (PySem.W.fnOf "fraction" "fraction" (defArgs s_fraction) (defBody s_fraction) (defScope s_fraction) .none kV1 dc1 pm1 an1 cd1 ct1),sl1⟩) (c1:PySem.W.codeIn K cd1 "fraction" = true) (k1:PySem.W.keepIn K (.ref f1)=true)
    (a2:PySem.W.nsIn K mainGlobals "times" = some (some (.ref f2))) (l2:K.lookup f2=some ⟨oc2,od2,.func (PySem.W.fnOf "times" "times" (defArgs s_times) (defBody s_times) (defScope s_times) .none kV2 dc2 pm2 an2 cd2 ct2),sl2⟩) (c2:PySem.W.codeIn K cd2 "times" = true) (k2:PySem.W.keepIn K (.ref f2)=true)
    (a3:PySem.W.nsIn K mainGlobals "compared" = some (some (.ref f3))) (l3:K.lookup f3=some ⟨oc3,od3,.func (PySem.W.fnOf "compared" "compared" (defArgs s_compared) (defBody s_compared) (defScope s_compared) .none kV3 dc3 pm3 an3 cd3 ct3),sl3⟩) (c3:PySem.W.codeIn K cd3 "compared" = true) (k3:PySem.W.keepIn K (.ref f3)=true)
    (a4:PySem.W.nsIn K mainGlobals "is_shut" = some (some (.ref f4))) (l4:K.lookup f4=some ⟨oc4,od4,.func (PySem.W.fnOf "is_shut" "is_shut" (defArgs s_is_shut) (defBody s_is_shut) (defScope s_is_shut) .none kV4 dc4 pm4 an4 cd4 ct4),sl4⟩) (c4:PySem.W.codeIn K cd4 "is_shut" = true) (k4:PySem.W.keepIn K (.ref f4)=true)
    (a5:PySem.W.nsIn K mainGlobals "lift_once" = some (some (.ref f5))) (l5:K.lookup f5=some ⟨oc5,od5,.func (PySem.W.fnOf "lift_once" "lift_once" (defArgs s_lift_once) (defBody s_lift_once) (defScope s_lift_once) .none kV5 dc5 pm5 an5 cd5 ct5),sl5⟩) (c5:PySem.W.codeIn K cd5 "lift_once" = true) (k5:PySem.W.keepIn K (.ref f5)=true)
    (a6:PySem.W.nsIn K mainGlobals "round_ahead" = some (some (.ref f6))) (l6:K.lookup f6=some ⟨oc6,od6,.func (PySem.W.fnOf "round_ahead" "round_ahead" (defArgs s_round_ahead) (defBody s_round_ahead) (defScope s_round_ahead) .none kV6 dc6 pm6 an6 cd6 ct6),sl6⟩) (c6:PySem.W.codeIn K cd6 "round_ahead" = true) (k6:PySem.W.keepIn K (.ref f6)=true)
    (a7:PySem.W.nsIn K mainGlobals "gaining_round" = some (some (.ref f7))) (l7:K.lookup f7=some ⟨oc7,od7,.func (PySem.W.fnOf "gaining_round" "gaining_round" (defArgs s_gaining_round) (defBody s_gaining_round) (defScope s_gaining_round) .none kV7 dc7 pm7 an7 cd7 ct7),sl7⟩) (c7:PySem.W.codeIn K cd7 "gaining_round" = true) (k7:PySem.W.keepIn K (.ref f7)=true)
    (a8:PySem.W.nsIn K mainGlobals "lift_all" = some (some (.ref f8))) (l8:K.lookup f8=some ⟨oc8,od8,.func (PySem.W.fnOf "lift_all" "lift_all" (defArgs s_lift_all) (defBody s_lift_all) (defScope s_lift_all) .none kV8 dc8 pm8 an8 cd8 ct8),sl8⟩) (c8:PySem.W.codeIn K cd8 "lift_all" = true) (k8:PySem.W.keepIn K (.ref f8)=true)
    (a9:PySem.W.nsIn K mainGlobals "holding_worths" = some (some (.ref f9))) (l9:K.lookup f9=some ⟨oc9,od9,.func (PySem.W.fnOf "holding_worths" "holding_worths" (defArgs s_holding_worths) (defBody s_holding_worths) (defScope s_holding_worths) .none kV9 dc9 pm9 an9 cd9 ct9),sl9⟩) (c9:PySem.W.codeIn K cd9 "holding_worths" = true) (k9:PySem.W.keepIn K (.ref f9)=true)
    (a10:PySem.W.nsIn K mainGlobals "_law_box" = some (some (.ref f10))) (l10:K.lookup f10=some ⟨oc10,od10,.func (PySem.W.fnOf "_law_box" "_law_box" (defArgs s_l_box) (defBody s_l_box) (defScope s_l_box) .none kV10 dc10 pm10 an10 cd10 ct10),sl10⟩) (c10:PySem.W.codeIn K cd10 "_law_box" = true) (k10:PySem.W.keepIn K (.ref f10)=true)
    (a11:PySem.W.nsIn K mainGlobals "_law_take" = some (some (.ref f11))) (l11:K.lookup f11=some ⟨oc11,od11,.func (PySem.W.fnOf "_law_take" "_law_take" (defArgs s_l_take) (defBody s_l_take) (defScope s_l_take) .none kV11 dc11 pm11 an11 cd11 ct11),sl11⟩) (c11:PySem.W.codeIn K cd11 "_law_take" = true) (k11:PySem.W.keepIn K (.ref f11)=true)
    (a12:PySem.W.nsIn K mainGlobals "_law_folded" = some (some (.ref f12))) (l12:K.lookup f12=some ⟨oc12,od12,.func (PySem.W.fnOf "_law_folded" "_law_folded" (defArgs s_l_folded) (defBody s_l_folded) (defScope s_l_folded) .none kV12 dc12 pm12 an12 cd12 ct12),sl12⟩) (c12:PySem.W.codeIn K cd12 "_law_folded" = true) (k12:PySem.W.keepIn K (.ref f12)=true)
    (a13:PySem.W.nsIn K mainGlobals "_law_frac" = some (some (.ref f13))) (l13:K.lookup f13=some ⟨oc13,od13,.func (PySem.W.fnOf "_law_frac" "_law_frac" (defArgs s_l_frac) (defBody s_l_frac) (defScope s_l_frac) .none kV13 dc13 pm13 an13 cd13 ct13),sl13⟩) (c13:PySem.W.codeIn K cd13 "_law_frac" = true) (k13:PySem.W.keepIn K (.ref f13)=true)
    (a14:PySem.W.nsIn K mainGlobals "_law_product" = some (some (.ref f14))) (l14:K.lookup f14=some ⟨oc14,od14,.func (PySem.W.fnOf "_law_product" "_law_product" (defArgs s_l_product) (defBody s_l_product) (defScope s_l_product) .none kV14 dc14 pm14 an14 cd14 ct14),sl14⟩) (c14:PySem.W.codeIn K cd14 "_law_product" = true) (k14:PySem.W.keepIn K (.ref f14)=true)
    (a15:PySem.W.nsIn K mainGlobals "_law_over" = some (some (.ref f15))) (l15:K.lookup f15=some ⟨oc15,od15,.func (PySem.W.fnOf "_law_over" "_law_over" (defArgs s_l_over) (defBody s_l_over) (defScope s_l_over) .none kV15 dc15 pm15 an15 cd15 ct15),sl15⟩) (c15:PySem.W.codeIn K cd15 "_law_over" = true) (k15:PySem.W.keepIn K (.ref f15)=true)
    (a16:PySem.W.nsIn K mainGlobals "_law_above" = some (some (.ref f16))) (l16:K.lookup f16=some ⟨oc16,od16,.func (PySem.W.fnOf "_law_above" "_law_above" (defArgs s_l_above) (defBody s_l_above) (defScope s_l_above) .none kV16 dc16 pm16 an16 cd16 ct16),sl16⟩) (c16:PySem.W.codeIn K cd16 "_law_above" = true) (k16:PySem.W.keepIn K (.ref f16)=true)
    (a17:PySem.W.nsIn K mainGlobals "_law_names_by" = some (some (.ref f17))) (l17:K.lookup f17=some ⟨oc17,od17,.func (PySem.W.fnOf "_law_names_by" "_law_names_by" (defArgs s_l_names_by) (defBody s_l_names_by) (defScope s_l_names_by) .none kV17 dc17 pm17 an17 cd17 ct17),sl17⟩) (c17:PySem.W.codeIn K cd17 "_law_names_by" = true) (k17:PySem.W.keepIn K (.ref f17)=true)
    (a18:PySem.W.nsIn K mainGlobals "_law_any_gain" = some (some (.ref f18))) (l18:K.lookup f18=some ⟨oc18,od18,.func (PySem.W.fnOf "_law_any_gain" "_law_any_gain" (defArgs s_l_any_gain) (defBody s_l_any_gain) (defScope s_l_any_gain) .none kV18 dc18 pm18 an18 cd18 ct18),sl18⟩) (c18:PySem.W.codeIn K cd18 "_law_any_gain" = true) (k18:PySem.W.keepIn K (.ref f18)=true)
    (a19:PySem.W.nsIn K mainGlobals "_law_any_much" = some (some (.ref f19))) (l19:K.lookup f19=some ⟨oc19,od19,.func (PySem.W.fnOf "_law_any_much" "_law_any_much" (defArgs s_l_any_much) (defBody s_l_any_much) (defScope s_l_any_much) .none kV19 dc19 pm19 an19 cd19 ct19),sl19⟩) (c19:PySem.W.codeIn K cd19 "_law_any_much" = true) (k19:PySem.W.keepIn K (.ref f19)=true)
    (a20:PySem.W.nsIn K mainGlobals "_law_any_price" = some (some (.ref f20))) (l20:K.lookup f20=some ⟨oc20,od20,.func (PySem.W.fnOf "_law_any_price" "_law_any_price" (defArgs s_l_any_price) (defBody s_l_any_price) (defScope s_l_any_price) .none kV20 dc20 pm20 an20 cd20 ct20),sl20⟩) (c20:PySem.W.codeIn K cd20 "_law_any_price" = true) (k20:PySem.W.keepIn K (.ref f20)=true)
    (a21:PySem.W.nsIn K mainGlobals "_law_planted" = some (some (.ref f21))) (l21:K.lookup f21=some ⟨oc21,od21,.func (PySem.W.fnOf "_law_planted" "_law_planted" (defArgs s_l_planted) (defBody s_l_planted) (defScope s_l_planted) .none kV21 dc21 pm21 an21 cd21 ct21),sl21⟩) (c21:PySem.W.codeIn K cd21 "_law_planted" = true) (k21:PySem.W.keepIn K (.ref f21)=true)
    (a22:PySem.W.nsIn K mainGlobals "_law_net_by" = some (some (.ref f22))) (l22:K.lookup f22=some ⟨oc22,od22,.func (PySem.W.fnOf "_law_net_by" "_law_net_by" (defArgs s_l_net_by) (defBody s_l_net_by) (defScope s_l_net_by) .none kV22 dc22 pm22 an22 cd22 ct22),sl22⟩) (c22:PySem.W.codeIn K cd22 "_law_net_by" = true) (k22:PySem.W.keepIn K (.ref f22)=true)
    (a23:PySem.W.nsIn K mainGlobals "_law_opened" = some (some (.ref f23))) (l23:K.lookup f23=some ⟨oc23,od23,.func (PySem.W.fnOf "_law_opened" "_law_opened" (defArgs s_l_opened) (defBody s_l_opened) (defScope s_l_opened) .none kV23 dc23 pm23 an23 cd23 ct23),sl23⟩) (c23:PySem.W.codeIn K cd23 "_law_opened" = true) (k23:PySem.W.keepIn K (.ref f23)=true)
    (a24:PySem.W.nsIn K mainGlobals "_law_gain_of" = some (some (.ref f24))) (l24:K.lookup f24=some ⟨oc24,od24,.func (PySem.W.fnOf "_law_gain_of" "_law_gain_of" (defArgs s_l_gain_of) (defBody s_l_gain_of) (defScope s_l_gain_of) .none kV24 dc24 pm24 an24 cd24 ct24),sl24⟩) (c24:PySem.W.codeIn K cd24 "_law_gain_of" = true) (k24:PySem.W.keepIn K (.ref f24)=true)
    (a25:PySem.W.nsIn K mainGlobals "_law_all_ways" = some (some (.ref f25))) (l25:K.lookup f25=some ⟨oc25,od25,.func (PySem.W.fnOf "_law_all_ways" "_law_all_ways" (defArgs s_l_all_ways) (defBody s_l_all_ways) (defScope s_l_all_ways) .none kV25 dc25 pm25 an25 cd25 ct25),sl25⟩) (c25:PySem.W.codeIn K cd25 "_law_all_ways" = true) (k25:PySem.W.keepIn K (.ref f25)=true)
    (a26:PySem.W.nsIn K mainGlobals "_law_is_round" = some (some (.ref f26))) (l26:K.lookup f26=some ⟨oc26,od26,.func (PySem.W.fnOf "_law_is_round" "_law_is_round" (defArgs s_l_is_round) (defBody s_l_is_round) (defScope s_l_is_round) .none kV26 dc26 pm26 an26 cd26 ct26),sl26⟩) (c26:PySem.W.codeIn K cd26 "_law_is_round" = true) (k26:PySem.W.keepIn K (.ref f26)=true)
    (a27:PySem.W.nsIn K mainGlobals "_law_some_gains" = some (some (.ref f27))) (l27:K.lookup f27=some ⟨oc27,od27,.func (PySem.W.fnOf "_law_some_gains" "_law_some_gains" (defArgs s_l_some_gains) (defBody s_l_some_gains) (defScope s_l_some_gains) .none kV27 dc27 pm27 an27 cd27 ct27),sl27⟩) (c27:PySem.W.codeIn K cd27 "_law_some_gains" = true) (k27:PySem.W.keepIn K (.ref f27)=true)
    (a28:PySem.W.nsIn K mainGlobals "_law_held" = some (some (.ref f28))) (l28:K.lookup f28=some ⟨oc28,od28,.func (PySem.W.fnOf "_law_held" "_law_held" (defArgs s_l_held) (defBody s_l_held) (defScope s_l_held) .none kV28 dc28 pm28 an28 cd28 ct28),sl28⟩) (c28:PySem.W.codeIn K cd28 "_law_held" = true) (k28:PySem.W.keepIn K (.ref f28)=true)
    (a29:PySem.W.nsIn K mainGlobals "_law_right" = some (some (.ref f29))) (l29:K.lookup f29=some ⟨oc29,od29,.func (PySem.W.fnOf "_law_right" "_law_right" (defArgs s_l_right) (defBody s_l_right) (defScope s_l_right) .none kV29 dc29 pm29 an29 cd29 ct29),sl29⟩) (c29:PySem.W.codeIn K cd29 "_law_right" = true) (k29:PySem.W.keepIn K (.ref f29)=true)
    (a30:PySem.W.nsIn K mainGlobals "law" = some (some (.ref f30))) (l30:K.lookup f30=some ⟨oc30,od30,.func (PySem.W.fnOf "law" "law" (defArgs s_law) (defBody s_law) (defScope s_law) .none kV30 dc30 pm30 an30 cd30 ct30),sl30⟩) (c30:PySem.W.codeIn K cd30 "law" = true) (k30:PySem.W.keepIn K (.ref f30)=true)
    (z0:PySem.W.nsIn K mainGlobals "abs" = some none)
    (z1:PySem.W.nsIn K mainGlobals "all" = some none)
    (z2:PySem.W.nsIn K mainGlobals "any" = some none)
    (z3:PySem.W.nsIn K mainGlobals "bool" = some none)
    (z4:PySem.W.nsIn K mainGlobals "dict" = some none)
    (z5:PySem.W.nsIn K mainGlobals "divmod" = some none)
    (z6:PySem.W.nsIn K mainGlobals "enumerate" = some none)
    (z7:PySem.W.nsIn K mainGlobals "int" = some none)
    (z8:PySem.W.nsIn K mainGlobals "isinstance" = some none)
    (z9:PySem.W.nsIn K mainGlobals "len" = some none)
    (z10:PySem.W.nsIn K mainGlobals "list" = some none)
    (z11:PySem.W.nsIn K mainGlobals "max" = some none)
    (z12:PySem.W.nsIn K mainGlobals "min" = some none)
    (z13:PySem.W.nsIn K mainGlobals "range" = some none)
    (z14:PySem.W.nsIn K mainGlobals "set" = some none)
    (z15:PySem.W.nsIn K mainGlobals "str" = some none)
    (z16:PySem.W.nsIn K mainGlobals "tuple" = some none)
    (z17:PySem.W.nsIn K mainGlobals "zip" = some none)
    : ∃T:Txt K mg,T.f_law=f30∧(∀(s:Shared) (u:Value),BindsTo s T.d_law ⟨[u],[]⟩ [("_law_script",u)]):=by
  refine ⟨{
    b_abs:=PySem.W.mg_none_of X G z0,
    b_all:=PySem.W.mg_none_of X G z1,
    b_any:=PySem.W.mg_none_of X G z2,
    b_bool:=PySem.W.mg_none_of X G z3,
    b_dict:=PySem.W.mg_none_of X G z4,
    b_divmod:=PySem.W.mg_none_of X G z5,
    b_enumerate:=PySem.W.mg_none_of X G z6,
    b_int:=PySem.W.mg_none_of X G z7,
    b_isinstance:=PySem.W.mg_none_of X G z8,
    b_len:=PySem.W.mg_none_of X G z9,
    b_list:=PySem.W.mg_none_of X G z10,
    b_max:=PySem.W.mg_none_of X G z11,
    b_min:=PySem.W.mg_none_of X G z12,
    b_range:=PySem.W.mg_none_of X G z13,
    b_set:=PySem.W.mg_none_of X G z14,
    b_str:=PySem.W.mg_none_of X G z15,
    b_tuple:=PySem.W.mg_none_of X G z16,
    b_zip:=PySem.W.mg_none_of X G z17,
    f_common_divisor:=f0,d_common_divisor:=_,m_common_divisor:=PySem.W.mg_of X G a0,F_common_divisor:=fun_mk (st:=s_common_divisor) l0 c0 k0,B_common_divisor:=(fun_mk (st:=s_common_divisor) l0 c0 k0).binds (ps:=["n", "d"]) fun _ _ _ _ _ _=>len2 (fun _ _=>rfl),
    f_fraction:=f1,d_fraction:=_,m_fraction:=PySem.W.mg_of X G a1,F_fraction:=fun_mk (st:=s_fraction) l1 c1 k1,B_fraction:=(fun_mk (st:=s_fraction) l1 c1 k1).binds (ps:=["n", "d"]) fun _ _ _ _ _ _=>len2 (fun _ _=>rfl),
    f_times:=f2,d_times:=_,m_times:=PySem.W.mg_of X G a2,F_times:=fun_mk (st:=s_times) l2 c2 k2,B_times:=(fun_mk (st:=s_times) l2 c2 k2).binds (ps:=["one", "other"]) fun _ _ _ _ _ _=>len2 (fun _ _=>rfl),
    f_compared:=f3,d_compared:=_,m_compared:=PySem.W.mg_of X G a3,F_compared:=fun_mk (st:=s_compared) l3 c3 k3,B_compared:=(fun_mk (st:=s_compared) l3 c3 k3).binds (ps:=["one", "other"]) fun _ _ _ _ _ _=>len2 (fun _ _=>rfl),
    f_is_shut:=f4,d_is_shut:=_,m_is_shut:=PySem.W.mg_of X G a4,F_is_shut:=fun_mk (st:=s_is_shut) l4 c4 k4,B_is_shut:=(fun_mk (st:=s_is_shut) l4 c4 k4).binds (ps:=["tie"]) fun _ _ _ _ _ _=>len1 (fun _=>rfl),
    f_lift_once:=f5,d_lift_once:=_,m_lift_once:=PySem.W.mg_of X G a5,F_lift_once:=fun_mk (st:=s_lift_once) l5 c5 k5,B_lift_once:=(fun_mk (st:=s_lift_once) l5 c5 k5).binds (ps:=["net", "worths", "onward"]) fun _ _ _ _ _ _=>len3 (fun _ _ _=>rfl),
    f_round_ahead:=f6,d_round_ahead:=_,m_round_ahead:=PySem.W.mg_of X G a6,F_round_ahead:=fun_mk (st:=s_round_ahead) l6 c6 k6,B_round_ahead:=(fun_mk (st:=s_round_ahead) l6 c6 k6).binds (ps:=["net", "onward", "place"]) fun _ _ _ _ _ _=>len3 (fun _ _ _=>rfl),
    f_gaining_round:=f7,d_gaining_round:=_,m_gaining_round:=PySem.W.mg_of X G a7,F_gaining_round:=fun_mk (st:=s_gaining_round) l7 c7 k7,B_gaining_round:=(fun_mk (st:=s_gaining_round) l7 c7 k7).binds (ps:=["net"]) fun _ _ _ _ _ _=>len1 (fun _=>rfl),
    f_lift_all:=f8,d_lift_all:=_,m_lift_all:=PySem.W.mg_of X G a8,F_lift_all:=fun_mk (st:=s_lift_all) l8 c8 k8,B_lift_all:=(fun_mk (st:=s_lift_all) l8 c8 k8).binds (ps:=["net", "worths"]) fun _ _ _ _ _ _=>len2 (fun _ _=>rfl),
    f_holding_worths:=f9,d_holding_worths:=_,m_holding_worths:=PySem.W.mg_of X G a9,F_holding_worths:=fun_mk (st:=s_holding_worths) l9 c9 k9,B_holding_worths:=(fun_mk (st:=s_holding_worths) l9 c9 k9).binds (ps:=["net"]) fun _ _ _ _ _ _=>len1 (fun _=>rfl),
    f_l_box:=f10,d_l_box:=_,m_l_box:=PySem.W.mg_of X G a10,F_l_box:=fun_mk (st:=s_l_box) l10 c10 k10,B_l_box:=(fun_mk (st:=s_l_box) l10 c10 k10).binds (ps:=["_law_script", "_law_k"]) fun _ _ _ _ _ _=>len2 (fun _ _=>rfl),
    f_l_take:=f11,d_l_take:=_,m_l_take:=PySem.W.mg_of X G a11,F_l_take:=fun_mk (st:=s_l_take) l11 c11 k11,B_l_take:=(fun_mk (st:=s_l_take) l11 c11 k11).binds (ps:=["_law_box_here", "_law_many"]) fun _ _ _ _ _ _=>len2 (fun _ _=>rfl),
    f_l_folded:=f12,d_l_folded:=_,m_l_folded:=PySem.W.mg_of X G a12,F_l_folded:=fun_mk (st:=s_l_folded) l12 c12 k12,B_l_folded:=(fun_mk (st:=s_l_folded) l12 c12 k12).binds (ps:=["_law_script", "_law_many"]) fun _ _ _ _ _ _=>len2 (fun _ _=>rfl),
    f_l_frac:=f13,d_l_frac:=_,m_l_frac:=PySem.W.mg_of X G a13,F_l_frac:=fun_mk (st:=s_l_frac) l13 c13 k13,B_l_frac:=(fun_mk (st:=s_l_frac) l13 c13 k13).binds (ps:=["_law_n", "_law_d"]) fun _ _ _ _ _ _=>len2 (fun _ _=>rfl),
    f_l_product:=f14,d_l_product:=_,m_l_product:=PySem.W.mg_of X G a14,F_l_product:=fun_mk (st:=s_l_product) l14 c14 k14,B_l_product:=(fun_mk (st:=s_l_product) l14 c14 k14).binds (ps:=["_law_one", "_law_other"]) fun _ _ _ _ _ _=>len2 (fun _ _=>rfl),
    f_l_over:=f15,d_l_over:=_,m_l_over:=PySem.W.mg_of X G a15,F_l_over:=fun_mk (st:=s_l_over) l15 c15 k15,B_l_over:=(fun_mk (st:=s_l_over) l15 c15 k15).binds (ps:=["_law_one", "_law_other"]) fun _ _ _ _ _ _=>len2 (fun _ _=>rfl),
    f_l_above:=f16,d_l_above:=_,m_l_above:=PySem.W.mg_of X G a16,F_l_above:=fun_mk (st:=s_l_above) l16 c16 k16,B_l_above:=(fun_mk (st:=s_l_above) l16 c16 k16).binds (ps:=["_law_one", "_law_other"]) fun _ _ _ _ _ _=>len2 (fun _ _=>rfl),
    f_l_names_by:=f17,d_l_names_by:=_,m_l_names_by:=PySem.W.mg_of X G a17,F_l_names_by:=fun_mk (st:=s_l_names_by) l17 c17 k17,B_l_names_by:=(fun_mk (st:=s_l_names_by) l17 c17 k17).binds (ps:=["_law_box_here", "_law_many"]) fun _ _ _ _ _ _=>len2 (fun _ _=>rfl),
    f_l_any_gain:=f18,d_l_any_gain:=_,m_l_any_gain:=PySem.W.mg_of X G a18,F_l_any_gain:=fun_mk (st:=s_l_any_gain) l18 c18 k18,B_l_any_gain:=(fun_mk (st:=s_l_any_gain) l18 c18 k18).binds (ps:=["_law_box_here"]) fun _ _ _ _ _ _=>len1 (fun _=>rfl),
    f_l_any_much:=f19,d_l_any_much:=_,m_l_any_much:=PySem.W.mg_of X G a19,F_l_any_much:=fun_mk (st:=s_l_any_much) l19 c19 k19,B_l_any_much:=(fun_mk (st:=s_l_any_much) l19 c19 k19).binds (ps:=["_law_box_here"]) fun _ _ _ _ _ _=>len1 (fun _=>rfl),
    f_l_any_price:=f20,d_l_any_price:=_,m_l_any_price:=PySem.W.mg_of X G a20,F_l_any_price:=fun_mk (st:=s_l_any_price) l20 c20 k20,B_l_any_price:=(fun_mk (st:=s_l_any_price) l20 c20 k20).binds (ps:=["_law_box_here"]) fun _ _ _ _ _ _=>len1 (fun _=>rfl),
    f_l_planted:=f21,d_l_planted:=_,m_l_planted:=PySem.W.mg_of X G a21,F_l_planted:=fun_mk (st:=s_l_planted) l21 c21 k21,B_l_planted:=(fun_mk (st:=s_l_planted) l21 c21 k21).binds (ps:=["_law_box_here", "_law_places"]) fun _ _ _ _ _ _=>len2 (fun _ _=>rfl),
    f_l_net_by:=f22,d_l_net_by:=_,m_l_net_by:=PySem.W.mg_of X G a22,F_l_net_by:=fun_mk (st:=s_l_net_by) l22 c22 k22,B_l_net_by:=(fun_mk (st:=s_l_net_by) l22 c22 k22).binds (ps:=["_law_box_here", "_law_most_places", "_law_most_ties"]) fun _ _ _ _ _ _=>len3 (fun _ _ _=>rfl),
    f_l_opened:=f23,d_l_opened:=_,m_l_opened:=PySem.W.mg_of X G a23,F_l_opened:=fun_mk (st:=s_l_opened) l23 c23 k23,B_l_opened:=(fun_mk (st:=s_l_opened) l23 c23 k23).binds (ps:=["_law_net"]) fun _ _ _ _ _ _=>len1 (fun _=>rfl),
    f_l_gain_of:=f24,d_l_gain_of:=_,m_l_gain_of:=PySem.W.mg_of X G a24,F_l_gain_of:=fun_mk (st:=s_l_gain_of) l24 c24 k24,B_l_gain_of:=(fun_mk (st:=s_l_gain_of) l24 c24 k24).binds (ps:=["_law_net", "_law_way"]) fun _ _ _ _ _ _=>len2 (fun _ _=>rfl),
    f_l_all_ways:=f25,d_l_all_ways:=_,m_l_all_ways:=PySem.W.mg_of X G a25,F_l_all_ways:=fun_mk (st:=s_l_all_ways) l25 c25 k25,B_l_all_ways:=(fun_mk (st:=s_l_all_ways) l25 c25 k25).binds (ps:=["_law_net", "_law_begin"]) fun _ _ _ _ _ _=>len2 (fun _ _=>rfl),
    f_l_is_round:=f26,d_l_is_round:=_,m_l_is_round:=PySem.W.mg_of X G a26,F_l_is_round:=fun_mk (st:=s_l_is_round) l26 c26 k26,B_l_is_round:=(fun_mk (st:=s_l_is_round) l26 c26 k26).binds (ps:=["_law_net", "_law_thing"]) fun _ _ _ _ _ _=>len2 (fun _ _=>rfl),
    f_l_some_gains:=f27,d_l_some_gains:=_,m_l_some_gains:=PySem.W.mg_of X G a27,F_l_some_gains:=fun_mk (st:=s_l_some_gains) l27 c27 k27,B_l_some_gains:=(fun_mk (st:=s_l_some_gains) l27 c27 k27).binds (ps:=["_law_net"]) fun _ _ _ _ _ _=>len1 (fun _=>rfl),
    f_l_held:=f28,d_l_held:=_,m_l_held:=PySem.W.mg_of X G a28,F_l_held:=fun_mk (st:=s_l_held) l28 c28 k28,B_l_held:=(fun_mk (st:=s_l_held) l28 c28 k28).binds (ps:=["_law_net", "_law_worths"]) fun _ _ _ _ _ _=>len2 (fun _ _=>rfl),
    f_l_right:=f29,d_l_right:=_,m_l_right:=PySem.W.mg_of X G a29,F_l_right:=fun_mk (st:=s_l_right) l29 c29 k29,B_l_right:=(fun_mk (st:=s_l_right) l29 c29 k29).binds (ps:=["_law_net"]) fun _ _ _ _ _ _=>len1 (fun _=>rfl),
    f_law:=f30,d_law:=_,m_law:=PySem.W.mg_of X G a30,F_law:=fun_mk (st:=s_law) l30 c30 k30,B_law:=(fun_mk (st:=s_law) l30 c30 k30).binds (ps:=["_law_script"]) fun _ _ _ _ _ _=>len1 (fun _=>rfl) },rfl,fun s v=>.of_eq rfl⟩
end K10
namespace K10
open PySem L2
theorem k_fraction_n:(defScope s_fraction).names.lookup ("n" : Str)=some NameKind.local:=by decide +kernel
theorem k_fraction_d:(defScope s_fraction).names.lookup ("d" : Str)=some NameKind.local:=by decide +kernel
theorem k_fraction_divisor:(defScope s_fraction).names.lookup ("divisor" : Str)=some NameKind.local:=by decide +kernel
theorem k_fraction_common_divisor:(defScope s_fraction).names.lookup ("common_divisor" : Str)=some NameKind.globalImplicit:=by decide +kernel
theorem k_times_one:(defScope s_times).names.lookup ("one" : Str)=some NameKind.local:=by decide +kernel
theorem k_times_other:(defScope s_times).names.lookup ("other" : Str)=some NameKind.local:=by decide +kernel
theorem k_times_fraction:(defScope s_times).names.lookup ("fraction" : Str)=some NameKind.globalImplicit:=by decide +kernel
theorem k_compared_one:(defScope s_compared).names.lookup ("one" : Str)=some NameKind.local:=by decide +kernel
theorem k_compared_other:(defScope s_compared).names.lookup ("other" : Str)=some NameKind.local:=by decide +kernel
theorem k_compared_left:(defScope s_compared).names.lookup ("left" : Str)=some NameKind.local:=by decide +kernel
theorem k_compared_right:(defScope s_compared).names.lookup ("right" : Str)=some NameKind.local:=by decide +kernel
theorem k_is_shut_tie:(defScope s_is_shut).names.lookup ("tie" : Str)=some NameKind.local:=by decide +kernel
theorem k_lift_once_net:(defScope s_lift_once).names.lookup ("net" : Str)=some NameKind.local:=by decide +kernel
theorem k_lift_once_worths:(defScope s_lift_once).names.lookup ("worths" : Str)=some NameKind.local:=by decide +kernel
theorem k_lift_once_onward:(defScope s_lift_once).names.lookup ("onward" : Str)=some NameKind.local:=by decide +kernel
theorem k_lift_once_lifted:(defScope s_lift_once).names.lookup ("lifted" : Str)=some NameKind.local:=by decide +kernel
theorem k_lift_once_number:(defScope s_lift_once).names.lookup ("number" : Str)=some NameKind.local:=by decide +kernel
theorem k_lift_once_tie:(defScope s_lift_once).names.lookup ("tie" : Str)=some NameKind.local:=by decide +kernel
theorem k_lift_once_begin:(defScope s_lift_once).names.lookup ("begin" : Str)=some NameKind.local:=by decide +kernel
theorem k_lift_once_end:(defScope s_lift_once).names.lookup ("end" : Str)=some NameKind.local:=by decide +kernel
theorem k_lift_once_most:(defScope s_lift_once).names.lookup ("most" : Str)=some NameKind.local:=by decide +kernel
theorem k_lift_once_gain:(defScope s_lift_once).names.lookup ("gain" : Str)=some NameKind.local:=by decide +kernel
theorem k_lift_once_price:(defScope s_lift_once).names.lookup ("price" : Str)=some NameKind.local:=by decide +kernel
theorem k_lift_once_worth:(defScope s_lift_once).names.lookup ("worth" : Str)=some NameKind.local:=by decide +kernel
theorem k_lift_once_enumerate:(defScope s_lift_once).names.lookup ("enumerate" : Str)=some NameKind.globalImplicit:=by decide +kernel
theorem k_lift_once_is_shut:(defScope s_lift_once).names.lookup ("is_shut" : Str)=some NameKind.globalImplicit:=by decide +kernel
theorem k_lift_once_times:(defScope s_lift_once).names.lookup ("times" : Str)=some NameKind.globalImplicit:=by decide +kernel
theorem k_lift_once_compared:(defScope s_lift_once).names.lookup ("compared" : Str)=some NameKind.globalImplicit:=by decide +kernel
theorem k_round_ahead_net:(defScope s_round_ahead).names.lookup ("net" : Str)=some NameKind.local:=by decide +kernel
theorem k_round_ahead_onward:(defScope s_round_ahead).names.lookup ("onward" : Str)=some NameKind.local:=by decide +kernel
theorem k_round_ahead_place:(defScope s_round_ahead).names.lookup ("place" : Str)=some NameKind.local:=by decide +kernel
theorem k_round_ahead_places:(defScope s_round_ahead).names.lookup ("places" : Str)=some NameKind.local:=by decide +kernel
theorem k_round_ahead_ties:(defScope s_round_ahead).names.lookup ("ties" : Str)=some NameKind.local:=by decide +kernel
theorem k_gaining_round_net:(defScope s_gaining_round).names.lookup ("net" : Str)=some NameKind.local:=by decide +kernel
theorem k_gaining_round_worths:(defScope s_gaining_round).names.lookup ("worths" : Str)=some NameKind.local:=by decide +kernel
theorem k_gaining_round_onward:(defScope s_gaining_round).names.lookup ("onward" : Str)=some NameKind.local:=by decide +kernel
theorem k_gaining_round_lifted:(defScope s_gaining_round).names.lookup ("lifted" : Str)=some NameKind.local:=by decide +kernel
theorem k_gaining_round_turn:(defScope s_gaining_round).names.lookup ("turn" : Str)=some NameKind.local:=by decide +kernel
theorem k_gaining_round_range:(defScope s_gaining_round).names.lookup ("range" : Str)=some NameKind.globalImplicit:=by decide +kernel
theorem k_gaining_round_len:(defScope s_gaining_round).names.lookup ("len" : Str)=some NameKind.globalImplicit:=by decide +kernel
theorem k_gaining_round_lift_once:(defScope s_gaining_round).names.lookup ("lift_once" : Str)=some NameKind.globalImplicit:=by decide +kernel
theorem k_gaining_round_round_ahead:(defScope s_gaining_round).names.lookup ("round_ahead" : Str)=some NameKind.globalImplicit:=by decide +kernel
theorem k_lift_all_net:(defScope s_lift_all).names.lookup ("net" : Str)=some NameKind.local:=by decide +kernel
theorem k_lift_all_worths:(defScope s_lift_all).names.lookup ("worths" : Str)=some NameKind.local:=by decide +kernel
theorem k_lift_all_gaining:(defScope s_lift_all).names.lookup ("gaining" : Str)=some NameKind.local:=by decide +kernel
theorem k_lift_all_onward:(defScope s_lift_all).names.lookup ("onward" : Str)=some NameKind.local:=by decide +kernel
theorem k_lift_all_gaining_round:(defScope s_lift_all).names.lookup ("gaining_round" : Str)=some NameKind.globalImplicit:=by decide +kernel
theorem k_lift_all_lift_once:(defScope s_lift_all).names.lookup ("lift_once" : Str)=some NameKind.globalImplicit:=by decide +kernel
theorem k_holding_worths_net:(defScope s_holding_worths).names.lookup ("net" : Str)=some NameKind.local:=by decide +kernel
theorem k_holding_worths_worths:(defScope s_holding_worths).names.lookup ("worths" : Str)=some NameKind.cell:=by decide +kernel
theorem k_holding_worths_lift_all:(defScope s_holding_worths).names.lookup ("lift_all" : Str)=some NameKind.globalImplicit:=by decide +kernel
theorem k_l_frac_l_n:(defScope s_l_frac).names.lookup ("_law_n" : Str)=some NameKind.local:=by decide +kernel
theorem k_l_frac_l_d:(defScope s_l_frac).names.lookup ("_law_d" : Str)=some NameKind.local:=by decide +kernel
theorem k_l_frac_l_one:(defScope s_l_frac).names.lookup ("_law_one" : Str)=some NameKind.local:=by decide +kernel
theorem k_l_frac_l_other:(defScope s_l_frac).names.lookup ("_law_other" : Str)=some NameKind.local:=by decide +kernel
theorem k_l_frac_abs:(defScope s_l_frac).names.lookup ("abs" : Str)=some NameKind.globalImplicit:=by decide +kernel
theorem k_l_product_l_one:(defScope s_l_product).names.lookup ("_law_one" : Str)=some NameKind.local:=by decide +kernel
theorem k_l_product_l_other:(defScope s_l_product).names.lookup ("_law_other" : Str)=some NameKind.local:=by decide +kernel
theorem k_l_product_l_frac:(defScope s_l_product).names.lookup ("_law_frac" : Str)=some NameKind.globalImplicit:=by decide +kernel
theorem k_l_over_l_one:(defScope s_l_over).names.lookup ("_law_one" : Str)=some NameKind.local:=by decide +kernel
theorem k_l_over_l_other:(defScope s_l_over).names.lookup ("_law_other" : Str)=some NameKind.local:=by decide +kernel
theorem k_l_over_l_frac:(defScope s_l_over).names.lookup ("_law_frac" : Str)=some NameKind.globalImplicit:=by decide +kernel
theorem k_l_above_l_one:(defScope s_l_above).names.lookup ("_law_one" : Str)=some NameKind.local:=by decide +kernel
theorem k_l_above_l_other:(defScope s_l_above).names.lookup ("_law_other" : Str)=some NameKind.local:=by decide +kernel
theorem k_l_names_by_l_box_here:(defScope s_l_names_by).names.lookup ("_law_box_here" : Str)=some NameKind.cell:=by decide +kernel
theorem k_l_names_by_l_many:(defScope s_l_names_by).names.lookup ("_law_many" : Str)=some NameKind.local:=by decide +kernel
theorem k_l_names_by_l_letters:(defScope s_l_names_by).names.lookup ("_law_letters" : Str)=some NameKind.cell:=by decide +kernel
theorem k_l_names_by_l_first:(defScope s_l_names_by).names.lookup ("_law_first" : Str)=some NameKind.cell:=by decide +kernel
theorem k_l_names_by_l_rest:(defScope s_l_names_by).names.lookup ("_law_rest" : Str)=some NameKind.local:=by decide +kernel
theorem k_l_names_by_l_behind:(defScope s_l_names_by).names.lookup ("_law_behind" : Str)=some NameKind.cell:=by decide +kernel
theorem k_l_names_by_l_sign:(defScope s_l_names_by).names.lookup ("_law_sign" : Str)=some NameKind.cell:=by decide +kernel
theorem k_l_names_by_l_other:(defScope s_l_names_by).names.lookup ("_law_other" : Str)=some NameKind.cell:=by decide +kernel
theorem k_l_names_by_l_take:(defScope s_l_names_by).names.lookup ("_law_take" : Str)=some NameKind.globalImplicit:=by decide +kernel
theorem k_l_names_by_range:(defScope s_l_names_by).names.lookup ("range" : Str)=some NameKind.globalImplicit:=by decide +kernel
theorem k_l_names_by_int:(defScope s_l_names_by).names.lookup ("int" : Str)=some NameKind.globalImplicit:=by decide +kernel
theorem k_l_names_by_tuple:(defScope s_l_names_by).names.lookup ("tuple" : Str)=some NameKind.globalImplicit:=by decide +kernel
theorem k_l_any_gain_l_box_here:(defScope s_l_any_gain).names.lookup ("_law_box_here" : Str)=some NameKind.local:=by decide +kernel
theorem k_l_any_gain_l_way:(defScope s_l_any_gain).names.lookup ("_law_way" : Str)=some NameKind.local:=by decide +kernel
theorem k_l_any_gain_l_top:(defScope s_l_any_gain).names.lookup ("_law_top" : Str)=some NameKind.local:=by decide +kernel
theorem k_l_any_gain_l_take:(defScope s_l_any_gain).names.lookup ("_law_take" : Str)=some NameKind.globalImplicit:=by decide +kernel
theorem k_l_any_gain_l_frac:(defScope s_l_any_gain).names.lookup ("_law_frac" : Str)=some NameKind.globalImplicit:=by decide +kernel
theorem k_l_any_much_l_box_here:(defScope s_l_any_much).names.lookup ("_law_box_here" : Str)=some NameKind.local:=by decide +kernel
theorem k_l_any_much_l_way:(defScope s_l_any_much).names.lookup ("_law_way" : Str)=some NameKind.local:=by decide +kernel
theorem k_l_any_much_l_take:(defScope s_l_any_much).names.lookup ("_law_take" : Str)=some NameKind.globalImplicit:=by decide +kernel
theorem k_l_any_much_l_frac:(defScope s_l_any_much).names.lookup ("_law_frac" : Str)=some NameKind.globalImplicit:=by decide +kernel
theorem k_l_any_price_l_box_here:(defScope s_l_any_price).names.lookup ("_law_box_here" : Str)=some NameKind.local:=by decide +kernel
theorem k_l_any_price_l_way:(defScope s_l_any_price).names.lookup ("_law_way" : Str)=some NameKind.local:=by decide +kernel
theorem k_l_any_price_l_take:(defScope s_l_any_price).names.lookup ("_law_take" : Str)=some NameKind.globalImplicit:=by decide +kernel
theorem k_l_any_price_l_frac:(defScope s_l_any_price).names.lookup ("_law_frac" : Str)=some NameKind.globalImplicit:=by decide +kernel
theorem k_l_planted_l_box_here:(defScope s_l_planted).names.lookup ("_law_box_here" : Str)=some NameKind.local:=by decide +kernel
theorem k_l_planted_l_places:(defScope s_l_planted).names.lookup ("_law_places" : Str)=some NameKind.cell:=by decide +kernel
theorem k_l_planted_l_many:(defScope s_l_planted).names.lookup ("_law_many" : Str)=some NameKind.local:=by decide +kernel
theorem k_l_planted_l_first:(defScope s_l_planted).names.lookup ("_law_first" : Str)=some NameKind.cell:=by decide +kernel
theorem k_l_planted_l_a:(defScope s_l_planted).names.lookup ("_law_a" : Str)=some NameKind.local:=by decide +kernel
theorem k_l_planted_l_b:(defScope s_l_planted).names.lookup ("_law_b" : Str)=some NameKind.local:=by decide +kernel
theorem k_l_planted_l_more:(defScope s_l_planted).names.lookup ("_law_more" : Str)=some NameKind.local:=by decide +kernel
theorem k_l_planted_l_gains:(defScope s_l_planted).names.lookup ("_law_gains" : Str)=some NameKind.local:=by decide +kernel
theorem k_l_planted_l_spots:(defScope s_l_planted).names.lookup ("_law_spots" : Str)=some NameKind.local:=by decide +kernel
theorem k_l_planted_l_take:(defScope s_l_planted).names.lookup ("_law_take" : Str)=some NameKind.globalImplicit:=by decide +kernel
theorem k_l_planted_len:(defScope s_l_planted).names.lookup ("len" : Str)=some NameKind.globalImplicit:=by decide +kernel
theorem k_l_planted_l_frac:(defScope s_l_planted).names.lookup ("_law_frac" : Str)=some NameKind.globalImplicit:=by decide +kernel
theorem k_l_planted_range:(defScope s_l_planted).names.lookup ("range" : Str)=some NameKind.globalImplicit:=by decide +kernel
theorem k_l_planted_list:(defScope s_l_planted).names.lookup ("list" : Str)=some NameKind.globalImplicit:=by decide +kernel
theorem k_l_planted_zip:(defScope s_l_planted).names.lookup ("zip" : Str)=some NameKind.globalImplicit:=by decide +kernel
theorem k_l_net_by_l_box_here:(defScope s_l_net_by).names.lookup ("_law_box_here" : Str)=some NameKind.cell:=by decide +kernel
theorem k_l_net_by_l_most_places:(defScope s_l_net_by).names.lookup ("_law_most_places" : Str)=some NameKind.local:=by decide +kernel
theorem k_l_net_by_l_most_ties:(defScope s_l_net_by).names.lookup ("_law_most_ties" : Str)=some NameKind.local:=by decide +kernel
theorem k_l_net_by_l_way:(defScope s_l_net_by).names.lookup ("_law_way" : Str)=some NameKind.local:=by decide +kernel
theorem k_l_net_by_l_great:(defScope s_l_net_by).names.lookup ("_law_great" : Str)=some NameKind.local:=by decide +kernel
theorem k_l_net_by_l_places:(defScope s_l_net_by).names.lookup ("_law_places" : Str)=some NameKind.local:=by decide +kernel
theorem k_l_net_by_l_many:(defScope s_l_net_by).names.lookup ("_law_many" : Str)=some NameKind.local:=by decide +kernel
theorem k_l_net_by_l_some:(defScope s_l_net_by).names.lookup ("_law_some" : Str)=some NameKind.cell:=by decide +kernel
theorem k_l_net_by_l_worths:(defScope s_l_net_by).names.lookup ("_law_worths" : Str)=some NameKind.local:=by decide +kernel
theorem k_l_net_by_l_ends:(defScope s_l_net_by).names.lookup ("_law_ends" : Str)=some NameKind.local:=by decide +kernel
theorem k_l_net_by_l_turn:(defScope s_l_net_by).names.lookup ("_law_turn" : Str)=some NameKind.local:=by decide +kernel
theorem k_l_net_by_l_at:(defScope s_l_net_by).names.lookup ("_law_at" : Str)=some NameKind.local:=by decide +kernel
theorem k_l_net_by_l_begin:(defScope s_l_net_by).names.lookup ("_law_begin" : Str)=some NameKind.local:=by decide +kernel
theorem k_l_net_by_l_end:(defScope s_l_net_by).names.lookup ("_law_end" : Str)=some NameKind.local:=by decide +kernel
theorem k_l_net_by_l_gain:(defScope s_l_net_by).names.lookup ("_law_gain" : Str)=some NameKind.local:=by decide +kernel
theorem k_l_net_by_l_less:(defScope s_l_net_by).names.lookup ("_law_less" : Str)=some NameKind.local:=by decide +kernel
theorem k_l_net_by_l_ties:(defScope s_l_net_by).names.lookup ("_law_ties" : Str)=some NameKind.local:=by decide +kernel
theorem k_l_net_by_l_top:(defScope s_l_net_by).names.lookup ("_law_top" : Str)=some NameKind.local:=by decide +kernel
theorem k_l_net_by_l_take:(defScope s_l_net_by).names.lookup ("_law_take" : Str)=some NameKind.globalImplicit:=by decide +kernel
theorem k_l_net_by_l_names_by:(defScope s_l_net_by).names.lookup ("_law_names_by" : Str)=some NameKind.globalImplicit:=by decide +kernel
theorem k_l_net_by_dict:(defScope s_l_net_by).names.lookup ("dict" : Str)=some NameKind.globalImplicit:=by decide +kernel
theorem k_l_net_by_l_planted:(defScope s_l_net_by).names.lookup ("_law_planted" : Str)=some NameKind.globalImplicit:=by decide +kernel
theorem k_l_net_by_range:(defScope s_l_net_by).names.lookup ("range" : Str)=some NameKind.globalImplicit:=by decide +kernel
theorem k_l_net_by_len:(defScope s_l_net_by).names.lookup ("len" : Str)=some NameKind.globalImplicit:=by decide +kernel
theorem k_l_net_by_l_any_gain:(defScope s_l_net_by).names.lookup ("_law_any_gain" : Str)=some NameKind.globalImplicit:=by decide +kernel
theorem k_l_net_by_l_product:(defScope s_l_net_by).names.lookup ("_law_product" : Str)=some NameKind.globalImplicit:=by decide +kernel
theorem k_l_net_by_l_over:(defScope s_l_net_by).names.lookup ("_law_over" : Str)=some NameKind.globalImplicit:=by decide +kernel
theorem k_l_net_by_l_any_much:(defScope s_l_net_by).names.lookup ("_law_any_much" : Str)=some NameKind.globalImplicit:=by decide +kernel
theorem k_l_net_by_l_any_price:(defScope s_l_net_by).names.lookup ("_law_any_price" : Str)=some NameKind.globalImplicit:=by decide +kernel
theorem k_l_net_by_tuple:(defScope s_l_net_by).names.lookup ("tuple" : Str)=some NameKind.globalImplicit:=by decide +kernel
theorem k_l_opened_l_net:(defScope s_l_opened).names.lookup ("_law_net" : Str)=some NameKind.local:=by decide +kernel
theorem k_l_opened_enumerate:(defScope s_l_opened).names.lookup ("enumerate" : Str)=some NameKind.globalImplicit:=by decide +kernel
theorem k_l_gain_of_l_net:(defScope s_l_gain_of).names.lookup ("_law_net" : Str)=some NameKind.local:=by decide +kernel
theorem k_l_gain_of_l_way:(defScope s_l_gain_of).names.lookup ("_law_way" : Str)=some NameKind.local:=by decide +kernel
theorem k_l_gain_of_l_found:(defScope s_l_gain_of).names.lookup ("_law_found" : Str)=some NameKind.local:=by decide +kernel
theorem k_l_gain_of_l_number:(defScope s_l_gain_of).names.lookup ("_law_number" : Str)=some NameKind.local:=by decide +kernel
theorem k_l_gain_of_l_product:(defScope s_l_gain_of).names.lookup ("_law_product" : Str)=some NameKind.globalImplicit:=by decide +kernel
theorem k_l_all_ways_l_net:(defScope s_l_all_ways).names.lookup ("_law_net" : Str)=some NameKind.local:=by decide +kernel
theorem k_l_all_ways_l_begin:(defScope s_l_all_ways).names.lookup ("_law_begin" : Str)=some NameKind.local:=by decide +kernel
theorem k_l_all_ways_l_found:(defScope s_l_all_ways).names.lookup ("_law_found" : Str)=some NameKind.local:=by decide +kernel
theorem k_l_all_ways_l_waiting:(defScope s_l_all_ways).names.lookup ("_law_waiting" : Str)=some NameKind.local:=by decide +kernel
theorem k_l_all_ways_l_way:(defScope s_l_all_ways).names.lookup ("_law_way" : Str)=some NameKind.local:=by decide +kernel
theorem k_l_all_ways_l_spots:(defScope s_l_all_ways).names.lookup ("_law_spots" : Str)=some NameKind.local:=by decide +kernel
theorem k_l_all_ways_l_number:(defScope s_l_all_ways).names.lookup ("_law_number" : Str)=some NameKind.local:=by decide +kernel
theorem k_l_all_ways_l_opened:(defScope s_l_all_ways).names.lookup ("_law_opened" : Str)=some NameKind.globalImplicit:=by decide +kernel
theorem k_l_is_round_l_net:(defScope s_l_is_round).names.lookup ("_law_net" : Str)=some NameKind.cell:=by decide +kernel
theorem k_l_is_round_l_thing:(defScope s_l_is_round).names.lookup ("_law_thing" : Str)=some NameKind.local:=by decide +kernel
theorem k_l_is_round_l_begins:(defScope s_l_is_round).names.lookup ("_law_begins" : Str)=some NameKind.local:=by decide +kernel
theorem k_l_is_round_isinstance:(defScope s_l_is_round).names.lookup ("isinstance" : Str)=some NameKind.globalImplicit:=by decide +kernel
theorem k_l_is_round_list:(defScope s_l_is_round).names.lookup ("list" : Str)=some NameKind.globalImplicit:=by decide +kernel
theorem k_l_is_round_len:(defScope s_l_is_round).names.lookup ("len" : Str)=some NameKind.globalImplicit:=by decide +kernel
theorem k_l_is_round_all:(defScope s_l_is_round).names.lookup ("all" : Str)=some NameKind.globalImplicit:=by decide +kernel
theorem k_l_is_round_any:(defScope s_l_is_round).names.lookup ("any" : Str)=some NameKind.globalImplicit:=by decide +kernel
theorem k_l_is_round_set:(defScope s_l_is_round).names.lookup ("set" : Str)=some NameKind.globalImplicit:=by decide +kernel
theorem k_l_is_round_l_above:(defScope s_l_is_round).names.lookup ("_law_above" : Str)=some NameKind.globalImplicit:=by decide +kernel
theorem k_l_is_round_l_gain_of:(defScope s_l_is_round).names.lookup ("_law_gain_of" : Str)=some NameKind.globalImplicit:=by decide +kernel
theorem k_l_some_gains_l_net:(defScope s_l_some_gains).names.lookup ("_law_net" : Str)=some NameKind.local:=by decide +kernel
theorem k_l_some_gains_l_place:(defScope s_l_some_gains).names.lookup ("_law_place" : Str)=some NameKind.local:=by decide +kernel
theorem k_l_some_gains_l_way:(defScope s_l_some_gains).names.lookup ("_law_way" : Str)=some NameKind.local:=by decide +kernel
theorem k_l_some_gains_l_number:(defScope s_l_some_gains).names.lookup ("_law_number" : Str)=some NameKind.local:=by decide +kernel
theorem k_l_some_gains_l_all_ways:(defScope s_l_some_gains).names.lookup ("_law_all_ways" : Str)=some NameKind.globalImplicit:=by decide +kernel
theorem k_l_some_gains_l_opened:(defScope s_l_some_gains).names.lookup ("_law_opened" : Str)=some NameKind.globalImplicit:=by decide +kernel
theorem k_l_some_gains_l_above:(defScope s_l_some_gains).names.lookup ("_law_above" : Str)=some NameKind.globalImplicit:=by decide +kernel
theorem k_l_some_gains_l_gain_of:(defScope s_l_some_gains).names.lookup ("_law_gain_of" : Str)=some NameKind.globalImplicit:=by decide +kernel
theorem k_l_held_l_net:(defScope s_l_held).names.lookup ("_law_net" : Str)=some NameKind.local:=by decide +kernel
theorem k_l_held_l_worths:(defScope s_l_held).names.lookup ("_law_worths" : Str)=some NameKind.local:=by decide +kernel
theorem k_l_held_l_known:(defScope s_l_held).names.lookup ("_law_known" : Str)=some NameKind.local:=by decide +kernel
theorem k_l_held_l_number:(defScope s_l_held).names.lookup ("_law_number" : Str)=some NameKind.local:=by decide +kernel
theorem k_l_held_l_begin:(defScope s_l_held).names.lookup ("_law_begin" : Str)=some NameKind.local:=by decide +kernel
theorem k_l_held_l_end:(defScope s_l_held).names.lookup ("_law_end" : Str)=some NameKind.local:=by decide +kernel
theorem k_l_held_l_top:(defScope s_l_held).names.lookup ("_law_top" : Str)=some NameKind.local:=by decide +kernel
theorem k_l_held_l_gain:(defScope s_l_held).names.lookup ("_law_gain" : Str)=some NameKind.local:=by decide +kernel
theorem k_l_held_l_price:(defScope s_l_held).names.lookup ("_law_price" : Str)=some NameKind.local:=by decide +kernel
theorem k_l_held_isinstance:(defScope s_l_held).names.lookup ("isinstance" : Str)=some NameKind.globalImplicit:=by decide +kernel
theorem k_l_held_list:(defScope s_l_held).names.lookup ("list" : Str)=some NameKind.globalImplicit:=by decide +kernel
theorem k_l_held_len:(defScope s_l_held).names.lookup ("len" : Str)=some NameKind.globalImplicit:=by decide +kernel
theorem k_l_held_min:(defScope s_l_held).names.lookup ("min" : Str)=some NameKind.globalImplicit:=by decide +kernel
theorem k_l_held_dict:(defScope s_l_held).names.lookup ("dict" : Str)=some NameKind.globalImplicit:=by decide +kernel
theorem k_l_held_zip:(defScope s_l_held).names.lookup ("zip" : Str)=some NameKind.globalImplicit:=by decide +kernel
theorem k_l_held_l_opened:(defScope s_l_held).names.lookup ("_law_opened" : Str)=some NameKind.globalImplicit:=by decide +kernel
theorem k_l_held_l_above:(defScope s_l_held).names.lookup ("_law_above" : Str)=some NameKind.globalImplicit:=by decide +kernel
theorem k_l_held_l_product:(defScope s_l_held).names.lookup ("_law_product" : Str)=some NameKind.globalImplicit:=by decide +kernel
theorem k_l_right_l_net:(defScope s_l_right).names.lookup ("_law_net" : Str)=some NameKind.local:=by decide +kernel
theorem k_l_right_l_found:(defScope s_l_right).names.lookup ("_law_found" : Str)=some NameKind.local:=by decide +kernel
theorem k_l_right_gaining_round:(defScope s_l_right).names.lookup ("gaining_round" : Str)=some NameKind.globalImplicit:=by decide +kernel
theorem k_l_right_l_is_round:(defScope s_l_right).names.lookup ("_law_is_round" : Str)=some NameKind.globalImplicit:=by decide +kernel
theorem k_l_right_len:(defScope s_l_right).names.lookup ("len" : Str)=some NameKind.globalImplicit:=by decide +kernel
theorem k_l_right_l_held:(defScope s_l_right).names.lookup ("_law_held" : Str)=some NameKind.globalImplicit:=by decide +kernel
theorem k_l_right_holding_worths:(defScope s_l_right).names.lookup ("holding_worths" : Str)=some NameKind.globalImplicit:=by decide +kernel
theorem k_l_right_l_some_gains:(defScope s_l_right).names.lookup ("_law_some_gains" : Str)=some NameKind.globalImplicit:=by decide +kernel
theorem k_law_l_script:(defScope s_law).names.lookup ("_law_script" : Str)=some NameKind.local:=by decide +kernel
theorem k_law_l_cells:(defScope s_law).names.lookup ("_law_cells" : Str)=some NameKind.local:=by decide +kernel
theorem k_law_l_k:(defScope s_law).names.lookup ("_law_k" : Str)=some NameKind.local:=by decide +kernel
theorem k_law_l_box_here:(defScope s_law).names.lookup ("_law_box_here" : Str)=some NameKind.local:=by decide +kernel
theorem k_law_l_turn:(defScope s_law).names.lookup ("_law_turn" : Str)=some NameKind.local:=by decide +kernel
theorem k_law_l_net:(defScope s_law).names.lookup ("_law_net" : Str)=some NameKind.local:=by decide +kernel
theorem k_law_l_written:(defScope s_law).names.lookup ("_law_written" : Str)=some NameKind.local:=by decide +kernel
theorem k_law_l_again:(defScope s_law).names.lookup ("_law_again" : Str)=some NameKind.local:=by decide +kernel
theorem k_law_l_found:(defScope s_law).names.lookup ("_law_found" : Str)=some NameKind.local:=by decide +kernel
theorem k_law_l_folded:(defScope s_law).names.lookup ("_law_folded" : Str)=some NameKind.globalImplicit:=by decide +kernel
theorem k_law_range:(defScope s_law).names.lookup ("range" : Str)=some NameKind.globalImplicit:=by decide +kernel
theorem k_law_max:(defScope s_law).names.lookup ("max" : Str)=some NameKind.globalImplicit:=by decide +kernel
theorem k_law_len:(defScope s_law).names.lookup ("len" : Str)=some NameKind.globalImplicit:=by decide +kernel
theorem k_law_l_box:(defScope s_law).names.lookup ("_law_box" : Str)=some NameKind.globalImplicit:=by decide +kernel
theorem k_law_l_net_by:(defScope s_law).names.lookup ("_law_net_by" : Str)=some NameKind.globalImplicit:=by decide +kernel
theorem k_law_str:(defScope s_law).names.lookup ("str" : Str)=some NameKind.globalImplicit:=by decide +kernel
theorem k_law_l_right:(defScope s_law).names.lookup ("_law_right" : Str)=some NameKind.globalImplicit:=by decide +kernel
theorem k_law_gaining_round:(defScope s_law).names.lookup ("gaining_round" : Str)=some NameKind.globalImplicit:=by decide +kernel
end K10
namespace K10
open PySem L2
section
variable {P:Program}{w:World}{K:PySem.W.Frag}{mg:Str→Option Value}{base:Heap}
inductive spGcd_ (vs:List V) (H:Hp) (Q:VK):Prop
  | mk (n d:Int) (h0:vs=[.int n,.int d]) (h1:Q (.int (Int.gcd n d:Nat)) H)
def spGcd:Sp:=fun vs H Q _=>spGcd_  vs H Q
theorem ok_common_divisor (T:Txt K mg):FnOk P w K mg base CX0 1 T.f_common_divisor T.d_common_divisor ["n", "d"] spGcd:=by
  refine T.F_common_divisor.ok sc_common_divisor (fun vs H Q E h=>?_) (fun cdv A outer s H vs Q E hr h=>?_)
  · obtain ⟨n,d,rfl,_⟩:=h
    rfl
  · obtain ⟨n,d,rfl,k⟩:=h
    refine ⟨_,(pss_cons (ps_while PassesOwn.never (pt_cmpR op_ne (pv 1) pe_int (nomark _)) (pss_one (ps_par (i:=0) (j:=1) rfl sc_common_divisor.nd rfl rfl (by decide) rfl rfl (pa_cons (pv 1) (pa_cons (pe_op op_modN (pv 0) (pv 1)) pa_nil)) rfl)))
      (pss_one (ps_ret (pe_callB call_abs (by rfl) T.b_abs boot_b_abs (pa_cons (pv 0) pa_nil))))),?_⟩
    refine ⟨fun m σ H'=>∃a b:Int,σ=[some (.int a),some (.int b)]∧H'=H∧Int.gcd a b=Int.gcd n d∧m=b.natAbs,⟨_,n,d,rfl,rfl,rfl,rfl⟩,?_⟩
    rintro m σ H' ⟨a,b,rfl,rfl,hg,rfl⟩
    refine ⟨_,rfl,rfl,_,rfl,?_⟩
    by_cases hb:b=0
    · subst hb
      refine iteF ?_
      refine ⟨_,rfl,_,rfl,?_⟩
      rw [←KM.gcd_zero_abs,hg]
      exact k
    · have e:(!decide (V.int b=V.int 0))=true:=by
        rw [decide_eq_false (fun z=>hb (by injection z))];rfl
      rw [e]
      refine iteT ⟨fun σ' H''=>∃a' b':Int,σ'=[some (.int a'),some (.int b')]∧H''=H'∧Int.gcd a' b'=Int.gcd n d∧b'.natAbs<b.natAbs,?_,?_⟩
      · rintro σ' H'' ⟨a',b',rfl,rfl,h1,h2⟩
        exact ⟨_,h2,a',b',rfl,rfl,h1,rfl⟩
      · refine ⟨_,rfl,_,rfl,_,rfl,_,_,rfl,rfl,hb,_,_,rfl,?_⟩
        exact ⟨b,a.fmod b,rfl,rfl,(KM.gcd_fmod a b).trans hg,KM.fmod_natAbs_lt a b hb⟩
end
end K10
namespace K10
open PySem L2
section
variable {P:Program}{w:World}{K:PySem.W.Frag}{mg:Str→Option Value}{base:Heap}
theorem ok_box (T:Txt K mg):FnOk P w K mg base CX0 1 T.f_l_box T.d_l_box ["_law_script", "_law_k"] (spBox K):=by
  refine T.F_l_box.ok sc_l_box (fun vs H Q E h=>?_) (fun cdv A outer s H vs Q E hr h=>?_)
  · obtain ⟨a,ms,k,rfl,_⟩:=h
    rfl
  · obtain ⟨a,ms,k,rfl,hS,hk0,hk1,kk⟩:=h
    refine ⟨_,(pss_cons (ps_set (i:=2) sc_l_box.nd rfl (Or.inl rfl) pe_int)
      (pss_cons (ps_if (pt_cmpR op_lt (pv 1) (pe_callB call_len_seq (by rfl) T.b_len boot_b_len (pa_cons (pv 0) pa_nil)) (nomark _)) (pss_one (ps_set (i:=2) sc_l_box.nd rfl (Or.inl rfl) (pe_ix ix_seq (pv 0) (pv 1) (fun _ _=>rfl)))) pss_nil)
      (pss_one (ps_ret (pe_lst (pa_cons (pe_op op_mul (pe_callB call_abs (by rfl) T.b_abs boot_b_abs (pa_cons (pv 2) pa_nil)) (pe_callTy call_int1 (by rfl) T.b_int boot_ty_int (pa_cons (pe_cmpR op_ge (pe_callB call_abs (by rfl) T.b_abs boot_b_abs (pa_cons (pv 2) pa_nil)) (pe_op op_pow pe_int pe_int) (nomark _)) pa_nil))) (pa_cons (pe_op op_mod (pe_op op_add (pv 2) (pe_op op_mul (pe_op op_mul pe_int (pv 1)) (pv 1))) pe_int) (pa_cons pe_int pa_nil)))))))),?_⟩
    refine ⟨_,rfl,_,rfl,a,_,rfl,.inl hS,_,_,rfl,rfl,_,rfl,?_⟩
    refine ite2 (fun h=>?_) (fun h=>?_)
    case' refine_1=>
      have hlt:k.toNat<ms.length:=by
        have h':=of_decide_eq_true h
        rw [List.length_map] at h'
        trivial
      refine ⟨_,rfl,_,rfl,.inl ⟨a,_,_,V.int ms[k.toNat],rfl,rfl,hS,?_,?_⟩⟩
      · exact atI_int hk0 hlt
    all_goals
      refine ⟨_,rfl,_,rfl,_,rfl,_,rfl,_,_,rfl,rfl,⟨by decide,by decide,by decide⟩,_,_,rfl,rfl,.inr ⟨_,rfl,_,_,rfl,rfl,.inr ?_,_,rfl,_,rfl,_,_,rfl,rfl,.inr ⟨by trivial,by trivial⟩,_,rfl,_,_,rfl,rfl,.inr ⟨by trivial,by trivial⟩,_,_,rfl,rfl,_,_,rfl,rfl,?_,?_,fun p hp=>kk p _ hp (Same.new hp) ⟨_,_,upd_same,?_,?_,?_⟩⟩⟩
      · exact b01 _
      · show (0:Int)<2147483647;decide
      · show 3≤sizeLine;decide
      · exact mul01 _ (abs_nn _)
      · exact Int.emod_nonneg _ (by decide)
      · exact Int.emod_lt_of_pos _ (by decide)
end
end K10
namespace K10
open PySem L2
section
variable {P:Program}{w:World}{K:PySem.W.Frag}{mg:Str→Option Value}{base:Heap}
theorem ok_take (T:Txt K mg):FnOk P w K mg base CX0 1 T.f_l_take T.d_l_take ["_law_box_here", "_law_many"] spTake:=by
  refine T.F_l_take.ok sc_l_take (fun vs H Q E h=>?_) (fun cdv A outer s H vs Q E hr h=>?_)
  · obtain ⟨b,many,t,rfl,_⟩:=h
    rfl
  · obtain ⟨b,many,t,rfl,⟨c,x,hb,hc,hx0,hx1⟩,hm0,hm1,ht0,ht1,kk⟩:=h
    refine ⟨_,(pss_cons (ps_if (pt_cmpR op_gt (pe_ix ix_seq (pv 0) pe_int (fun _ _=>rfl)) pe_int (nomark _)) (pss_cons (ps_asg (pe_callB call_divmodB (by rfl) T.b_divmod boot_b_divmod (pa_cons (pe_ix ix_seq (pv 0) pe_int (fun _ _=>rfl)) (pa_cons (pv 1) pa_nil))) (pg_tup rfl (pgs_cons (pg_sub (pv 0) pe_int set_list) (pgs_cons (pg_name (i:=2) sc_l_take.nd rfl (Or.inl rfl)) pgs_nil))))
        (pss_one (ps_ret (pv 2)))) pss_nil)
      (pss_cons (ps_asg (pe_op op_add (pe_ix ix_seq (pv 0) pe_int (fun _ _=>rfl)) pe_int) (pg_sub (pv 0) pe_int set_list))
      (pss_cons (ps_set (i:=3) sc_l_take.nd rfl (Or.inl rfl) (pe_op op_mod (pe_op op_pow (pe_op op_add (pe_ix ix_seq (pv 0) pe_int (fun _ _=>rfl)) (pe_op op_mul pe_int (pe_ix ix_seq (pv 0) pe_int (fun _ _=>rfl)))) pe_int) pe_int))
      (pss_one (ps_ret (pe_op op_mod (pe_op op_fdiv (pe_op op_mod (pe_op op_add (pe_op op_mul (pv 3) pe_int) (pe_op op_mul (pe_op op_mul (pe_ix ix_seq (pv 0) pe_int (fun _ _=>rfl)) (pe_ix ix_seq (pv 0) pe_int (fun _ _=>rfl))) pe_int)) pe_int) pe_int) (pv 1))))))),?_⟩
    refine ⟨_,rfl,.inl ⟨b,_,_,_,rfl,rfl,SqL.of hb,rfl,_,_,rfl,rfl,_,rfl,?_⟩⟩
    refine ite2 (fun h=>?_) (fun h=>?_)
    · refine ⟨_,rfl,.inl ⟨b,_,_,_,rfl,rfl,SqL.of hb,rfl,_,rfl,_,_,rfl,⟨hm0,hm1⟩,fun p hp=>⟨p,_,rfl,SqT.of upd_same,rfl,_,_,rfl,_,rfl,b,[.int c,.int x,.int t],_,0,rfl,rfl,?_,rfl,_,_,rfl,rfl,_,rfl,?_⟩⟩⟩
      · rw [upd_ne (ne_of_none hb hp)];exact hb
      · have hb':upd H p (.tup [.int (c / many),.int (c % many)]) b=some (.lst [.int c,.int x,.int t]):=by rw [upd_ne (ne_of_none hb hp)];exact hb
        exact kk _ t _ (Int.emod_nonneg _ (Int.ne_of_gt hm0)) (Int.emod_lt_of_pos _ hm0) (Int.le_refl _) (by trivial) (sameE_upd (Same.new hp) hb') ⟨_,_,upd_same,Int.ediv_nonneg hc (Int.le_of_lt hm0),hx0,hx1⟩
    · refine ⟨_,rfl,.inl ⟨b,_,_,_,rfl,rfl,SqL.of hb,rfl,_,_,rfl,rfl,_,rfl,b,_,_,2,rfl,rfl,hb,rfl,?_⟩⟩
      refine ⟨_,rfl,.inl ⟨b,_,_,_,rfl,rfl,SqL.of upd_same,rfl,_,rfl,.inl ⟨b,_,_,_,rfl,rfl,SqL.of upd_same,rfl,_,_,rfl,rfl,.inl ⟨by decide,by decide⟩,_,_,rfl,rfl,_,_,rfl,rfl,⟨by decide,by decide,?_⟩,_,_,rfl,rfl,?_,?_⟩⟩⟩
      · have:(x+39373*(t+1)).natAbs<2 ^ 64:=by trivial
        exact this
      · show (0:Int)<2147483647;decide
      have ho0:0≤(x+39373*(t+1)) ^ (5:Int).toNat % 2147483647:=Int.emod_nonneg _ (by decide)
      have ho1:(x+39373*(t+1)) ^ (5:Int).toNat % 2147483647<2147483647:=Int.emod_lt_of_pos _ (by decide)
      generalize (x+39373*(t+1)) ^ (5:Int).toNat % 2147483647=on at ho0 ho1 ⊢
      refine ⟨_,rfl,_,_,rfl,rfl,.inr ⟨by decide,by decide⟩,_,rfl,.inl ⟨b,_,_,_,rfl,rfl,SqL.of upd_same,rfl,_,rfl,.inl ⟨b,_,_,_,rfl,rfl,SqL.of upd_same,rfl,_,_,rfl,rfl,.inl ⟨?_,?_⟩,_,_,rfl,rfl,.inr ⟨by decide,by decide⟩,_,_,rfl,rfl,_,_,rfl,rfl,?_,_,_,rfl,rfl,⟨by decide,by decide⟩,_,rfl,_,_,rfl,rfl,hm0,?_⟩⟩⟩
      · show -(2 ^ 64)<t+1;trivial
      · show t+1<2 ^ 64;trivial
      · show (0:Int)<2147483629;decide
      · exact kk _ (t+1) _ (Int.emod_nonneg _ (Int.ne_of_gt hm0)) (Int.emod_lt_of_pos _ hm0) (by trivial) (Int.le_refl _) (sameE_upd (Same.refl H) hb) ⟨c,x,upd_same,hc,hx0,hx1⟩
end
end K10
namespace K10
open PySem L2
section
variable {P:Program}{w:World}{K:PySem.W.Frag}{mg:Str→Option Value}{base:Heap}
inductive spFoldN_ (K:PySem.W.Frag) (vs:List V) (H:Hp) (Q:VK):Prop
  | mk (a:Addr) (ns:List Int) (many:Int) (h0:vs=[.ref a,.int many]) (h1:SqL K H a (ns.map V.int)) (h2:ns.length≤63) (h3:2≤many) (h4:many≤63) (h5:∀p ms H',H p=none→Same H H'→H' p=some (.lst ((ms:List Int).map V.int))→(ms.length:Int)≤many→Q (.ref p) H')
def spFoldN (K:PySem.W.Frag):Sp:=fun vs H Q _=>spFoldN_ K vs H Q
theorem ok_folded (T:Txt K mg):FnOk P w K mg base CX0 1 T.f_l_folded T.d_l_folded ["_law_script", "_law_many"] (spFoldN K):=by
  refine T.F_l_folded.ok sc_l_folded (fun vs H Q E h=>?_) (fun cdv A outer s H vs Q E hr h=>?_)
  · obtain ⟨a,ns,many,rfl,_⟩:=h
    rfl
  · obtain ⟨a,ns,many,rfl,hS,hn,hm0,hm1,kk⟩:=h
    refine ⟨_,(pss_cons (ps_set (i:=2) sc_l_folded.nd rfl (Or.inl rfl) (pe_callTy call_list_of (by rfl) T.b_list boot_ty_list (pa_cons (pe_slice sl_list (pv 0) po_none (po_some (pv 1))) pa_nil)))
      (pss_cons (ps_for PassesOwn.never rfl (pi_enum rfl T.b_enumerate (pa_cons (pe_slice sl_list (pv 0) (po_some (pv 1)) (po_some pe_int)) pa_nil)) (pg_tup rfl (pgs_cons (pg_name (i:=3) sc_l_folded.nd rfl (Or.inl rfl)) (pgs_cons (pg_name (i:=4) sc_l_folded.nd rfl (Or.inl rfl)) pgs_nil))) (pss_one (ps_asg (pe_op op_add (pe_ix ix_seq (pv 2) (pe_op op_mod (pv 3) (pv 1)) (fun _ _=>rfl)) (pe_op op_mul (pv 4) (pe_op op_add (pv 3) pe_int))) (pg_sub (pv 2) (pe_op op_mod (pv 3) (pv 1)) set_list))))
      (pss_one (ps_ret (pv 2))))),?_⟩
    have cutE:∀(lo hi:Option Int),∃cs:List Int,cutV (ns.map V.int) lo hi=cs.map V.int∧cs.length≤ns.length∧cs=(ns.drop (HT.sIx ns.length 0 lo)).take (HT.sIx ns.length ns.length hi - HT.sIx ns.length 0 lo):=fun lo hi=>by
      refine ⟨(ns.drop (HT.sIx ns.length 0 lo)).take (HT.sIx ns.length ns.length hi - HT.sIx ns.length 0 lo),?_,?_,rfl⟩
      · unfold cutV
        rw [List.length_map,List.map_take,List.map_drop]
      · rw [List.length_take,List.length_drop];trivial
    obtain ⟨c1,e1,l1,q1⟩:=cutE none (some many)
    obtain ⟨c2,e2,l2,q2⟩:=cutE (some many) (some 63)
    have em:many=((many.toNat:Nat):Int):=by trivial
    have l1m:c1.length=min many.toNat ns.length:=by
      rw [q1,em,HT.sIx_nat,HT.sIx_none,List.length_take,List.length_drop]
      simp only [Int.toNat_natCast]
      trivial
    have l2m:c2.length≤ns.length - many.toNat:=by
      rw [q2,em,HT.sIx_nat,List.length_take,List.length_drop]
      simp only [Int.toNat_natCast]
      trivial
    refine ⟨_,rfl,_,rfl,_,rfl,a,_,rfl,hS,fun p1 hp1=>⟨p1,_,rfl,.inl (SqL.of upd_same),fun p2 hp2=>?_⟩⟩
    rw [e1] at hp2 ⊢
    have n12:p2≠p1:=fun z=>by rw [z,upd_same] at hp2;cases hp2
    have s2:Same H (upd (upd H p1 (.lst (c1.map V.int))) p2 (.lst (c1.map V.int))):=(Same.new hp1).trans (Same.new hp2)
    refine ⟨_,rfl,_,rfl,_,rfl,_,rfl,a,_,rfl,s2.seq hS,fun p3 hp3=>⟨p3,rfl,⟨_,SqL.of upd_same⟩,?_⟩⟩
    rw [e2]
    have s3:=s2.trans (Same.new (o:=.lst (c2.map V.int)) hp3)
    have n23:p2≠p3:=fun z=>by rw [←z,upd_same] at hp3;cases hp3
    refine ⟨fun i m σ H'=>m=c2.length - i∧i≤c2.length∧Ex3 fun (ms:List Int) (v3 v4:Option V)=>σ=[some (.ref a),some (.int many),some (.ref p2),v3,v4]∧ms.length=c1.length∧H' p2=some (.lst (ms.map V.int))∧H' p3=some (.lst (c2.map V.int))∧(∀b o,b≠p2→H b=some o→H' b=some o),⟨_,rfl,Nat.zero_le _,c1,none,none,rfl,rfl,?_,upd_same,fun b o _ h=>s3 b o h⟩,?_⟩
    · rw [upd_ne n23];exact upd_same
    rintro i m σ H' ⟨rfl,hi,ms,v3,v4,rfl,hms,h2,h3,hk⟩
    by_cases hlt:i<c2.length
    · refine .inr ⟨⟨c2.map V.int,V.int c2[i],SqL.of h3,by rw [List.getElem?_map];simp [hlt]⟩,_,fun σ' H'' z=>z,?_⟩
      rintro x H'' ⟨t,y,ht,rfl,rfl,hy⟩
      have hy':=hy _ (SqL.of h3)
      rw [List.getElem?_map,List.getElem?_eq_getElem hlt] at hy'
      obtain rfl:V.int c2[i]=y:=Option.some.inj hy'
      have nt2:p2≠t:=ne_of_none h2 ht
      have nt3:p3≠t:=ne_of_none h3 ht
      have hlen:many.toNat<ns.length:=by trivial
      have hmod0:0≤(i:Int) % many:=Int.emod_nonneg _ (by trivial)
      have hmod1:(i:Int) % many<many:=Int.emod_lt_of_pos _ (by trivial)
      have hixlt:((i:Int) % many).toNat<ms.length:=by trivial
      refine ⟨t,_,rfl,SqT.of upd_same,rfl,_,_,rfl,_,_,rfl,rfl,_,rfl,_,rfl,_,rfl,_,_,rfl,rfl,(by show (0:Int)<many;trivial),.inl ⟨p2,ms.map V.int,_,V.int ms[((i:Int) % many).toNat],rfl,rfl,SqL.of (by rw [upd_ne nt2];exact h2),atI_int hmod0 hixlt,_,rfl,_,rfl,_,_,rfl,rfl,_,_,rfl,rfl,.inr ⟨?_,?_⟩,_,_,rfl,rfl,_,rfl,_,rfl,_,rfl,_,_,rfl,rfl,(by show (0:Int)<many;trivial),p2,ms.map V.int,_,((i:Int) % many).toNat,rfl,rfl,(by rw [upd_ne nt2];exact h2),?_,?_⟩⟩
      · trivial
      · trivial
      · unfold ixN
        rw [if_pos hmod0,List.length_map,if_pos (by trivial)]
      · refine ⟨c2.length - (i+1),by trivial,rfl,hlt,ms.set ((i:Int) % many).toNat (ms[((i:Int) % many).toNat]+c2[i]*((i:Int)+2)),_,_,rfl,by rw [List.length_set];exact hms,?_,?_,fun b o hb h=>?_⟩
        · rw [upd_same,List.map_set]
        · rw [upd_ne (Ne.symm n23),upd_ne nt3];exact h3
        · have:=hk b o hb h
          rw [upd_ne hb,upd_ne (ne_of_none this ht)]
          exact this
    · refine .inl ⟨⟨_,SqL.of h3,by rw [List.length_map];trivial⟩,?_⟩
      have hp2':H p2=none:=by
        rw [upd_ne n12] at hp2
        exact hp2
      have sH:Same H H':=fun b o h=>hk b o (ne_of_none h hp2') h
      exact ⟨_,rfl,kk p2 ms H' hp2' sH h2 (by trivial)⟩
end
end K10
namespace K10
open PySem L2
section
variable {P:Program}{w:World}{K:PySem.W.Frag}{mg:Str→Option Value}{base:Heap}
theorem ok_fraction (T:Txt K mg):FnOk P w K mg base CX0 2 T.f_fraction T.d_fraction ["n", "d"] spLowA:=by
  have G_common_divisor:=ok_common_divisor (P:=P) (w:=w) (base:=base) T
  refine T.F_fraction.ok sc_fraction (fun vs H Q E h=>?_) (fun cdv A outer s H vs Q E hr h=>?_)
  · obtain ⟨n,d,rfl,_⟩:=h
    rfl
  · obtain ⟨n,d,rfl,hd,hs,k⟩:=h
    refine ⟨_,(@pss_cons _ _ _ _ _ (@ps_set _ _ (2) _ _ _ _ sc_fraction.nd rfl (Or.inl k_fraction_divisor) (@pe_call _ _ _ _ _ _ _ _ _ _ _ _ _ _ _ _ G_common_divisor (hr.mono (by decide)) k_fraction_common_divisor T.m_common_divisor T.F_common_divisor.kp T.B_common_divisor .nil (@pass0 _) (@pa_c _ _ _ _ _ (@pw _ 0 _ _ (Or.inl k_fraction_n) (by rfl) (by decide) (by decide)) (@pa_c _ _ _ _ _ (@pw _ 1 _ _ (Or.inl k_fraction_d) (by rfl) (by decide) (by decide)) (@pa_nil _) rfl) rfl) (by decide) (by rfl) (by rfl)) (by rfl) (by first | exact .inl rfl | exact .inr rfl | assumption)) (@pss_cons _ _ _ _ _ (@ps_if _ _ _ _ _ _ _ _ (@pt_cmpR _ _ _ _ _ _ _ _ (@op_lt _) (@pw _ 1 _ _ (Or.inl k_fraction_d) (by rfl) (by decide) (by decide)) (@pe_int _ _ _ _) (@nomark _ _ (by decide) (by decide))) (@pss_one _ _ _ (@ps_set _ _ (2) _ _ _ _ sc_fraction.nd rfl (Or.inl k_fraction_divisor) (@pe_un _ _ _ _ _ _ (@un_neg _) (@pw _ 2 _ _ (Or.inl k_fraction_divisor) (by rfl) (by decide) (by decide))) (by rfl) (by first | exact .inl rfl | exact .inr rfl | assumption))) (@pss_nil _)) (@pss_one _ _ _ (@ps_ret _ _ _ _ (@pe_tupA _ _ _ _ _ (@pa_c _ _ _ _ _ (@pe_op _ _ _ _ _ _ _ _ (@op_fdivS _) (@pw _ 0 _ _ (Or.inl k_fraction_n) (by rfl) (by decide) (by decide)) (@pw _ 2 _ _ (Or.inl k_fraction_divisor) (by rfl) (by decide) (by decide))) (@pa_c _ _ _ _ _ (@pe_op _ _ _ _ _ _ _ _ (@op_fdivS _) (@pw _ 1 _ _ (Or.inl k_fraction_d) (by rfl) (by decide) (by decide)) (@pw _ 2 _ _ (Or.inl k_fraction_divisor) (by rfl) (by decide) (by decide))) (@pa_nil _) rfl) rfl)))))),?_⟩
    refine ⟨_,rfl,_,rfl,n,d,rfl,_,rfl,_,_,rfl,rfl,_,rfl,?_⟩
    have g0:=KM.gcd_pos (n:=n) hd
    have gs:=gcdS (n:=n) hd hs
    have kl:=KM.fdiv_low (n:=n) hd
    by_cases h0:d<0
    · rw [decide_eq_true h0]
      rw [if_pos h0] at kl
      have c1:∀x,CDivS x (-((Int.gcd n d:Nat):Int)):=fun x=>⟨by trivial,gs.neg⟩
      refine iteT ⟨_,rfl,_,rfl,_,rfl,_,rfl,_,_,rfl,rfl,c1 n,_,rfl,_,rfl,_,_,rfl,rfl,c1 d,(by show 2≤10000;decide),fun p H1 nw=>?_⟩
      have q:=k p H1
      rw [←kl] at q
      exact q nw
    · rw [decide_eq_false h0]
      rw [if_neg h0] at kl
      have c1:∀x,CDivS x ((Int.gcd n d:Nat):Int):=fun x=>⟨by trivial,gs⟩
      refine iteF ⟨_,rfl,_,rfl,_,_,rfl,rfl,c1 n,_,rfl,_,rfl,_,_,rfl,rfl,c1 d,(by show 2≤10000;decide),fun p H1 nw=>?_⟩
      have q:=k p H1
      rw [←kl] at q
      exact q nw
theorem ok_times (T:Txt K mg):FnOk P w K mg base CX0 3 T.f_times T.d_times ["one", "other"] (spBinA nTim dAdd):=by
  have G_fraction:=ok_fraction (P:=P) (w:=w) (base:=base) T
  refine T.F_times.ok sc_times (fun vs H Q E h=>?_) (fun cdv A outer s H vs Q E hr h=>?_)
  · obtain ⟨a,b,n1,d1,n2,d2,rfl,_⟩:=h
    rfl
  · obtain ⟨a,b,n1,d1,n2,d2,rfl,ha,hb,⟨z1,z2,z3,z4,hd⟩,k⟩:=h
    refine ⟨_,(@pss_one _ _ _ (@ps_ret _ _ _ _ (@pe_call _ _ _ _ _ _ _ _ _ _ _ _ _ _ _ _ G_fraction (hr.mono (by decide)) k_times_fraction T.m_fraction T.F_fraction.kp T.B_fraction .nil (@pass0 _) (@pa_c _ _ _ _ _ (@pe_op _ _ _ _ _ _ _ _ (@op_mulB _) (@pe_ix _ _ _ _ _ _ _ (@ixT_k _ (K) (by rfl)) (@pw _ 0 _ _ (Or.inl k_times_one) (by rfl) (by decide) (by decide)) (@pe_int _ _ _ _) (fun _ _=>rfl)) (@pe_ix _ _ _ _ _ _ _ (@ixT_k _ (K) (by rfl)) (@pw _ 1 _ _ (Or.inl k_times_other) (by rfl) (by decide) (by decide)) (@pe_int _ _ _ _) (fun _ _=>rfl))) (@pa_c _ _ _ _ _ (@pe_op _ _ _ _ _ _ _ _ (@op_mulB _) (@pe_ix _ _ _ _ _ _ _ (@ixT_k _ (K) (by rfl)) (@pw _ 0 _ _ (Or.inl k_times_one) (by rfl) (by decide) (by decide)) (@pe_int _ _ _ _) (fun _ _=>rfl)) (@pe_ix _ _ _ _ _ _ _ (@ixT_k _ (K) (by rfl)) (@pw _ 1 _ _ (Or.inl k_times_other) (by rfl) (by decide) (by decide)) (@pe_int _ _ _ _) (fun _ _=>rfl))) (@pa_nil _) rfl) rfl) (by decide) (by rfl) (by rfl)))),?_⟩
    exact ⟨_,rfl,a,_,_,_,rfl,rfl,SqT.of ha,rfl,_,rfl,b,_,_,_,rfl,rfl,SqT.of hb,rfl,_,_,rfl,rfl,mulS z1 z3,
      _,rfl,a,_,_,_,rfl,rfl,SqT.of ha,rfl,_,rfl,b,_,_,_,rfl,rfl,SqT.of hb,rfl,_,_,rfl,rfl,mulS z2 z4,_,_,rfl,hd,mulS9 z2 z4,k⟩
theorem ok_compared (T:Txt K mg):FnOk P w K mg base CX0 1 T.f_compared T.d_compared ["one", "other"] spCmp:=by
  refine T.F_compared.ok sc_compared (fun vs H Q E h=>?_) (fun cdv A outer s H vs Q E hr h=>?_)
  · obtain ⟨a,b,n1,d1,n2,d2,rfl,_⟩:=h
    rfl
  · obtain ⟨a,b,n1,d1,n2,d2,rfl,ha,hb,z1,z2,z3,z4,k⟩:=h
    refine ⟨_,(@pss_cons _ _ _ _ _ (@ps_set _ _ (2) _ _ _ _ sc_compared.nd rfl (Or.inl k_compared_left) (@pe_op _ _ _ _ _ _ _ _ (@op_mulB _) (@pe_ix _ _ _ _ _ _ _ (@ixT_k _ (K) (by rfl)) (@pw _ 0 _ _ (Or.inl k_compared_one) (by rfl) (by decide) (by decide)) (@pe_int _ _ _ _) (fun _ _=>rfl)) (@pe_ix _ _ _ _ _ _ _ (@ixT_k _ (K) (by rfl)) (@pw _ 1 _ _ (Or.inl k_compared_other) (by rfl) (by decide) (by decide)) (@pe_int _ _ _ _) (fun _ _=>rfl))) (by rfl) (by first | exact .inl rfl | exact .inr rfl | assumption)) (@pss_cons _ _ _ _ _ (@ps_set _ _ (3) _ _ _ _ sc_compared.nd rfl (Or.inl k_compared_right) (@pe_op _ _ _ _ _ _ _ _ (@op_mulB _) (@pe_ix _ _ _ _ _ _ _ (@ixT_k _ (K) (by rfl)) (@pw _ 1 _ _ (Or.inl k_compared_other) (by rfl) (by decide) (by decide)) (@pe_int _ _ _ _) (fun _ _=>rfl)) (@pe_ix _ _ _ _ _ _ _ (@ixT_k _ (K) (by rfl)) (@pw _ 0 _ _ (Or.inl k_compared_one) (by rfl) (by decide) (by decide)) (@pe_int _ _ _ _) (fun _ _=>rfl))) (by rfl) (by first | exact .inl rfl | exact .inr rfl | assumption)) (@pss_cons _ _ _ _ _ (@ps_if _ _ _ _ _ _ _ _ (@pt_cmpR _ _ _ _ _ _ _ _ (@op_lt _) (@pw _ 2 _ _ (Or.inl k_compared_left) (by rfl) (by decide) (by decide)) (@pw _ 3 _ _ (Or.inl k_compared_right) (by rfl) (by decide) (by decide)) (@nomark _ _ (by decide) (by decide))) (@pss_one _ _ _ (@ps_ret _ _ _ _ (@pe_un _ _ _ _ _ _ (@un_neg _) (@pe_int _ _ _ _)))) (@pss_nil _)) (@pss_cons _ _ _ _ _ (@ps_if _ _ _ _ _ _ _ _ (@pt_cmpR _ _ _ _ _ _ _ _ (@op_gt _) (@pw _ 2 _ _ (Or.inl k_compared_left) (by rfl) (by decide) (by decide)) (@pw _ 3 _ _ (Or.inl k_compared_right) (by rfl) (by decide) (by decide)) (@nomark _ _ (by decide) (by decide))) (@pss_one _ _ _ (@ps_ret _ _ _ _ (@pe_int _ _ _ _))) (@pss_nil _)) (@pss_one _ _ _ (@ps_ret _ _ _ _ (@pe_int _ _ _ _))))))),?_⟩
    refine ⟨_,rfl,a,_,_,_,rfl,rfl,SqT.of ha,rfl,_,rfl,b,_,_,_,rfl,rfl,SqT.of hb,rfl,_,_,rfl,rfl,mulS z1 z4,_,rfl,b,_,_,_,rfl,rfl,SqT.of hb,rfl,_,rfl,a,_,_,_,rfl,rfl,SqT.of ha,rfl,_,_,rfl,rfl,mulS z3 z2,
      _,rfl,_,rfl,_,_,rfl,rfl,_,rfl,?_⟩
    unfold cmpI at k
    by_cases h1:n1*d2<n2*d1
    · rw [decide_eq_true h1]
      rw [if_pos h1] at k
      exact iteT ⟨_,rfl,k⟩
    · rw [decide_eq_false h1]
      rw [if_neg h1] at k
      refine iteF ⟨_,rfl,_,rfl,_,_,rfl,rfl,_,rfl,?_⟩
      by_cases h2:n2*d1<n1*d2
      · rw [decide_eq_true h2]
        rw [if_pos h2] at k
        exact iteT k
      · rw [decide_eq_false h2]
        rw [if_neg h2] at k
        exact iteF k
end
end K10
namespace K10
open PySem L2
section
variable {P:Program}{w:World}{K:PySem.W.Frag}{mg:Str→Option Value}{base:Heap}
theorem gcd_log {n d:Int} (hd:d≠0) (h:d.natAbs.log2<9000):CDivB n ((Int.gcd n d:Nat):Int):=by
  have g0:=KM.gcd_pos (n:=n) hd
  refine ⟨by trivial,?_⟩
  have h1:Int.gcd n d≤d.natAbs:=Nat.le_of_dvd (by trivial) (by
    have:((Int.gcd n d:Nat):Int) ∣ d:=Int.gcd_dvd_right ..
    exact Int.ofNat_dvd_left.mp this)
  have h2:d.natAbs<2 ^ 9000:=(Nat.log2_lt (by trivial)).mp h
  rw [Int.natAbs_natCast]
  exact (Nat.log2_lt (by trivial)).mpr (Nat.lt_of_le_of_lt h1 h2)
inductive spFrac_ (vs:List V) (H:Hp) (Q:VK):Prop
  | mk (n d:Int) (h0:vs=[.int n,.int d]) (h1:0<d) (h2:Sz 9000 d) (h3:∀p H',Nw H p (fr (KM.low n d)) H'→Q (.ref p) H')
def spFrac:Sp:=fun vs H Q _=>spFrac_  vs H Q
theorem ok_frac (T:Txt K mg):FnOk P w K mg base CX0 1 T.f_l_frac T.d_l_frac ["_law_n", "_law_d"] spFrac:=by
  refine T.F_l_frac.ok sc_l_frac (fun vs H Q E h=>?_) (fun cdv A outer s H vs Q E hr h=>?_)
  · obtain ⟨n,d,rfl,_⟩:=h
    rfl
  · obtain ⟨n,d,rfl,hd,hs,k⟩:=h
    have hl:=hs.log (Int.ne_of_gt hd)
    refine ⟨_,(@pss_cons _ _ _ _ _ (@ps_par _ _ (2) (3) _ _ _ _ _ _ _ _ _ _ _ rfl sc_l_frac.nd rfl rfl (by decide) k_l_frac_l_one k_l_frac_l_other (@pa_c _ _ _ _ _ (@pe_callB _ _ _ _ _ _ _ _ _ (@call_abs _) k_l_frac_abs T.b_abs (@boot_b_abs) (@pa_c _ _ _ _ _ (@pw _ 0 _ _ (Or.inl k_l_frac_l_n) (by rfl) (by decide) (by decide)) (@pa_nil _) rfl) (by decide) (by decide) (by rfl) (by rfl)) (@pa_c _ _ _ _ _ (@pe_callB _ _ _ _ _ _ _ _ _ (@call_abs _) k_l_frac_abs T.b_abs (@boot_b_abs) (@pa_c _ _ _ _ _ (@pw _ 1 _ _ (Or.inl k_l_frac_l_d) (by rfl) (by decide) (by decide)) (@pa_nil _) rfl) (by decide) (by decide) (by rfl) (by rfl)) (@pa_nil _) rfl) rfl) (by kernel_rfl) (by rfl)) (@pss_cons _ _ _ _ _ (@ps_while _ _ _ _ _ _ PassesOwn.never (@pt_cmpR _ _ _ _ _ _ _ _ (@op_gt _) (@pw _ 3 _ _ (Or.inl k_l_frac_l_other) (by rfl) (by decide) (by decide)) (@pe_int _ _ _ _) (@nomark _ _ (by decide) (by decide))) (@pss_one _ _ _ (@ps_par _ _ (2) (3) _ _ _ _ _ _ _ _ _ _ _ rfl sc_l_frac.nd rfl rfl (by decide) k_l_frac_l_one k_l_frac_l_other (@pa_c _ _ _ _ _ (@pw _ 3 _ _ (Or.inl k_l_frac_l_other) (by rfl) (by decide) (by decide)) (@pa_c _ _ _ _ _ (@pe_op _ _ _ _ _ _ _ _ (@op_mod _) (@pw _ 2 _ _ (Or.inl k_l_frac_l_one) (by rfl) (by decide) (by decide)) (@pw _ 3 _ _ (Or.inl k_l_frac_l_other) (by rfl) (by decide) (by decide))) (@pa_nil _) rfl) rfl) (by kernel_rfl) (by rfl)))) (@pss_cons _ _ _ _ _ (@ps_set _ _ (2) _ _ _ _ sc_l_frac.nd rfl (Or.inl k_l_frac_l_one) (@pe_op _ _ _ _ _ _ _ _ (@op_mul _) (@pw _ 2 _ _ (Or.inl k_l_frac_l_one) (by rfl) (by decide) (by decide)) (@pe_ifExp _ _ _ _ _ _ _ _ (@pt_cmpR _ _ _ _ _ _ _ _ (@op_gt _) (@pw _ 1 _ _ (Or.inl k_l_frac_l_d) (by rfl) (by decide) (by decide)) (@pe_int _ _ _ _) (@nomark _ _ (by decide) (by decide))) (@pe_int _ _ _ _) (@pe_un _ _ _ _ _ _ (@un_neg _) (@pe_int _ _ _ _)))) (by rfl) (by first | exact .inl rfl | exact .inr rfl | assumption)) (@pss_one _ _ _ (@ps_ret _ _ _ _ (@pe_tupA _ _ _ _ _ (@pa_c _ _ _ _ _ (@pe_op _ _ _ _ _ _ _ _ (@op_fdivB _) (@pw _ 0 _ _ (Or.inl k_l_frac_l_n) (by rfl) (by decide) (by decide)) (@pw _ 2 _ _ (Or.inl k_l_frac_l_one) (by rfl) (by decide) (by decide))) (@pa_c _ _ _ _ _ (@pe_op _ _ _ _ _ _ _ _ (@op_fdivB _) (@pw _ 1 _ _ (Or.inl k_l_frac_l_d) (by rfl) (by decide) (by decide)) (@pw _ 2 _ _ (Or.inl k_l_frac_l_one) (by rfl) (by decide) (by decide))) (@pa_nil _) rfl) rfl))))))),?_⟩
    refine ⟨_,rfl,_,rfl,_,rfl,_,rfl,_,_,rfl,?_⟩
    refine ⟨fun m σ H'=>∃a b:Int,σ=[some (.int n),some (.int d),some (.int a),some (.int b)]∧H'=H∧0≤a∧0≤b∧Int.gcd a b=Int.gcd n d∧m=b.natAbs,⟨_,_,_,rfl,rfl,abs_nn n,abs_nn d,KM.gcd_abs n d,rfl⟩,?_⟩
    rintro m σ H' ⟨a,b,rfl,rfl,ha,hb,hg,rfl⟩
    refine ⟨_,rfl,_,_,rfl,rfl,_,rfl,?_⟩
    by_cases hb0:0<b
    · rw [decide_eq_true hb0]
      refine iteT ⟨fun σ' H''=>∃a' b':Int,σ'=[some (.int n),some (.int d),some (.int a'),some (.int b')]∧H''=H'∧0≤a'∧0≤b'∧Int.gcd a' b'=Int.gcd n d∧b'.natAbs<b.natAbs,?_,?_⟩
      · rintro σ' H'' ⟨a',b',rfl,rfl,h0,h1,h2,h3⟩
        exact ⟨_,h3,a',b',rfl,rfl,h0,h1,h2,rfl⟩
      · refine ⟨_,rfl,_,rfl,_,rfl,_,_,rfl,rfl,hb0,_,_,rfl,?_⟩
        have q0:=Int.emod_nonneg a (Int.ne_of_gt hb0)
        have q1:=Int.emod_lt_of_pos a hb0
        exact ⟨b,a % b,rfl,rfl,hb,q0,(KM.gcd_emod a b).trans hg,by trivial⟩
    · have hb1:b=0:=by trivial
      subst hb1
      rw [decide_eq_false hb0]
      refine iteF ?_
      have eg:a=((Int.gcd n d:Nat):Int):=by
        rw [←hg,KM.gcd_zero_abs,if_neg (by trivial)]
      have c1:=gcd_log (n:=n) (Int.ne_of_gt hd) hl
      have c2:=gcd_log (n:=d) (d:=d) (Int.ne_of_gt hd) hl
      rw [←eg] at c1
      refine ⟨_,rfl,_,rfl,_,_,rfl,rfl,_,rfl,?_⟩
      rw [decide_eq_true hd]
      refine iteT ⟨_,_,rfl,rfl,.inr ⟨by decide,by decide⟩,?_⟩
      show gName 2 (V.int (a*1)) _ _ _
      rw [Int.mul_one]
      refine ⟨_,rfl,_,rfl,_,_,rfl,rfl,c1,_,rfl,_,rfl,_,_,rfl,rfl,⟨c1.1,c1.2⟩,(by show 2≤10000;decide),fun p H2 n2=>k p H2 ?_⟩
      unfold KM.low
      rw [if_pos hd,←eg]
      exact n2
theorem ok_any_gain (T:Txt K mg):FnOk P w K mg base CX0 2 T.f_l_any_gain T.d_l_any_gain ["_law_box_here"] (spFrB 6 1):=by
  have G_l_take:=ok_take (P:=P) (w:=w) (base:=base) T
  have G_l_frac:=ok_frac (P:=P) (w:=w) (base:=base) T
  refine T.F_l_any_gain.ok sc_l_any_gain (fun vs H Q E h=>?_) (fun cdv A outer s H vs Q E hr h=>?_)
  · obtain ⟨b,t,rfl,_⟩:=h
    rfl
  · obtain ⟨b,t,rfl,B,ht0,ht1,k⟩:=h
    refine ⟨_,(@pss_cons _ _ _ _ _ (@ps_set _ _ (1) _ _ _ _ sc_l_any_gain.nd rfl (Or.inl k_l_any_gain_l_way) (@pe_call _ _ _ _ _ _ _ _ _ _ _ _ _ _ _ _ G_l_take (hr.mono (by decide)) k_l_any_gain_l_take T.m_l_take T.F_l_take.kp T.B_l_take .nil (@pass0 _) (@pa_c _ _ _ _ _ (@pw _ 0 _ _ (Or.inl k_l_any_gain_l_box_here) (by rfl) (by decide) (by decide)) (@pa_c _ _ _ _ _ (@pe_int _ _ _ _) (@pa_nil _) rfl) rfl) (by decide) (by rfl) (by rfl)) (by rfl) (by first | exact .inl rfl | exact .inr rfl | assumption)) (@pss_cons _ _ _ _ _ (@ps_if _ _ _ _ _ _ _ _ (@pt_cmpR _ _ _ _ _ _ _ _ (@op_lt _) (@pw _ 1 _ _ (Or.inl k_l_any_gain_l_way) (by rfl) (by decide) (by decide)) (@pe_int _ _ _ _) (@nomark _ _ (by decide) (by decide))) (@pss_one _ _ _ (@ps_ret _ _ _ _ (@pe_tupA _ _ _ _ _ (@pa_c _ _ _ _ _ (@pe_int _ _ _ _) (@pa_c _ _ _ _ _ (@pe_int _ _ _ _) (@pa_nil _) rfl) rfl)))) (@pss_nil _)) (@pss_cons _ _ _ _ _ (@ps_set _ _ (2) _ _ _ _ sc_l_any_gain.nd rfl (Or.inl k_l_any_gain_l_top) (@pe_op _ _ _ _ _ _ _ _ (@op_add _) (@pe_int _ _ _ _) (@pe_call _ _ _ _ _ _ _ _ _ _ _ _ _ _ _ _ G_l_take (hr.mono (by decide)) k_l_any_gain_l_take T.m_l_take T.F_l_take.kp T.B_l_take .nil (@pass0 _) (@pa_c _ _ _ _ _ (@pw _ 0 _ _ (Or.inl k_l_any_gain_l_box_here) (by rfl) (by decide) (by decide)) (@pa_c _ _ _ _ _ (@pe_ifExp _ _ _ _ _ _ _ _ (@pt_cmpR _ _ _ _ _ _ _ _ (@op_eq _) (@pw _ 1 _ _ (Or.inl k_l_any_gain_l_way) (by rfl) (by decide) (by decide)) (@pe_int _ _ _ _) (@nomark _ _ (by decide) (by decide))) (@pe_int _ _ _ _) (@pe_int _ _ _ _)) (@pa_nil _) rfl) rfl) (by decide) (by rfl) (by rfl))) (by rfl) (by first | exact .inl rfl | exact .inr rfl | assumption)) (@pss_one _ _ _ (@ps_ret _ _ _ _ (@pe_call _ _ _ _ _ _ _ _ _ _ _ _ _ _ _ _ G_l_frac (hr.mono (by decide)) k_l_any_gain_l_frac T.m_l_frac T.F_l_frac.kp T.B_l_frac .nil (@pass0 _) (@pa_c _ _ _ _ _ (@pw _ 2 _ _ (Or.inl k_l_any_gain_l_top) (by rfl) (by decide) (by decide)) (@pa_c _ _ _ _ _ (@pe_op _ _ _ _ _ _ _ _ (@op_add _) (@pe_int _ _ _ _) (@pe_call _ _ _ _ _ _ _ _ _ _ _ _ _ _ _ _ G_l_take (hr.mono (by decide)) k_l_any_gain_l_take T.m_l_take T.F_l_take.kp T.B_l_take .nil (@pass0 _) (@pa_c _ _ _ _ _ (@pw _ 0 _ _ (Or.inl k_l_any_gain_l_box_here) (by rfl) (by decide) (by decide)) (@pa_c _ _ _ _ _ (@pe_ifExp _ _ _ _ _ _ _ _ (@pt_cmpR _ _ _ _ _ _ _ _ (@op_eq _) (@pw _ 1 _ _ (Or.inl k_l_any_gain_l_way) (by rfl) (by decide) (by decide)) (@pe_int _ _ _ _) (@nomark _ _ (by decide) (by decide))) (@pe_int _ _ _ _) (@pe_int _ _ _ _)) (@pa_nil _) rfl) rfl) (by decide) (by rfl) (by rfl))) (@pa_nil _) rfl) rfl) (by decide) (by rfl) (by rfl))))))),?_⟩
    refine ⟨_,rfl,b,8,t,rfl,B,by decide,by decide,ht0,by trivial,fun wy t1 H1 w0 w1 h1a h1b s1 B1=>?_⟩
    refine ⟨_,rfl,_,_,rfl,rfl,_,rfl,ite2 (fun c=>?_) (fun c=>?_)⟩
    · exact ⟨(by show 2≤10000;decide),fun o H2 n2=>k o _ _ t1 H2 (s1.trans n2.sm.toE) n2.at' (Fb.small (by decide) (by decide) (by decide) (by decide)) (by decide) (B1.same n2.sm) (by trivial) (by trivial)⟩
    have hw:0<(if decide (V.int wy=V.int 7)=true then (60:Int) else 12)∧(if decide (V.int wy=V.int 7)=true then (60:Int) else 12)≤60:=by split <;> decide
    refine ⟨_,rfl,_,rfl,rfl,_,rfl,ifC ?_⟩
    refine ⟨b,_,t1,rfl,B1,hw.1,log9 hw.1 (by trivial),by trivial,by trivial,fun r2 t2 H2 a20 a21 _ _ s2 B2=>⟨_,_,rfl,rfl,_,rfl,_,rfl,_,rfl,rfl,_,rfl,ifC ?_⟩⟩
    refine ⟨b,_,t2,rfl,B2,hw.1,log9 hw.1 (by trivial),by trivial,by trivial,fun r3 t3 H3 a30 a31 _ _ s3 B3=>⟨_,_,rfl,rfl,?_⟩⟩
    have f:=low_fb6 (n:=1+r2) (d:=1+r3) (by trivial) (by trivial) (by trivial) (by trivial)
    exact ⟨_,_,rfl,by trivial,Sz.mono (m:=40) (by show (1+r3).natAbs<1099511627776;trivial) (by decide),fun o H4 n4=>k o _ _ t3 H4 (((s1.trans s2).trans s3).trans n4.sm.toE) n4.at' f.1 f.2 (B3.same n4.sm) (by trivial) (by trivial)⟩
end
end K10
namespace K10
open PySem L2
def nmX (d1 d2 k:Nat):List Nat:=if k<8 then nm d1 k else List.replicate (k - 7) d2++[d1]
theorem nmX_nodup {d1 d2:Nat} (hd:d1≠d2) {n:Nat} (hn:n≤10):((List.range n).map (nmX d1 d2)).Nodup:=by
  have all:∀a b:Nat,a<10→b<10→nmX d1 d2 a=nmX d1 d2 b→a=b:=fun a b ha hb h=>by
    have hl:=congrArg List.length h
    have hh:=congrArg List.head? h
    unfold nmX nm at hl hh
    have r:∀m x:Nat,0<m→(List.replicate m x).head?=some x:=fun m x hm=>by
      cases m with
      | zero=>trivial
      | succ m=>rfl
    have r2:∀(m x:Nat) (l:List Nat),0<m→(List.replicate m x++l).head?=some x:=fun m x l hm=>by
      cases m with
      | zero=>trivial
      | succ m=>rfl
    by_cases c1:a<8 <;> by_cases c2:b<8
    · simp [c1,c2] at hl;exact hl
    · rw [if_pos c1,if_neg c2,r _ _ (by trivial),r2 _ _ _ (by trivial)] at hh
      exact absurd (Option.some.inj hh) hd
    · rw [if_neg c1,if_pos c2,r _ _ (by trivial),r2 _ _ _ (by trivial)] at hh
      exact absurd (Option.some.inj hh).symm hd
    · simp [c1,c2] at hl;trivial
  rw [List.nodup_iff_pairwise_ne,List.pairwise_map]
  refine List.Pairwise.imp_of_mem (fun {a b} ha hb hab z=>?_) (List.nodup_iff_pairwise_ne.mp List.nodup_range)
  exact hab (all a b (by have:=List.mem_range.mp ha;trivial) (by have:=List.mem_range.mp hb;trivial) z)
theorem nmX_ok {d1 d2 k:Nat} (hk:k<10) (h1:97≤d1) (h2:d1≤122) (h3:97≤d2) (h4:d2≤122):NameC (nmX d1 d2 k):=by
  unfold nmX
  by_cases c:k<8
  · rw [if_pos c];exact nm_ok c h1 h2
  · rw [if_neg c]
    refine ⟨by simp,by simp;trivial,fun x hx=>?_⟩
    rcases List.mem_append.mp hx with q | q
    · rw [(List.mem_replicate.mp q).2];exact ⟨h3,h4⟩
    · rw [List.mem_singleton.mp q];exact ⟨h1,h2⟩
section
variable {P:Program}{w:World}{K:PySem.W.Frag}{mg:Str→Option Value}{base:Heap}
inductive spNamesT_ (vs:List V) (H:Hp) (Q:VK):Prop
  | mk (b:Addr) (many t:Int) (h0:vs=[.ref b,.int many]) (h1:Bx H b t) (h2:0≤t) (h3:t≤900000) (h4:1≤many) (h5:many≤10) (h6:∀q ls t' H',SameE (Eb b) H H'→H' q=some (.tup ((ls:List (List Nat)).map strV))→ls.length=many.toNat→ls.Nodup→(∀l∈ls,NameC l)→Bx H' b t'→t≤t'→t'≤t+12→Q (.ref q) H')
def spNamesT:Sp:=fun vs H Q _=>spNamesT_  vs H Q
theorem ok_names_by (T:Txt K mg):FnOk P w K mg base CX0 2 T.f_l_names_by T.d_l_names_by ["_law_box_here", "_law_many"] spNamesT:=by
  have G_l_take:=ok_take (P:=P) (w:=w) (base:=base) T
  refine T.F_l_names_by.ok sc_l_names_by (fun vs H Q E h=>?_) (fun cdv A outer s H vs Q E hr h=>?_)
  · obtain ⟨b,many,t,rfl,_⟩:=h
    rfl
  · obtain ⟨b,many,t,rfl,B,ht0,ht1,hm1,hm2,k⟩:=h
    refine ⟨_,(@pss_cons _ _ _ _ _ (@ps_asg _ _ _ _ _ _ (@pe_tupA _ _ _ _ _ (@pa_c _ _ _ _ _ (@pe_str _ _ _ _) (@pa_c _ _ _ _ _ (@pe_call _ _ _ _ _ _ _ _ _ _ _ _ _ _ _ _ G_l_take (hr.mono (by decide)) k_l_names_by_l_take T.m_l_take T.F_l_take.kp T.B_l_take .nil (@pass0 _) (@pa_c _ _ _ _ _ (@pw _ 0 _ _ (Or.inr (Or.inl k_l_names_by_l_box_here)) (by rfl) (by decide) (by decide)) (@pa_c _ _ _ _ _ (@pe_int _ _ _ _) (@pa_nil _) rfl) rfl) (by decide) (by rfl) (by rfl)) (@pa_c _ _ _ _ _ (@pe_call _ _ _ _ _ _ _ _ _ _ _ _ _ _ _ _ G_l_take (hr.mono (by decide)) k_l_names_by_l_take T.m_l_take T.F_l_take.kp T.B_l_take .nil (@pass0 _) (@pa_c _ _ _ _ _ (@pw _ 0 _ _ (Or.inr (Or.inl k_l_names_by_l_box_here)) (by rfl) (by decide) (by decide)) (@pa_c _ _ _ _ _ (@pe_int _ _ _ _) (@pa_nil _) rfl) rfl) (by decide) (by rfl) (by rfl)) (@pa_nil _) rfl) rfl) rfl)) (@pg_tup_k _ (K) _ _ _ _ (3) rfl (@pgs_cons _ _ _ _ _ (@pg_name _ _ (2) _ sc_l_names_by.nd rfl (Or.inr k_l_names_by_l_letters) (by first | exact .inl rfl | exact .inr rfl | assumption)) (@pgs_cons _ _ _ _ _ (@pg_name _ _ (3) _ sc_l_names_by.nd rfl (Or.inr k_l_names_by_l_first) (by first | exact .inl rfl | exact .inr rfl | assumption)) (@pgs_cons _ _ _ _ _ (@pg_name _ _ (4) _ sc_l_names_by.nd rfl (Or.inl k_l_names_by_l_rest) (by first | exact .inl rfl | exact .inr rfl | assumption)) (@pgs_nil _) (by rfl)) (by rfl)) (by rfl)) (by rfl) (by rfl) (by rfl)) (by rfl) (by rfl) (by rfl)) (@pss_cons _ _ _ _ _ (@ps_set _ _ (5) _ _ _ _ sc_l_names_by.nd rfl (Or.inr k_l_names_by_l_behind) (@pe_bm_k _ (K) _ _ _ _ _ _ _ _ _ _ _ PySem.F.plainAttrs_str PySem.F.slot_str_join PySem.F.type_str_join (@mt_join _ (K) (by rfl)) (@pe_str _ _ _ _) (@pa_c _ _ _ _ _ (@pe_comp _ _ _ _ _ _ _ (["_law_k", "_law_box_here", "_law_letters"]) (1) ([0,2]) _ _ _ _ rfl (by kernel_rfl) (@pi_range1 _ _ _ _ _ _ k_l_names_by_range T.b_range (@pa_c _ _ _ _ _ (@pw _ 4 _ _ (Or.inl k_l_names_by_l_rest) (by rfl) (by decide) (by decide)) (@pa_nil _) rfl) (by rfl)) (fun _ _ _ _ _ _=>(@pg_name _ _ (0) _ (@nodupS _ (by kernel_rfl)) rfl (Or.inl (by kernel_rfl)) (by first | exact .inl rfl | exact .inr rfl | assumption))) (fun _ _ _ _ _ _=>@pifs_nil _) (fun _ _ _ _ _ _=>(@pe_ix _ _ _ _ _ _ _ (@ix_str _) (@pw _ 2 _ _ (Or.inr (Or.inl (by kernel_rfl))) (by rfl) (by decide) (by decide)) (@pe_call _ _ _ _ _ _ _ _ _ _ _ _ _ _ _ _ G_l_take (hr.mono (by decide)) (by show _=_;kernel_rfl) T.m_l_take T.F_l_take.kp T.B_l_take .nil (@pass0 _) (@pa_c _ _ _ _ _ (@pw _ 1 _ _ (Or.inr (Or.inl (by kernel_rfl))) (by rfl) (by decide) (by decide)) (@pa_c _ _ _ _ _ (@pe_int _ _ _ _) (@pa_nil _) rfl) rfl) (by decide) (by rfl) (by rfl)) (fun _ _=>rfl))) (by intro _;rfl)) (@pa_nil _) rfl) (by rfl) (by rfl) (by rfl) (by rfl) (by rfl) (by rfl)) (by rfl) (by first | exact .inl rfl | exact .inr rfl | assumption)) (@pss_cons _ _ _ _ _ (@ps_if _ _ _ _ _ _ _ _ (@pt_cmpR _ _ _ _ _ _ _ _ (@op_eq _) (@pe_call _ _ _ _ _ _ _ _ _ _ _ _ _ _ _ _ G_l_take (hr.mono (by decide)) k_l_names_by_l_take T.m_l_take T.F_l_take.kp T.B_l_take .nil (@pass0 _) (@pa_c _ _ _ _ _ (@pw _ 0 _ _ (Or.inr (Or.inl k_l_names_by_l_box_here)) (by rfl) (by decide) (by decide)) (@pa_c _ _ _ _ _ (@pe_int _ _ _ _) (@pa_nil _) rfl) rfl) (by decide) (by rfl) (by rfl)) (@pe_int _ _ _ _) (@nomark _ _ (by decide) (by decide))) (@pss_cons _ _ _ _ _ (@ps_asg _ _ _ _ _ _ (@pe_ix _ _ _ _ _ _ _ (@ixL_k _ (K) (by rfl)) (@pe_lstA _ _ _ _ (@pa_c _ _ _ _ _ (@pe_tupA _ _ _ _ _ (@pa_c _ _ _ _ _ (@pe_str _ _ _ _) (@pa_c _ _ _ _ _ (@pe_str _ _ _ _) (@pa_nil _) rfl) rfl)) (@pa_c _ _ _ _ _ (@pe_tupA _ _ _ _ _ (@pa_c _ _ _ _ _ (@pe_str _ _ _ _) (@pa_c _ _ _ _ _ (@pe_str _ _ _ _) (@pa_nil _) rfl) rfl)) (@pa_nil _) rfl) rfl)) (@pe_callTy _ _ _ _ _ _ _ _ _ (@call_int1 _) k_l_names_by_int T.b_int (@boot_ty_int) (@pa_c _ _ _ _ _ (@pe_cmpR _ _ _ _ _ _ _ _ (@op_eq _) (@pw _ 3 _ _ (Or.inr (Or.inl k_l_names_by_l_first)) (by rfl) (by decide) (by decide)) (@pe_int _ _ _ _) (@nomark _ _ (by decide) (by decide))) (@pa_nil _) rfl) (by decide) (by decide) (by rfl) (by rfl)) (fun _ _=>rfl)) (@pg_tup_k _ (K) _ _ _ _ (2) rfl (@pgs_cons _ _ _ _ _ (@pg_name _ _ (6) _ sc_l_names_by.nd rfl (Or.inr k_l_names_by_l_sign) (by first | exact .inl rfl | exact .inr rfl | assumption)) (@pgs_cons _ _ _ _ _ (@pg_name _ _ (7) _ sc_l_names_by.nd rfl (Or.inr k_l_names_by_l_other) (by first | exact .inl rfl | exact .inr rfl | assumption)) (@pgs_nil _) (by rfl)) (by rfl)) (by rfl) (by rfl) (by rfl)) (by rfl) (by rfl) (by rfl)) (@pss_one _ _ _ (@ps_ret _ _ _ _ (@pe_callTy _ _ _ _ _ _ _ _ _ (@call_tuple_ofA _ (K) (by rfl)) k_l_names_by_tuple T.b_tuple (@boot_ty_tuple) (@pa_c _ _ _ _ _ (@pe_comp _ _ _ _ _ _ _ (["_law_k", "_law_other", "_law_sign"]) (1) ([7,6]) _ _ _ _ rfl (by kernel_rfl) (@pi_range1 _ _ _ _ _ _ k_l_names_by_range T.b_range (@pa_c _ _ _ _ _ (@pw _ 1 _ _ (Or.inl k_l_names_by_l_many) (by rfl) (by decide) (by decide)) (@pa_nil _) rfl) (by rfl)) (fun _ _ _ _ _ _=>(@pg_name _ _ (0) _ (@nodupS _ (by kernel_rfl)) rfl (Or.inl (by kernel_rfl)) (by first | exact .inl rfl | exact .inr rfl | assumption))) (fun _ _ _ _ _ _=>@pifs_nil _) (fun _ _ _ _ _ _=>(@pe_ifExp _ _ _ _ _ _ _ _ (@pt_cmpR _ _ _ _ _ _ _ _ (@op_lt _) (@pw _ 0 _ _ (Or.inl (by kernel_rfl)) (by rfl) (by decide) (by decide)) (@pe_int _ _ _ _) (@nomark _ _ (by decide) (by decide))) (@pe_op _ _ _ _ _ _ _ _ (@op_mulS _) (@pw _ 2 _ _ (Or.inr (Or.inl (by kernel_rfl))) (by rfl) (by decide) (by decide)) (@pe_op _ _ _ _ _ _ _ _ (@op_add _) (@pw _ 0 _ _ (Or.inl (by kernel_rfl)) (by rfl) (by decide) (by decide)) (@pe_int _ _ _ _))) (@pe_op _ _ _ _ _ _ _ _ (@op_addS _) (@pe_op _ _ _ _ _ _ _ _ (@op_mulS _) (@pw _ 1 _ _ (Or.inr (Or.inl (by kernel_rfl))) (by rfl) (by decide) (by decide)) (@pe_op _ _ _ _ _ _ _ _ (@op_sub _) (@pw _ 0 _ _ (Or.inl (by kernel_rfl)) (by rfl) (by decide) (by decide)) (@pe_int _ _ _ _))) (@pw _ 2 _ _ (Or.inr (Or.inl (by kernel_rfl))) (by rfl) (by decide) (by decide))))) (by intro _;rfl)) (@pa_nil _) rfl) (by decide) (by decide) (by rfl) (by rfl))))) (@pss_nil _)) (@pss_one _ _ _ (@ps_ret _ _ _ _ (@pe_callTy _ _ _ _ _ _ _ _ _ (@call_tuple_ofA _ (K) (by rfl)) k_l_names_by_tuple T.b_tuple (@boot_ty_tuple) (@pa_c _ _ _ _ _ (@pe_comp _ _ _ _ _ _ _ (["_law_k", "_law_behind", "_law_first", "_law_letters"]) (1) ([5,3,2]) _ _ _ _ rfl (by kernel_rfl) (@pi_range1 _ _ _ _ _ _ k_l_names_by_range T.b_range (@pa_c _ _ _ _ _ (@pw _ 1 _ _ (Or.inl k_l_names_by_l_many) (by rfl) (by decide) (by decide)) (@pa_nil _) rfl) (by rfl)) (fun _ _ _ _ _ _=>(@pg_name _ _ (0) _ (@nodupS _ (by kernel_rfl)) rfl (Or.inl (by kernel_rfl)) (by first | exact .inl rfl | exact .inr rfl | assumption))) (fun _ _ _ _ _ _=>@pifs_nil _) (fun _ _ _ _ _ _=>(@pe_op _ _ _ _ _ _ _ _ (@op_addS _) (@pe_ix _ _ _ _ _ _ _ (@ix_str _) (@pw _ 3 _ _ (Or.inr (Or.inl (by kernel_rfl))) (by rfl) (by decide) (by decide)) (@pe_op _ _ _ _ _ _ _ _ (@op_mod _) (@pe_op _ _ _ _ _ _ _ _ (@op_add _) (@pw _ 2 _ _ (Or.inr (Or.inl (by kernel_rfl))) (by rfl) (by decide) (by decide)) (@pe_op _ _ _ _ _ _ _ _ (@op_mul _) (@pe_int _ _ _ _) (@pw _ 0 _ _ (Or.inl (by kernel_rfl)) (by rfl) (by decide) (by decide)))) (@pe_int _ _ _ _)) (fun _ _=>rfl)) (@pw _ 1 _ _ (Or.inr (Or.inl (by kernel_rfl))) (by rfl) (by decide) (by decide)))) (by intro _;rfl)) (@pa_nil _) rfl) (by decide) (by decide) (by rfl) (by rfl))))))),?_⟩
    have hz:(Str.ofString "abcdefghijklmnopqrstuvwxyz").length≤sizeLine:=by decide +kernel
    refine ⟨_,rfl,b,26,t,rfl,B,by decide,by decide,ht0,by trivial,fun f t1 H1 f0 f1 h1a h1b s1 B1=>⟨_,rfl,b,8,t1,rfl,B1,by decide,by decide,by trivial,by trivial,fun r t2 H2 r0 r1 h2a h2b s2 B2=>⟨(by show 3≤10000;decide),fun q H3 n3=>⟨q,_,rfl,SqT.of n3.at',rfl,_,_,rfl,_,_,rfl,_,_,rfl,rfl,?_⟩⟩⟩⟩
    have B3:=B2.same n3.sm
    have s03:=(s1.trans s2).trans n3.sm.toE
    refine ⟨rfl,_,rfl,_,rfl,by trivial,by trivial,fun D2 hD2=>comp_each (n:=r.toNat) (fun i H' ys=>Ex2 fun (cs:List Nat) (t':Int)=>ys=cs.map (fun c=>strV [c])∧H' D2=some (.lst ys)∧cs.length=i∧(∀c∈cs,97≤c∧c≤122)∧Bx H' b t'∧t2≤t'∧t'≤t2+i∧SameE (Eb b) H3 H') ?_ ?_ ?_ ?_ ?_ ?_ ?_⟩
    · rw [sizeLine_eq];trivial
    · exact ⟨[],t2,rfl,upd_same,rfl,fun c h=>(by cases h),B3.same (Same.new hD2),by trivial,by trivial,(Same.new hD2).toE⟩
    · rintro i' H'' ys ⟨cs,t7,rfl,e,rfl,_⟩
      exact ⟨e,by simp⟩
    · intro i' H'' ys hi' _
      exact hi'
    · intro H'' ys _
      exact Nat.le_refl _
    · have nD2:¬D2=b:=fun z=>B3.ne hD2 z.symm
      rintro i' Ha ys x Hb hi' ⟨cs,t7,rfl,g1,g2,g3,g4,g5,g6,g7⟩ ⟨rfl,rfl⟩
      refine ⟨back1,_,rfl,_,rfl,b,26,t7,rfl,g4,by decide,by decide,by trivial,by trivial,fun r8 t8 Hc r80 r81 _ _ jc Cc=>⟨_,_,_,rfl,rfl,hz,letter_at (by trivial) (by trivial),?_⟩⟩
      have eD:=jc.old D2 _ nD2 g1
      refine ⟨eD,cs++[97+(r8 % 26).toNat],t8,by rw [List.map_append];rfl,upd_same,by rw [List.length_append,g2];rfl,fun c hc=>?_,?_,by trivial,by trivial,(g7.trans jc).up hD2⟩
      · rcases List.mem_append.mp hc with h | h
        · exact g3 c h
        · rw [List.mem_singleton.mp h];trivial
      · have c':Ch Hc D2 (cs.map (fun c=>strV [c])++[strV [97+(r8 % 26).toNat]]) _:=Ch.mk'
        exact Cc.ch c' (Ne.symm nD2)
    rintro J4 ys ⟨cs,t7,rfl,g1,g2,g3,C4,g5,g6,j4⟩
    refine ⟨D2,cs.map (fun c=>[c]),?_,rfl,SqL.of (by rw [g1,List.map_map];rfl),?_,?_⟩
    · rw [show (Str.ofString "")=S [] from empty_eq]
    · rw [List.map_map]
      have:(cs.map ((fun l:List Nat=>l.length) ∘ fun c=>[c])).sum=cs.length:=by
        clear g1 g2 g3 j4
        induction cs with
        | nil=>rfl
        | cons c r ih=>simp at ih ⊢;trivial
      rw [this];trivial
    have fl:(cs.map (fun c=>[c])).flatten=cs:=by
      clear g1 g2 g3 j4
      induction cs with
      | nil=>rfl
      | cons c r ih=>rw [List.map_cons,List.flatten_cons,ih];rfl
    rw [fl]
    have s04:=s03.trans j4
    refine ⟨_,rfl,b,4,t7,rfl,C4,by decide,by decide,by trivial,by trivial,fun r9 t9 H9 r90 r91 _ _ s9 B9=>⟨rfl,_,rfl,?_⟩⟩
    have s09:=s04.trans s9
    refine ite2 (fun c1=>?_) (fun c1=>?_)
    · -- rows of one letter
      refine ⟨(by show 2≤10000;decide),fun u1 J1 e1=>⟨(by show 2≤10000;decide),fun u2 J2 e2=>⟨(by show 2≤10000;decide),fun u3 J3 e3=>⟨_,rfl,rfl,.inr ⟨_,rfl,?_⟩⟩⟩⟩⟩
      have ea:Str.ofString "a" = S [97]:=by decide +kernel
      have ez:Str.ofString "z" = S [122]:=by decide +kernel
      generalize decide (V.int f=V.int 25)=cc
      obtain ⟨u,d1,d2,eu,hu,hd⟩:Ex3 fun u d1 d2=>atI [V.ref u1,V.ref u2] (if cc=true then 1 else 0)=some (.ref u)∧J3 u=some (.tup [strV [d1],strV [d2]])∧97≤d1∧d1≤122∧d1≠d2∧97≤d2∧d2≤122:=by
        cases cc with
        | true=>exact ⟨u2,122,97,rfl,by rw [e3.sm _ _ e2.at',ea,ez],by decide,by decide,by decide,by decide,by decide⟩
        | false=>exact ⟨u1,97,122,rfl,by rw [e3.sm _ _ (e2.sm _ _ e1.at'),ea,ez],by decide,by decide,by decide,by decide,by decide⟩
      refine ⟨u3,_,_,_,rfl,rfl,SqL.of e3.at',eu,u,_,rfl,SqT.of hu,rfl,_,_,rfl,_,_,rfl,rfl,?_⟩
      have sJ:=((e1.sm.trans e2.sm).trans e3.sm)
      have BJ:=B9.same sJ
      refine ⟨_,rfl,_,rfl,by trivial,by trivial,fun D hD=>comp_each (n:=many.toNat) (fun i H' ys=>ys=(List.range i).map (fun k=>strV (nmX d1 d2 k))∧H' D=some (.lst ys)∧Same J3 H') ?_ ⟨rfl,upd_same,same_lst hD (Same.refl _)⟩ ?_ ?_ ?_ ?_ ?_⟩
      · rw [sizeLine_eq];trivial
      · rintro i H' ys ⟨rfl,e,_⟩
        exact ⟨e,by simp⟩
      · intro i H' ys hi _
        exact hi
      · intro H' ys _
        exact Nat.le_refl _
      · rintro i H' ys x H'' hi ⟨g1,g2,g3⟩ ⟨rfl,rfl⟩
        refine ⟨back1,_,rfl,_,_,rfl,rfl,_,rfl,ite2 (fun z=>?_) (fun z=>?_)⟩
        · have hi8 : i < 8 := by have:(0:Int)+(i:Int)<8:=of_decide_eq_true z
                                 trivial
          refine ⟨_,rfl,_,rfl,_,_,rfl,rfl,[d1],_,rfl,rfl,by trivial,by trivial,(by show 1≤100;decide),?_⟩
          have en:(List.replicate (0+(i:Int)+1).toNat [d1]).flatten=nmX d1 d2 i:=by
            rw [rep1]
            unfold nmX nm
            rw [if_pos hi8]
            congr 1
            trivial
          rw [en]
          refine ⟨g2,?_,upd_same,same_lst hD g3⟩
          rw [g1,List.range_succ,List.map_append];rfl
        · have hi8:¬i<8:=fun q=>z (decide_eq_true (show (0:Int)+(i:Int)<8 by trivial))
          refine ⟨_,rfl,_,rfl,_,_,rfl,rfl,[d2],_,rfl,rfl,by trivial,by trivial,(by show 1≤100;decide),_,rfl,_,_,rfl,rfl,?_,?_⟩
          · rw [rep1,List.length_replicate];simp;trivial
          have en:(List.replicate (0+(i:Int) - 7).toNat [d2]).flatten++[d1]=nmX d1 d2 i:=by
            rw [rep1]
            unfold nmX
            rw [if_neg hi8]
            congr 2
            trivial
          rw [en]
          refine ⟨g2,?_,upd_same,same_lst hD g3⟩
          rw [g1,List.range_succ,List.map_append];rfl
      rintro H4 ys1 ⟨ey1,eD1,s4⟩
      subst ey1
      refine ⟨D,_,rfl,SqL.of eD1,fun q5 H5 n5=>k q5 ((List.range many.toNat).map (nmX d1 d2)) t9 H5 (((s09.trans sJ.toE).trans s4.toE).trans n5.sm.toE) ?_ (by simp) (nmX_nodup hd.2.2.1 (by trivial)) ?_ ((BJ.same s4).same n5.sm) (by trivial) (by trivial)⟩
      · rw [n5.at',List.map_map];rfl
      · intro l hl
        obtain ⟨j,hj,rfl⟩:=List.mem_map.mp hl
        exact nmX_ok (by have:=List.mem_range.mp hj;trivial) hd.1 hd.2.1 hd.2.2.2.1 hd.2.2.2.2
    · -- letters of eleven steps
      refine ⟨_,rfl,_,rfl,by trivial,by trivial,fun D hD=>comp_each (n:=many.toNat) (fun i H' ys=>ys=(List.range i).map (fun (k:Nat)=>strV ((97+((f+11*(k:Int)) % 26).toNat) :: cs))∧H' D=some (.lst ys)∧Same H9 H') ?_ ⟨rfl,upd_same,same_lst hD (Same.refl _)⟩ ?_ ?_ ?_ ?_ ?_⟩
      · rw [sizeLine_eq];trivial
      · rintro i H' ys ⟨rfl,e,_⟩
        exact ⟨e,by simp⟩
      · intro i H' ys hi _
        exact hi
      · intro H' ys _
        exact Nat.le_refl _
      · rintro i H' ys x H'' hi ⟨g1',g2',g3'⟩ ⟨rfl,rfl⟩
        refine ⟨back1,_,rfl,_,rfl,_,rfl,_,_,rfl,rfl,.inl ⟨by decide,by decide⟩,_,_,rfl,rfl,_,_,rfl,rfl,(by show (0:Int)<26;decide),_,_,_,rfl,rfl,hz,letter_at (by trivial) (by trivial),_,rfl,[97+(((f+11*(0+(i:Int))) % 26) % 26).toNat],cs,rfl,rfl,?_,?_⟩
        · simp;trivial
        refine ⟨g2',?_,upd_same,same_lst hD g3'⟩
        rw [g1',List.range_succ,List.map_append]
        congr 1
        show [strV ([97+(((f+11*(0+(i:Int))) % 26) % 26).toNat]++cs)]=[strV ((97+((f+11*(i:Int)) % 26).toNat) :: cs)]
        have:(((f+11*(0+(i:Int))) % 26) % 26).toNat=((f+11*(i:Int)) % 26).toNat:=by trivial
        rw [this];rfl
      rintro H4 ys1 ⟨ey1,eD1,s4⟩
      subst ey1
      refine ⟨D,_,rfl,SqL.of eD1,fun q5 H5 n5=>k q5 ((List.range many.toNat).map (fun (k:Nat)=>(97+((f+11*(k:Int)) % 26).toNat) :: cs)) t9 H5 ((s09.trans s4.toE).trans n5.sm.toE) ?_ (by simp) (heads_nodup (f:=f) (by simp;trivial) ?_) ?_ ((B9.same s4).same n5.sm) (by trivial) (by trivial)⟩
      · rw [n5.at',List.map_map];rfl
      · intro j l hl
        rw [List.getElem?_map] at hl
        obtain ⟨j',hj',rfl⟩:=Option.map_eq_some_iff.mp hl
        obtain ⟨hlt,ej⟩:=List.getElem?_eq_some_iff.mp hj'
        rw [List.getElem_range] at ej
        subst ej
        rfl
      · intro l hl
        obtain ⟨j,hj,rfl⟩:=List.mem_map.mp hl
        refine ⟨by simp,by simp;trivial,fun c hc=>?_⟩
        rcases List.mem_cons.mp hc with h | h
        · rw [h];trivial
        · exact g3 c h
end
end K10
namespace K10
open PySem L2
section
variable {P:Program}{w:World}{K:PySem.W.Frag}{mg:Str→Option Value}{base:Heap}
inductive spG2_ (g:KM.Fra→KM.Fra→KM.Fra) (z:Bool) (vs:List V) (H:Hp) (Q:VK):Prop
  | mk (a b:Addr) (p q:KM.Fra) (c1 d1 c2 d2:Nat) (h0:vs=[.ref a,.ref b]) (h1:H a=some (fr p)) (h2:H b=some (fr q)) (h3:Gb c1 d1 p) (h4:Gb c2 d2 q) (h5:c1≤4000) (h6:d1≤4000) (h7:c2≤4000) (h8:d2≤4000) (h9:(z=true→1≤q.1)) (h10:∀o H',Nw H o (fr (g p q)) H'→Q (.ref o) H')
def spG2 (g:KM.Fra→KM.Fra→KM.Fra) (z:Bool):Sp:=fun vs H Q _=>spG2_ g z vs H Q
theorem ok_l_product (T:Txt K mg):FnOk P w K mg base CX0 2 T.f_l_product T.d_l_product ["_law_one", "_law_other"] (spG2 KM.lTim false):=by
  have G_l_frac:=ok_frac (P:=P) (w:=w) (base:=base) T
  refine T.F_l_product.ok sc_l_product (fun vs H Q E h=>?_) (fun cdv A outer s H vs Q E hr h=>?_)
  · obtain ⟨a,b,p,q,c1,d1,c2,d2,rfl,_⟩:=h
    rfl
  · obtain ⟨a,b,p,q,c1,d1,c2,d2,rfl,ha,hb,fp,fq,h1,h2,h3,h4,_,k⟩:=h
    obtain ⟨z1,z2,z3,z4⟩:Sz 4000 p.1∧Sz 4000 p.2∧Sz 4000 q.1∧Sz 4000 q.2:=⟨fp.n.mono h1,fp.d.mono h2,fq.n.mono h3,fq.d.mono h4⟩
    refine ⟨_,(@pss_one _ _ _ (@ps_ret _ _ _ _ (@pe_call _ _ _ _ _ _ _ _ _ _ _ _ _ _ _ _ G_l_frac (hr.mono (by decide)) k_l_product_l_frac T.m_l_frac T.F_l_frac.kp T.B_l_frac .nil (@pass0 _) (@pa_c _ _ _ _ _ (@pe_op _ _ _ _ _ _ _ _ (@op_mulB _) (@pe_ix _ _ _ _ _ _ _ (@ixT_k _ (K) (by rfl)) (@pw _ 0 _ _ (Or.inl k_l_product_l_one) (by rfl) (by decide) (by decide)) (@pe_int _ _ _ _) (fun _ _=>rfl)) (@pe_ix _ _ _ _ _ _ _ (@ixT_k _ (K) (by rfl)) (@pw _ 1 _ _ (Or.inl k_l_product_l_other) (by rfl) (by decide) (by decide)) (@pe_int _ _ _ _) (fun _ _=>rfl))) (@pa_c _ _ _ _ _ (@pe_op _ _ _ _ _ _ _ _ (@op_mulB _) (@pe_ix _ _ _ _ _ _ _ (@ixT_k _ (K) (by rfl)) (@pw _ 0 _ _ (Or.inl k_l_product_l_one) (by rfl) (by decide) (by decide)) (@pe_int _ _ _ _) (fun _ _=>rfl)) (@pe_ix _ _ _ _ _ _ _ (@ixT_k _ (K) (by rfl)) (@pw _ 1 _ _ (Or.inl k_l_product_l_other) (by rfl) (by decide) (by decide)) (@pe_int _ _ _ _) (fun _ _=>rfl))) (@pa_nil _) rfl) rfl) (by decide) (by rfl) (by rfl)))),?_⟩
    exact ⟨_,rfl,a,_,_,_,rfl,rfl,SqT.of ha,rfl,_,rfl,b,_,_,_,rfl,rfl,SqT.of hb,rfl,_,_,rfl,rfl,mulS z1 z3,
      _,rfl,a,_,_,_,rfl,rfl,SqT.of ha,rfl,_,rfl,b,_,_,_,rfl,rfl,SqT.of hb,rfl,_,_,rfl,rfl,mulS z2 z4,_,_,rfl,Int.mul_pos (by have:=fp.pos;trivial) (by have:=fq.pos;trivial),mulS9 z2 z4,fun o H' n=>k o H' n⟩
theorem ok_l_over (T:Txt K mg):FnOk P w K mg base CX0 2 T.f_l_over T.d_l_over ["_law_one", "_law_other"] (spG2 lOvr true):=by
  have G_l_frac:=ok_frac (P:=P) (w:=w) (base:=base) T
  refine T.F_l_over.ok sc_l_over (fun vs H Q E h=>?_) (fun cdv A outer s H vs Q E hr h=>?_)
  · obtain ⟨a,b,p,q,c1,d1,c2,d2,rfl,_⟩:=h
    rfl
  · obtain ⟨a,b,p,q,c1,d1,c2,d2,rfl,ha,hb,fp,fq,h1,h2,h3,h4,hz,k⟩:=h
    have hq:=hz rfl
    obtain ⟨z1,z2,z3,z4⟩:Sz 4000 p.1∧Sz 4000 p.2∧Sz 4000 q.1∧Sz 4000 q.2:=⟨fp.n.mono h1,fp.d.mono h2,fq.n.mono h3,fq.d.mono h4⟩
    refine ⟨_,(@pss_one _ _ _ (@ps_ret _ _ _ _ (@pe_call _ _ _ _ _ _ _ _ _ _ _ _ _ _ _ _ G_l_frac (hr.mono (by decide)) k_l_over_l_frac T.m_l_frac T.F_l_frac.kp T.B_l_frac .nil (@pass0 _) (@pa_c _ _ _ _ _ (@pe_op _ _ _ _ _ _ _ _ (@op_mulB _) (@pe_ix _ _ _ _ _ _ _ (@ixT_k _ (K) (by rfl)) (@pw _ 0 _ _ (Or.inl k_l_over_l_one) (by rfl) (by decide) (by decide)) (@pe_int _ _ _ _) (fun _ _=>rfl)) (@pe_ix _ _ _ _ _ _ _ (@ixT_k _ (K) (by rfl)) (@pw _ 1 _ _ (Or.inl k_l_over_l_other) (by rfl) (by decide) (by decide)) (@pe_int _ _ _ _) (fun _ _=>rfl))) (@pa_c _ _ _ _ _ (@pe_op _ _ _ _ _ _ _ _ (@op_mulB _) (@pe_ix _ _ _ _ _ _ _ (@ixT_k _ (K) (by rfl)) (@pw _ 0 _ _ (Or.inl k_l_over_l_one) (by rfl) (by decide) (by decide)) (@pe_int _ _ _ _) (fun _ _=>rfl)) (@pe_ix _ _ _ _ _ _ _ (@ixT_k _ (K) (by rfl)) (@pw _ 1 _ _ (Or.inl k_l_over_l_other) (by rfl) (by decide) (by decide)) (@pe_int _ _ _ _) (fun _ _=>rfl))) (@pa_nil _) rfl) rfl) (by decide) (by rfl) (by rfl)))),?_⟩
    exact ⟨_,rfl,a,_,_,_,rfl,rfl,SqT.of ha,rfl,_,rfl,b,_,_,_,rfl,rfl,SqT.of hb,rfl,_,_,rfl,rfl,mulS z1 z4,
      _,rfl,a,_,_,_,rfl,rfl,SqT.of ha,rfl,_,rfl,b,_,_,_,rfl,rfl,SqT.of hb,rfl,_,_,rfl,rfl,mulS z2 z3,_,_,rfl,Int.mul_pos (by have:=fp.pos;trivial) (by trivial),mulS9 z2 z3,fun o H' n=>k o H' n⟩
inductive spAbove_ (vs:List V) (H:Hp) (Q:VK):Prop
  | mk (a b:Addr) (p q:KM.Fra) (h0:vs=[.ref a,.ref b]) (h1:H a=some (fr p)) (h2:H b=some (fr q)) (h3:Sz 4000 p.1) (h4:Sz 4000 p.2) (h5:Sz 4000 q.1) (h6:Sz 4000 q.2) (h7:Q (.int (p.1*q.2 - q.1*p.2)) H)
def spAbove:Sp:=fun vs H Q _=>spAbove_  vs H Q
theorem ok_l_above (T:Txt K mg):FnOk P w K mg base CX0 1 T.f_l_above T.d_l_above ["_law_one", "_law_other"] spAbove:=by
  refine T.F_l_above.ok sc_l_above (fun vs H Q E h=>?_) (fun cdv A outer s H vs Q E hr h=>?_)
  · obtain ⟨a,b,p,q,rfl,_⟩:=h
    rfl
  · obtain ⟨a,b,p,q,rfl,ha,hb,z1,z2,z3,z4,k⟩:=h
    refine ⟨_,(@pss_one _ _ _ (@ps_ret _ _ _ _ (@pe_op _ _ _ _ _ _ _ _ (@op_sub _) (@pe_op _ _ _ _ _ _ _ _ (@op_mulB _) (@pe_ix _ _ _ _ _ _ _ (@ixT_k _ (K) (by rfl)) (@pw _ 0 _ _ (Or.inl k_l_above_l_one) (by rfl) (by decide) (by decide)) (@pe_int _ _ _ _) (fun _ _=>rfl)) (@pe_ix _ _ _ _ _ _ _ (@ixT_k _ (K) (by rfl)) (@pw _ 1 _ _ (Or.inl k_l_above_l_other) (by rfl) (by decide) (by decide)) (@pe_int _ _ _ _) (fun _ _=>rfl))) (@pe_op _ _ _ _ _ _ _ _ (@op_mulB _) (@pe_ix _ _ _ _ _ _ _ (@ixT_k _ (K) (by rfl)) (@pw _ 1 _ _ (Or.inl k_l_above_l_other) (by rfl) (by decide) (by decide)) (@pe_int _ _ _ _) (fun _ _=>rfl)) (@pe_ix _ _ _ _ _ _ _ (@ixT_k _ (K) (by rfl)) (@pw _ 0 _ _ (Or.inl k_l_above_l_one) (by rfl) (by decide) (by decide)) (@pe_int _ _ _ _) (fun _ _=>rfl)))))),?_⟩
    exact ⟨_,rfl,a,_,_,_,rfl,rfl,SqT.of ha,rfl,_,rfl,b,_,_,_,rfl,rfl,SqT.of hb,rfl,_,_,rfl,rfl,mulS z1 z4,_,rfl,b,_,_,_,rfl,rfl,SqT.of hb,rfl,_,rfl,a,_,_,_,rfl,rfl,SqT.of ha,rfl,_,_,rfl,rfl,mulS z3 z2,_,_,rfl,rfl,k⟩
end
end K10
namespace K10
open PySem L2
set_option maxHeartbeats 4000000
theorem for_enumK {K:PySem.W.Frag}{a:Addr}{c:Bool}{xs:List V}{g:TG}{tb:TS}{D:Ends}{σ:St}{H:Hp} (Pv:Nat→St→Hp→Prop) (h0:Pv 0 σ H) (hl:∀i σ H,i≤xs.length→Pv i σ H→SqC K H a xs c)
    (hs:∀i x T σ H,xs[i]?=some x→H T=none→Pv i σ H→g (.ref T) σ (upd H T (.tup [.int (i:Int),x])) fun σ2 H2=>tb { D with nx:=Pv (i+1),ct:=Pv (i+1),bk:=D.nx } σ2 H2) (hd:∀σ H,Pv xs.length σ H→D.nx σ H) :
    ∃W:Nat→Nat→St→Hp→Prop,(∃m,W 0 m σ H)∧∀i m σ H,W i m σ H→
      ((IteK K a c).stop i H∧D.nx σ H)∨((IteK K a c).go i H∧∃N:St→Hp→Prop,(∀σ' H',N σ' H'→∃m',m'<m∧W (i+1) m' σ' H')∧∀x H',(IteK K a c).yld i H x H'→g x σ H' fun σ2 H2=>tb { D with nx:=N,ct:=N,bk:=D.nx } σ2 H2):=by
  refine ⟨fun i m σ H=>m=xs.length - i∧i≤xs.length∧Pv i σ H,⟨xs.length,by simp,Nat.zero_le _,h0⟩,?_⟩
  rintro i m σ H ⟨rfl,hi,p⟩
  have q1:=hl i σ H hi p
  by_cases hlt:i<xs.length
  · refine .inr ⟨⟨xs,xs[i],q1,by simp [hlt]⟩,Pv (i+1),fun σ' H' p'=>⟨xs.length - (i+1),by trivial,rfl,hlt,p'⟩,fun x H' y=>?_⟩
    obtain ⟨T,u,hT,rfl,rfl,e1⟩:=y
    exact hs i u T σ H (e1 xs q1) hT p
  · have e:i=xs.length:=by trivial
    subst e
    exact .inl ⟨⟨xs,q1,rfl⟩,hd _ _ p⟩
theorem net_inv2 {E:Addr→Prop}{H:Hp}{v:V}{ls:List (List Nat)}{ts:List TieD} (h:IsD E H v (netD ls ts)):Ex4 fun a p q ys=>v=.ref a∧H a=some (.tup [.ref p,.ref q])∧H p=some (.tup (ls.map strV))∧H q=some (.tup ys)∧IsAll E H ys (ts.map tieD):=by
  have sall:∀{ls:List (List Nat)}{xs:List V},IsAll E H xs (ls.map fun l=>PyData.str (S l))→xs=ls.map strV:=by
    intro ls
    induction ls with
    | nil=>intro xs h;cases h;rfl
    | cons l r ih=>
      intro xs h
      cases h with
      | cons h1 h2=>cases h1;rw [ih h2];rfl
  cases h with
  | @tup a xs _ h r=>
    cases r with
    | cons h1 r=>
    cases r with
    | cons h2 r=>
    cases r
    cases h1 with
    | @tup p ps _ hp rp=>
    cases h2 with
    | @tup q ys _ hq rq=>
      have e:=sall rp
      subst e
      exact ⟨a,p,q,ys,rfl,h,hp,hq,rq⟩
theorem tie_inv2 {E:Addr→Prop}{H:Hp}{v:V}{t:TieD} (h:IsD E H v (tieD t)):Ex4 fun a om og op=>v=.ref a∧H a=some (.tup [.str (S t.bg),.str (S t.en),.ref om,.ref og,.ref op])∧H om=some (fr t.most)∧H og=some (fr t.gain)∧H op=some (fr t.price):=by
  cases h with
  | @tup a xs _ h r=>
    cases r with
    | @cons u1 _ _ _ h1 r=>
    cases r with
    | @cons u2 _ _ _ h2 r=>
    cases r with
    | @cons u3 _ _ _ h3 r=>
    cases r with
    | @cons u4 _ _ _ h4 r=>
    cases r with
    | @cons u5 _ _ _ h5 r=>
    cases r
    cases h1
    cases h2
    obtain ⟨om,rfl,ho⟩:=isF_inv h3
    obtain ⟨og,rfl,hg⟩:=isF_inv h4
    obtain ⟨op,rfl,hp⟩:=isF_inv h5
    exact ⟨a,om,og,op,rfl,h,ho,hg,hp⟩
theorem all_snoc {H H':Hp}{D:Addr}{ys zs:List V}{ds:List PyData}{v:V}{d:PyData} (c:Ch H D zs H') (hD:H D=some (.lst ys)) (i:IsAll ED H ys ds) (iv:IsD ED H v d):IsAll ED H' (ys++[v]) (ds++[d]):=
  (i.mono ⟨fun _ _ n _=>absurd trivial n,fun _ _ e=>c.tup e hD⟩).append (.cons (iv.tupC c hD) .nil)
theorem gb11:Gb 1 1 (1,1):=⟨show (1:Int).natAbs<2 ^ 1 by decide,show (1:Int).natAbs<2 ^ 1 by decide,by decide⟩
structure TGd (ls:List (List Nat)) (t:TieD):Prop where
  b:t.bg∈ls
  e:t.en∈ls
  ne:t.bg≠t.en
  fm:Gb 20 3 t.most
  fg:Gb 6 6 t.gain
  g1:1≤t.gain.1
  fp:Gb 24 24 t.price
  m0:0≤t.most.1
  mc:Int.gcd t.most.1 t.most.2=1
section
variable {P:Program}{w:World}{K:PySem.W.Frag}{mg:Str→Option Value}{base:Heap}
theorem sz1:Sz 4000 (1:Int):=Sz.mono (m:=1) (show (1:Int).natAbs<2 ^ 1 by decide) (by decide)
theorem gz {a b:Nat}{p:KM.Fra} (h:Gb a b p) (ha:a≤4000) (hb:b≤4000):Sz 4000 p.1∧Sz 4000 p.2:=⟨h.n.mono ha,h.d.mono hb⟩
theorem gd {a b c d:Nat}{p q:KM.Fra} (h:Gb a b p) (k:Gb c d q):p.2*q.2≠0:=Int.mul_ne_zero (by have:=h.pos;trivial) (by have:=k.pos;trivial)
theorem cmp_gt {i j:Int}:decide (0<cmpI i j)=decide (j<i):=by
  unfold cmpI
  by_cases h:i<j
  · rw [if_pos h,decide_eq_false (show ¬j<i by trivial)];rfl
  · rw [if_neg h]
    by_cases h2:j<i
    · rw [if_pos h2,decide_eq_true h2];rfl
    · rw [if_neg h2,decide_eq_false h2];rfl
end
end K10
namespace K10
open PySem L2
set_option maxHeartbeats 4000000
section
variable {P:Program}{w:World}{K:PySem.W.Frag}{mg:Str→Option Value}{base:Heap}
end
end K10
namespace K10
open PySem L2
set_option maxHeartbeats 4000000
theorem eqS {a b:List Nat}:eqV (V.str (S a)) (V.str (S b))=(a==b):=by
  show (S a==S b)=(a==b)
  by_cases h:a=b
  · subst h;simp
  · rw [beq_eq_false_iff_ne.mpr h,beq_eq_false_iff_ne.mpr]
    exact fun z=>h (S_inj z)
theorem inS (l:List Nat) (es:List (List Nat)):inV (strV l) (es.map strV)=es.contains l:=by
  unfold inV
  induction es with
  | nil=>rfl
  | cons e r ih=>
    rw [List.map_cons,List.any_cons,ih,List.contains_cons]
    have:eqV (strV e) (strV l)=(l==e):=by rw [show eqV (strV e) (strV l)=(e==l) from eqS];exact Bool.beq_comm
    rw [this]
theorem flatS (es:List (List Nat)):(es.map strV).all flatV=true:=by
  rw [List.all_eq_true]
  intro v hv
  obtain ⟨l,_,rfl⟩:=List.mem_map.mp hv
  rfl
theorem nodup_le {α:Type} [DecidableEq α]:∀{xs ys:List α},xs.Nodup→(∀x∈xs,x∈ys)→xs.length≤ys.length
  | [],_,_,_=>Nat.zero_le _
  | x :: xs,ys,nd,h=>by
    rw [List.nodup_cons] at nd
    have hx:=h x (List.mem_cons_self ..)
    have:=nodup_le (xs:=xs) (ys:=ys.erase x) nd.2 fun y hy=>(List.mem_erase_of_ne (fun (z:y=x)=>nd.1 (z▸hy))).mpr (h y (List.mem_cons_of_mem _ hy))
    rw [List.length_erase_of_mem hx] at this
    have:0<ys.length:=List.length_pos_of_mem hx
    simp
    trivial
section
variable {P:Program}{w:World}{K:PySem.W.Frag}{mg:Str→Option Value}{base:Heap}
end
end K10
namespace K10
open PySem L2
set_option maxHeartbeats 4000000
section
variable {P:Program}{w:World}{K:PySem.W.Frag}{mg:Str→Option Value}{base:Heap}
end
end K10
namespace K10
open PySem L2
set_option maxHeartbeats 4000000
section
variable {P:Program}{w:World}{K:PySem.W.Frag}{mg:Str→Option Value}{base:Heap}
end
end K10
namespace K10
open PySem L2
set_option maxHeartbeats 4000000
theorem rep_flat {α:Type} (n:Nat) (x:α):(List.replicate n [x]).flatten=List.replicate n x:=by
  induction n with
  | zero=>rfl
  | succ n ih=>rw [List.replicate_succ,List.flatten_cons,ih,List.replicate_succ];rfl
theorem nodup_q {α:Type}{ls:List α} (nd:ls.Nodup) {i j:Nat}{x:α} (h1:ls[i]?=some x) (h2:ls[j]?=some x):i=j:=by
  obtain ⟨a1,e1⟩:=List.getElem?_eq_some_iff.mp h1
  obtain ⟨a2,e2⟩:=List.getElem?_eq_some_iff.mp h2
  exact nodup_inj nd a1 a2 (e1.trans e2.symm)
section
variable {P:Program}{w:World}{K:PySem.W.Frag}{mg:Str→Option Value}{base:Heap}
end
end K10
namespace K10
open PySem L2
set_option maxHeartbeats 4000000
section
variable {P:Program}{w:World}{K:PySem.W.Frag}{mg:Str→Option Value}{base:Heap}
inductive spGB_ (a b:Nat) (vs:List V) (H:Hp) (Q:VK):Prop
  | mk (bx:Addr) (t:Int) (h0:vs=[.ref bx]) (h1:Bx H bx t) (h2:0≤t) (h3:t≤900000) (h4:∀(o:Addr) (z:KM.Fra) (t':Int) (H':Hp),SameE (Eb bx) H H'→H' o=some (fr z)→Gb a b z→0≤z.1→Int.gcd z.1 z.2=1→Bx H' bx t'→t≤t'→t'≤t+2→Q (.ref o) H')
def spGB (a b:Nat):Sp:=fun vs H Q _=>spGB_ a b vs H Q
theorem gb_c {a b:Nat}{n d:Int} (h1:n.natAbs<2 ^ a) (h2:d.natAbs<2 ^ b) (h3:1≤d):Gb a b (n,d):=⟨h1,h2,h3⟩
theorem low_nn {n d:Int} (hd:0<d) (h:0≤n):0≤(KM.low n d).1:=by
  have:=(KM.low_sgn (n:=n) hd).2
  by_cases q:(KM.low n d).1<0
  · have:=this.mp q;trivial
  · trivial
theorem ok_any_much16 (T:Txt K mg):FnOk P w K mg base CX0 2 T.f_l_any_much T.d_l_any_much ["_law_box_here"] (spGB 20 3):=by
  have G_l_take:=ok_take (P:=P) (w:=w) (base:=base) T
  have G_l_frac:=ok_frac (P:=P) (w:=w) (base:=base) T
  refine T.F_l_any_much.ok sc_l_any_much (fun vs H Q E h=>?_) (fun cdv A outer s H vs Q E hr h=>?_)
  · obtain ⟨b,t,rfl,_⟩:=h
    rfl
  · obtain ⟨b,t,rfl,B,ht0,ht1,k⟩:=h
    refine ⟨_,(@pss_cons _ _ _ _ _ (@ps_set _ _ (1) _ _ _ _ sc_l_any_much.nd rfl (Or.inl k_l_any_much_l_way) (@pe_call _ _ _ _ _ _ _ _ _ _ _ _ _ _ _ _ G_l_take (hr.mono (by decide)) k_l_any_much_l_take T.m_l_take T.F_l_take.kp T.B_l_take .nil (@pass0 _) (@pa_c _ _ _ _ _ (@pw _ 0 _ _ (Or.inl k_l_any_much_l_box_here) (by rfl) (by decide) (by decide)) (@pa_c _ _ _ _ _ (@pe_int _ _ _ _) (@pa_nil _) rfl) rfl) (by decide) (by rfl) (by rfl)) (by rfl) (by first | exact .inl rfl | exact .inr rfl | assumption)) (@pss_cons _ _ _ _ _ (@ps_if _ _ _ _ _ _ _ _ (@pt_cmpR _ _ _ _ _ _ _ _ (@op_eq _) (@pw _ 1 _ _ (Or.inl k_l_any_much_l_way) (by rfl) (by decide) (by decide)) (@pe_int _ _ _ _) (@nomark _ _ (by decide) (by decide))) (@pss_one _ _ _ (@ps_ret _ _ _ _ (@pe_tupA _ _ _ _ _ (@pa_c _ _ _ _ _ (@pe_int _ _ _ _) (@pa_c _ _ _ _ _ (@pe_int _ _ _ _) (@pa_nil _) rfl) rfl)))) (@pss_nil _)) (@pss_cons _ _ _ _ _ (@ps_if _ _ _ _ _ _ _ _ (@pt_cmpR _ _ _ _ _ _ _ _ (@op_eq _) (@pw _ 1 _ _ (Or.inl k_l_any_much_l_way) (by rfl) (by decide) (by decide)) (@pe_int _ _ _ _) (@nomark _ _ (by decide) (by decide))) (@pss_one _ _ _ (@ps_ret _ _ _ _ (@pe_tupA _ _ _ _ _ (@pa_c _ _ _ _ _ (@pe_op _ _ _ _ _ _ _ _ (@op_pow _) (@pe_int _ _ _ _) (@pe_int _ _ _ _)) (@pa_c _ _ _ _ _ (@pe_int _ _ _ _) (@pa_nil _) rfl) rfl)))) (@pss_nil _)) (@pss_one _ _ _ (@ps_ret _ _ _ _ (@pe_call _ _ _ _ _ _ _ _ _ _ _ _ _ _ _ _ G_l_frac (hr.mono (by decide)) k_l_any_much_l_frac T.m_l_frac T.F_l_frac.kp T.B_l_frac .nil (@pass0 _) (@pa_c _ _ _ _ _ (@pe_op _ _ _ _ _ _ _ _ (@op_add _) (@pe_int _ _ _ _) (@pe_call _ _ _ _ _ _ _ _ _ _ _ _ _ _ _ _ G_l_take (hr.mono (by decide)) k_l_any_much_l_take T.m_l_take T.F_l_take.kp T.B_l_take .nil (@pass0 _) (@pa_c _ _ _ _ _ (@pw _ 0 _ _ (Or.inl k_l_any_much_l_box_here) (by rfl) (by decide) (by decide)) (@pa_c _ _ _ _ _ (@pe_int _ _ _ _) (@pa_nil _) rfl) rfl) (by decide) (by rfl) (by rfl))) (@pa_c _ _ _ _ _ (@pe_ix _ _ _ _ _ _ _ (@ixL_k _ (K) (by rfl)) (@pe_lstA _ _ _ _ (@pa_c _ _ _ _ _ (@pe_int _ _ _ _) (@pa_c _ _ _ _ _ (@pe_int _ _ _ _) (@pa_c _ _ _ _ _ (@pe_int _ _ _ _) (@pa_c _ _ _ _ _ (@pe_int _ _ _ _) (@pa_c _ _ _ _ _ (@pe_int _ _ _ _) (@pa_c _ _ _ _ _ (@pe_int _ _ _ _) (@pa_nil _) rfl) rfl) rfl) rfl) rfl) rfl)) (@pe_op _ _ _ _ _ _ _ _ (@op_sub _) (@pw _ 1 _ _ (Or.inl k_l_any_much_l_way) (by rfl) (by decide) (by decide)) (@pe_int _ _ _ _)) (fun _ _=>rfl)) (@pa_nil _) rfl) rfl) (by decide) (by rfl) (by rfl))))))),?_⟩
    refine ⟨_,rfl,b,8,t,rfl,B,by decide,by decide,ht0,by trivial,fun wy t1 H1 w0 w1 h1a h1b s1 B1=>?_⟩
    refine ⟨_,rfl,rfl,_,rfl,ite2 (fun c=>?_) (fun c=>?_)⟩
    · exact ⟨(by show 2≤10000;decide),fun o H2 n2=>k o (0,1) t1 H2 (s1.trans n2.sm.toE) n2.at' (gb_c (by decide) (by decide) (by decide)) (by decide) (by decide) (B1.same n2.sm) (by trivial) (by trivial)⟩
    refine ⟨_,rfl,rfl,_,rfl,ite2 (fun c'=>?_) (fun c'=>?_)⟩
    · have q6:(10:Int) ^ (6:Int).toNat=1000000:=by decide
      refine ⟨_,_,rfl,rfl,⟨by decide,by decide,by decide⟩,(by show 2≤10000;decide),fun o H2 n2=>k o (1000000,1) t1 H2 (s1.trans n2.sm.toE) ?_ (gb_c (by decide) (by decide) (by decide)) (by decide) (by decide) (B1.same n2.sm) (by trivial) (by trivial)⟩
      rw [n2.at']
      show some (HO.tup [V.int ((10:Int) ^ (6:Int).toNat),V.int 1])=_
      rw [q6]
    have hw:wy≠0:=fun z=>c (by rw [z];decide)
    have hw':wy≠1:=fun z=>c' (by rw [z];decide)
    refine ⟨_,rfl,b,12,t1,rfl,B1,by decide,by decide,by trivial,by trivial,fun r2 t2 H2 a20 a21 _ _ s2 B2=>⟨_,_,rfl,rfl,(by show 6≤10000;decide),fun l5 H5 n5=>?_⟩⟩
    obtain ⟨e,ee,he0,he1⟩:∃e:Int,atI [V.int 1,V.int 1,V.int 1,V.int 2,V.int 3,V.int 7] (wy - 2)=some (V.int e)∧1≤e∧e≤7:=by
      obtain rfl | rfl | rfl | rfl | rfl | rfl:wy=2∨wy=3∨wy=4∨wy=5∨wy=6∨wy=7:=by trivial
      · exact ⟨1,rfl,by decide,by decide⟩
      · exact ⟨1,rfl,by decide,by decide⟩
      · exact ⟨1,rfl,by decide,by decide⟩
      · exact ⟨2,rfl,by decide,by decide⟩
      · exact ⟨3,rfl,by decide,by decide⟩
      · exact ⟨7,rfl,by decide,by decide⟩
    have f:Gb 20 3 (KM.low (1+r2) e):=gb_low (show (1+r2).natAbs<1048576 by trivial) (show e.natAbs<8 by trivial) (by trivial)
    exact ⟨_,rfl,_,_,rfl,rfl,l5,_,_,_,rfl,rfl,SqL.of n5.at',ee,_,_,rfl,by trivial,Sz.mono (m:=40) (by show e.natAbs<1099511627776;trivial) (by decide),fun o H6 n6=>k o _ t2 H6 (((s1.trans s2).trans n5.sm.toE).trans n6.sm.toE) n6.at' f (low_nn (by trivial) (by trivial)) (KM.low_spec _ _ (by trivial)).2.2.1 ((B2.same n5.sm).same n6.sm) (by trivial) (by trivial)⟩
theorem ok_any_price (T:Txt K mg):FnOk P w K mg base CX0 2 T.f_l_any_price T.d_l_any_price ["_law_box_here"] (spGB 24 24):=by
  have G_l_take:=ok_take (P:=P) (w:=w) (base:=base) T
  have G_l_frac:=ok_frac (P:=P) (w:=w) (base:=base) T
  refine T.F_l_any_price.ok sc_l_any_price (fun vs H Q E h=>?_) (fun cdv A outer s H vs Q E hr h=>?_)
  · obtain ⟨b,t,rfl,_⟩:=h
    rfl
  · obtain ⟨b,t,rfl,B,ht0,ht1,k⟩:=h
    refine ⟨_,(@pss_cons _ _ _ _ _ (@ps_set _ _ (1) _ _ _ _ sc_l_any_price.nd rfl (Or.inl k_l_any_price_l_way) (@pe_call _ _ _ _ _ _ _ _ _ _ _ _ _ _ _ _ G_l_take (hr.mono (by decide)) k_l_any_price_l_take T.m_l_take T.F_l_take.kp T.B_l_take .nil (@pass0 _) (@pa_c _ _ _ _ _ (@pw _ 0 _ _ (Or.inl k_l_any_price_l_box_here) (by rfl) (by decide) (by decide)) (@pa_c _ _ _ _ _ (@pe_int _ _ _ _) (@pa_nil _) rfl) rfl) (by decide) (by rfl) (by rfl)) (by rfl) (by first | exact .inl rfl | exact .inr rfl | assumption)) (@pss_one _ _ _ (@ps_ret _ _ _ _ (@pe_ifExp _ _ _ _ _ _ _ _ (@pt_cmpR _ _ _ _ _ _ _ _ (@op_eq _) (@pw _ 1 _ _ (Or.inl k_l_any_price_l_way) (by rfl) (by decide) (by decide)) (@pe_int _ _ _ _) (@nomark _ _ (by decide) (by decide))) (@pe_tupA _ _ _ _ _ (@pa_c _ _ _ _ _ (@pe_int _ _ _ _) (@pa_c _ _ _ _ _ (@pe_int _ _ _ _) (@pa_nil _) rfl) rfl)) (@pe_call _ _ _ _ _ _ _ _ _ _ _ _ _ _ _ _ G_l_frac (hr.mono (by decide)) k_l_any_price_l_frac T.m_l_frac T.F_l_frac.kp T.B_l_frac .nil (@pass0 _) (@pa_c _ _ _ _ _ (@pe_call _ _ _ _ _ _ _ _ _ _ _ _ _ _ _ _ G_l_take (hr.mono (by decide)) k_l_any_price_l_take T.m_l_take T.F_l_take.kp T.B_l_take .nil (@pass0 _) (@pa_c _ _ _ _ _ (@pw _ 0 _ _ (Or.inl k_l_any_price_l_box_here) (by rfl) (by decide) (by decide)) (@pa_c _ _ _ _ _ (@pe_int _ _ _ _) (@pa_nil _) rfl) rfl) (by decide) (by rfl) (by rfl)) (@pa_c _ _ _ _ _ (@pe_ix _ _ _ _ _ _ _ (@ixL_k _ (K) (by rfl)) (@pe_lstA _ _ _ _ (@pa_c _ _ _ _ _ (@pe_int _ _ _ _) (@pa_c _ _ _ _ _ (@pe_int _ _ _ _) (@pa_c _ _ _ _ _ (@pe_int _ _ _ _) (@pa_nil _) rfl) rfl) rfl)) (@pe_op _ _ _ _ _ _ _ _ (@op_sub _) (@pw _ 1 _ _ (Or.inl k_l_any_price_l_way) (by rfl) (by decide) (by decide)) (@pe_int _ _ _ _)) (fun _ _=>rfl)) (@pa_nil _) rfl) rfl) (by decide) (by rfl) (by rfl)))))),?_⟩
    refine ⟨_,rfl,b,4,t,rfl,B,by decide,by decide,ht0,by trivial,fun wy t1 H1 w0 w1 h1a h1b s1 B1=>?_⟩
    refine ⟨_,rfl,rfl,_,rfl,ite2 (fun c=>?_) (fun c=>?_)⟩
    · exact ⟨(by show 2≤10000;decide),fun o H2 n2=>k o (0,1) t1 H2 (s1.trans n2.sm.toE) n2.at' (gb_c (by decide) (by decide) (by decide)) (by decide) (by decide) (B1.same n2.sm) (by trivial) (by trivial)⟩
    have hw:wy≠0:=fun z=>c (by rw [z];decide)
    refine ⟨_,rfl,b,20,t1,rfl,B1,by decide,by decide,by trivial,by trivial,fun r2 t2 H2 a20 a21 _ _ s2 B2=>⟨(by show 3≤10000;decide),fun l5 H5 n5=>?_⟩⟩
    obtain ⟨e,ee,he0,he1⟩:∃e:Int,atI [V.int 1,V.int 1,V.int 6] (wy - 1)=some (V.int e)∧1≤e∧e≤7:=by
      obtain rfl | rfl | rfl:wy=1∨wy=2∨wy=3:=by trivial
      · exact ⟨1,rfl,by decide,by decide⟩
      · exact ⟨1,rfl,by decide,by decide⟩
      · exact ⟨6,rfl,by decide,by decide⟩
    have f:Gb 24 24 (KM.low r2 e):=gb_low (show r2.natAbs<16777216 by trivial) (show e.natAbs<16777216 by trivial) (by trivial)
    exact ⟨_,rfl,_,_,rfl,rfl,l5,_,_,_,rfl,rfl,SqL.of n5.at',ee,_,_,rfl,by trivial,Sz.mono (m:=40) (by show e.natAbs<1099511627776;trivial) (by decide),fun o H6 n6=>k o _ t2 H6 (((s1.trans s2).trans n5.sm.toE).trans n6.sm.toE) n6.at' f (low_nn (by trivial) (by trivial)) (KM.low_spec _ _ (by trivial)).2.2.1 ((B2.same n5.sm).same n6.sm) (by trivial) (by trivial)⟩
end
end K10
namespace K10
open PySem L2
set_option maxHeartbeats 4000000
abbrev ED3:=List Nat×List Nat×KM.Fra
abbrev trD (x:ED3):PyData:=.tuple [.str (S x.1),.str (S x.2.1),frD x.2.2]
structure TrC (ls:List (List Nat)) (x:ED3):Prop where
  b:x.1∈ls
  e:x.2.1∈ls
  ne:x.1≠x.2.1
  g:Gb 6 6 x.2.2
  g1:1≤x.2.2.1
theorem low_c {n d:Int} (hn:1≤n) (hn2:n<64) (hd:1≤d) (hd2:d<64):Gb 6 6 (KM.low n d)∧1≤(KM.low n d).1:=
  ⟨gb_low (show n.natAbs<64 by trivial) (show d.natAbs<64 by trivial) (by trivial),(KM.low_sgn (by trivial)).1.mpr (by trivial)⟩
theorem all_of {E:Addr→Prop}{H:Hp}{α:Type}{f:α→PyData}:∀{vs:List V}{xs:List α},vs.length=xs.length→(∀(i:Nat) v x,vs[i]?=some v→xs[i]?=some x→IsD E H v (f x))→IsAll E H vs (xs.map f)
  | [],[],_,_=>.nil
  | [],_ :: _,h,_=>by simp at h
  | _ :: _,[],h,_=>by simp at h
  | v :: vs,x :: xs,h,k=>.cons (k 0 v x rfl rfl) (all_of (by simpa using h) fun i v' x' h1 h2=>k (i+1) v' x' (by simpa using h1) (by simpa using h2))
theorem mod_ne {n f i j:Int} (h0:0<n) (hij:i<j) (hn:j - i<n):(f+i) % n≠(f+j) % n:=fun z=>by
  have h1:((f+j) - (f+i)) % n=0:=by
    rw [Int.sub_emod,z,Int.sub_self,Int.zero_emod]
  have h2:(f+j) - (f+i)=j - i:=by trivial
  rw [h2,Int.emod_eq_of_lt (by trivial) hn] at h1
  trivial
section
variable {P:Program}{w:World}{K:PySem.W.Frag}{mg:Str→Option Value}{base:Heap}
inductive spPlant_ (vs:List V) (H:Hp) (Q:VK):Prop
  | mk (b pl:Addr) (ls:List (List Nat)) (t:Int) (h0:vs=[.ref b,.ref pl]) (h1:Bx H b t) (h2:0≤t) (h3:t≤900000) (h4:H pl=some (.tup (ls.map strV))) (h5:2≤ls.length) (h6:ls.length≤10) (h7:ls.Nodup) (h8:∀(L:Addr) (ys:List V) (es:List ED3) (t':Int) (H':Hp),SameE (Eb b) H H'→H L=none→H' L=some (.lst ys)→IsAll ED H' ys (es.map trD)→es.length≤10→(∀x∈es,TrC ls x)→Bx H' b t'→t≤t'→t'≤t+5→Q (.ref L) H')
def spPlant:Sp:=fun vs H Q _=>spPlant_  vs H Q
theorem ok_planted (T:Txt K mg):FnOk P w K mg base CX0 2 T.f_l_planted T.d_l_planted ["_law_box_here", "_law_places"] spPlant:=by
  have G_l_take:=ok_take (P:=P) (w:=w) (base:=base) T
  have G_l_frac:=ok_frac (P:=P) (w:=w) (base:=base) T
  refine T.F_l_planted.ok sc_l_planted (fun vs H Q E h=>?_) (fun cdv A outer s H vs Q E hr h=>?_)
  · obtain ⟨b,pl,ls,t,rfl,_⟩:=h
    rfl
  · obtain ⟨b,pl,ls,t,rfl,B,ht0,ht1,hpl,l2,l10,nd,k⟩:=h
    have es:((ls.map strV).length:Int)=(ls.length:Int):=by rw [List.length_map]
    refine ⟨_,(@pss_cons _ _ _ _ _ (@ps_set _ _ (2) _ _ _ _ sc_l_planted.nd rfl (Or.inl k_l_planted_l_many) (@pe_op _ _ _ _ _ _ _ _ (@op_add _) (@pe_int _ _ _ _) (@pe_call _ _ _ _ _ _ _ _ _ _ _ _ _ _ _ _ G_l_take (hr.mono (by decide)) k_l_planted_l_take T.m_l_take T.F_l_take.kp T.B_l_take .nil (@pass0 _) (@pa_c _ _ _ _ _ (@pw _ 0 _ _ (Or.inl k_l_planted_l_box_here) (by rfl) (by decide) (by decide)) (@pa_c _ _ _ _ _ (@pe_op _ _ _ _ _ _ _ _ (@op_sub _) (@pe_callB _ _ _ _ _ _ _ _ _ (@len_k _ (K) (by rfl)) k_l_planted_len T.b_len (@boot_b_len) (@pa_c _ _ _ _ _ (@pw _ 1 _ _ (Or.inr (Or.inl k_l_planted_l_places)) (by rfl) (by decide) (by decide)) (@pa_nil _) rfl) (by decide) (by decide) (by rfl) (by rfl)) (@pe_int _ _ _ _)) (@pa_nil _) rfl) rfl) (by decide) (by rfl) (by rfl))) (by rfl) (by first | exact .inl rfl | exact .inr rfl | assumption)) (@pss_cons _ _ _ _ _ (@ps_asg _ _ _ _ _ _ (@pe_tupA _ _ _ _ _ (@pa_c _ _ _ _ _ (@pe_call _ _ _ _ _ _ _ _ _ _ _ _ _ _ _ _ G_l_take (hr.mono (by decide)) k_l_planted_l_take T.m_l_take T.F_l_take.kp T.B_l_take .nil (@pass0 _) (@pa_c _ _ _ _ _ (@pw _ 0 _ _ (Or.inl k_l_planted_l_box_here) (by rfl) (by decide) (by decide)) (@pa_c _ _ _ _ _ (@pe_callB _ _ _ _ _ _ _ _ _ (@len_k _ (K) (by rfl)) k_l_planted_len T.b_len (@boot_b_len) (@pa_c _ _ _ _ _ (@pw _ 1 _ _ (Or.inr (Or.inl k_l_planted_l_places)) (by rfl) (by decide) (by decide)) (@pa_nil _) rfl) (by decide) (by decide) (by rfl) (by rfl)) (@pa_nil _) rfl) rfl) (by decide) (by rfl) (by rfl)) (@pa_c _ _ _ _ _ (@pe_op _ _ _ _ _ _ _ _ (@op_add _) (@pe_int _ _ _ _) (@pe_call _ _ _ _ _ _ _ _ _ _ _ _ _ _ _ _ G_l_take (hr.mono (by decide)) k_l_planted_l_take T.m_l_take T.F_l_take.kp T.B_l_take .nil (@pass0 _) (@pa_c _ _ _ _ _ (@pw _ 0 _ _ (Or.inl k_l_planted_l_box_here) (by rfl) (by decide) (by decide)) (@pa_c _ _ _ _ _ (@pe_int _ _ _ _) (@pa_nil _) rfl) rfl) (by decide) (by rfl) (by rfl))) (@pa_c _ _ _ _ _ (@pe_op _ _ _ _ _ _ _ _ (@op_add _) (@pe_int _ _ _ _) (@pe_call _ _ _ _ _ _ _ _ _ _ _ _ _ _ _ _ G_l_take (hr.mono (by decide)) k_l_planted_l_take T.m_l_take T.F_l_take.kp T.B_l_take .nil (@pass0 _) (@pa_c _ _ _ _ _ (@pw _ 0 _ _ (Or.inl k_l_planted_l_box_here) (by rfl) (by decide) (by decide)) (@pa_c _ _ _ _ _ (@pe_int _ _ _ _) (@pa_nil _) rfl) rfl) (by decide) (by rfl) (by rfl))) (@pa_nil _) rfl) rfl) rfl)) (@pg_tup_k _ (K) _ _ _ _ (3) rfl (@pgs_cons _ _ _ _ _ (@pg_name _ _ (3) _ sc_l_planted.nd rfl (Or.inr k_l_planted_l_first) (by first | exact .inl rfl | exact .inr rfl | assumption)) (@pgs_cons _ _ _ _ _ (@pg_name _ _ (4) _ sc_l_planted.nd rfl (Or.inl k_l_planted_l_a) (by first | exact .inl rfl | exact .inr rfl | assumption)) (@pgs_cons _ _ _ _ _ (@pg_name _ _ (5) _ sc_l_planted.nd rfl (Or.inl k_l_planted_l_b) (by first | exact .inl rfl | exact .inr rfl | assumption)) (@pgs_nil _) (by rfl)) (by rfl)) (by rfl)) (by rfl) (by rfl) (by rfl)) (by rfl) (by rfl) (by rfl)) (@pss_cons _ _ _ _ _ (@ps_set _ _ (6) _ _ _ _ sc_l_planted.nd rfl (Or.inl k_l_planted_l_more) (@pe_op _ _ _ _ _ _ _ _ (@op_add _) (@pe_int _ _ _ _) (@pe_call _ _ _ _ _ _ _ _ _ _ _ _ _ _ _ _ G_l_take (hr.mono (by decide)) k_l_planted_l_take T.m_l_take T.F_l_take.kp T.B_l_take .nil (@pass0 _) (@pa_c _ _ _ _ _ (@pw _ 0 _ _ (Or.inl k_l_planted_l_box_here) (by rfl) (by decide) (by decide)) (@pa_c _ _ _ _ _ (@pe_int _ _ _ _) (@pa_nil _) rfl) rfl) (by decide) (by rfl) (by rfl))) (by rfl) (by first | exact .inl rfl | exact .inr rfl | assumption)) (@pss_cons _ _ _ _ _ (@ps_set _ _ (7) _ _ _ _ sc_l_planted.nd rfl (Or.inl k_l_planted_l_gains) (@pe_op _ _ _ _ _ _ _ _ (@op_catA _) (@pe_lstA _ _ _ _ (@pa_c _ _ _ _ _ (@pe_call _ _ _ _ _ _ _ _ _ _ _ _ _ _ _ _ G_l_frac (hr.mono (by decide)) k_l_planted_l_frac T.m_l_frac T.F_l_frac.kp T.B_l_frac .nil (@pass0 _) (@pa_c _ _ _ _ _ (@pw _ 4 _ _ (Or.inl k_l_planted_l_a) (by rfl) (by decide) (by decide)) (@pa_c _ _ _ _ _ (@pw _ 5 _ _ (Or.inl k_l_planted_l_b) (by rfl) (by decide) (by decide)) (@pa_nil _) rfl) rfl) (by decide) (by rfl) (by rfl)) (@pa_c _ _ _ _ _ (@pe_call _ _ _ _ _ _ _ _ _ _ _ _ _ _ _ _ G_l_frac (hr.mono (by decide)) k_l_planted_l_frac T.m_l_frac T.F_l_frac.kp T.B_l_frac .nil (@pass0 _) (@pa_c _ _ _ _ _ (@pe_op _ _ _ _ _ _ _ _ (@op_mul _) (@pw _ 5 _ _ (Or.inl k_l_planted_l_b) (by rfl) (by decide) (by decide)) (@pe_op _ _ _ _ _ _ _ _ (@op_add _) (@pw _ 6 _ _ (Or.inl k_l_planted_l_more) (by rfl) (by decide) (by decide)) (@pe_int _ _ _ _))) (@pa_c _ _ _ _ _ (@pe_op _ _ _ _ _ _ _ _ (@op_mul _) (@pw _ 4 _ _ (Or.inl k_l_planted_l_a) (by rfl) (by decide) (by decide)) (@pw _ 6 _ _ (Or.inl k_l_planted_l_more) (by rfl) (by decide) (by decide))) (@pa_nil _) rfl) rfl) (by decide) (by rfl) (by rfl)) (@pa_nil _) rfl) rfl)) (@pe_op _ _ _ _ _ _ _ _ (@op_repA _) (@pe_lstA _ _ _ _ (@pa_c _ _ _ _ _ (@pe_tupA _ _ _ _ _ (@pa_c _ _ _ _ _ (@pe_int _ _ _ _) (@pa_c _ _ _ _ _ (@pe_int _ _ _ _) (@pa_nil _) rfl) rfl)) (@pa_nil _) rfl)) (@pe_op _ _ _ _ _ _ _ _ (@op_sub _) (@pw _ 2 _ _ (Or.inl k_l_planted_l_many) (by rfl) (by decide) (by decide)) (@pe_int _ _ _ _)))) (by rfl) (by first | exact .inl rfl | exact .inr rfl | assumption)) (@pss_cons _ _ _ _ _ (@ps_setComp _ _ _ _ _ _ _ (["_law_k", "_law_first", "_law_places"]) (1) ([3,1]) _ _ _ _ (8) _ _ _ sc_l_planted.nd rfl k_l_planted_l_spots (by kernel_rfl) rfl (by kernel_rfl) (@pi_range1 _ _ _ _ _ _ k_l_planted_range T.b_range (@pa_c _ _ _ _ _ (@pw _ 2 _ _ (Or.inl k_l_planted_l_many) (by rfl) (by decide) (by decide)) (@pa_nil _) rfl) (by rfl)) (fun _ _ _ _ _ _=>(@pg_name _ _ (0) _ (@nodupS _ (by kernel_rfl)) rfl (Or.inl (by kernel_rfl)) (by first | exact .inl rfl | exact .inr rfl | assumption))) (fun _ _ _ _ _ _=>@pifs_nil _) (fun _ _ _ _ _ _=>(@pe_ix _ _ _ _ _ _ _ (@ixT_k _ (K) (by rfl)) (@pw _ 2 _ _ (Or.inr (Or.inl (by kernel_rfl))) (by rfl) (by decide) (by decide)) (@pe_op _ _ _ _ _ _ _ _ (@op_mod _) (@pe_op _ _ _ _ _ _ _ _ (@op_add _) (@pw _ 1 _ _ (Or.inr (Or.inl (by kernel_rfl))) (by rfl) (by decide) (by decide)) (@pw _ 0 _ _ (Or.inl (by kernel_rfl)) (by rfl) (by decide) (by decide))) (@pe_callB _ _ _ _ _ _ _ _ _ (@len_k _ (K) (by rfl)) (by show _=_;kernel_rfl) T.b_len (@boot_b_len) (@pa_c _ _ _ _ _ (@pw _ 2 _ _ (Or.inr (Or.inl (by kernel_rfl))) (by rfl) (by decide) (by decide)) (@pa_nil _) rfl) (by decide) (by decide) (by rfl) (by rfl))) (fun _ _=>rfl))) (by intro _;rfl)) (@pss_one _ _ _ (@ps_ret _ _ _ _ (@pe_listZ3 _ (K) _ _ _ _ _ _ _ _ rfl k_l_planted_list T.b_list k_l_planted_zip T.b_zip (@pa_c _ _ _ _ _ (@pw _ 8 _ _ (Or.inl k_l_planted_l_spots) (by rfl) (by decide) (by decide)) (@pa_c _ _ _ _ _ (@pe_op _ _ _ _ _ _ _ _ (@op_catA _) (@pe_slice _ _ _ _ _ _ _ _ _ _ (@sl_listA _ (K) (by rfl)) (@pw _ 8 _ _ (Or.inl k_l_planted_l_spots) (by rfl) (by decide) (by decide)) (@po_some _ _ _ (@pe_int _ _ _ _)) (@po_none _)) (@pe_slice _ _ _ _ _ _ _ _ _ _ (@sl_listA _ (K) (by rfl)) (@pw _ 8 _ _ (Or.inl k_l_planted_l_spots) (by rfl) (by decide) (by decide)) (@po_none _) (@po_some _ _ _ (@pe_int _ _ _ _)))) (@pa_c _ _ _ _ _ (@pw _ 7 _ _ (Or.inl k_l_planted_l_gains) (by rfl) (by decide) (by decide)) (@pa_nil _) rfl) rfl) rfl) (by rfl) (by rfl) (by rfl) (by rfl))))))))),?_⟩
    refine seqA fun Q1 nA1=>⟨_,rfl,_,rfl,pl,_,rfl,.inr (SqT.of hpl),_,_,rfl,rfl,b,_,t,rfl,B,by trivial,log9 (by trivial) (by trivial),by trivial,by trivial,fun r1 t1 H1 r10 r11 h1a h1b s1 B1=>⟨_,_,rfl,rfl,nA1 _ _ ?_⟩⟩
    have hpl1:=s1.tup _ _ hpl
    refine ⟨_,rfl,_,rfl,pl,_,rfl,.inr (SqT.of hpl1),b,_,t1,rfl,B1,by trivial,log9 (by trivial) (by trivial),by trivial,by trivial,fun f t2 H2 f0 f1 h2a h2b s2 B2=>?_⟩
    refine ⟨_,rfl,b,6,t2,rfl,B2,by decide,by decide,by trivial,by trivial,fun a t3 H3 a0 a1 h3a h3b s3 B3=>⟨_,_,rfl,rfl,?_⟩⟩
    refine ⟨_,rfl,b,6,t3,rfl,B3,by decide,by decide,by trivial,by trivial,fun c t4 H4 c0 c1 h4a h4b s4 B4=>⟨_,_,rfl,rfl,(by show 3≤10000;decide),fun T5 H5 n5=>⟨T5,_,rfl,SqT.of n5.at',rfl,_,_,rfl,_,_,rfl,_,_,rfl,rfl,?_⟩⟩⟩
    dsimp only
    refine seqA fun Q2 nA2=>⟨_,rfl,b,6,t4,rfl,B4.same n5.sm,by decide,by decide,by trivial,by trivial,fun m t6 H6 m0 m1 h6a h6b s6 B6=>⟨_,_,rfl,rfl,nA2 _ _ ?_⟩⟩
    have s06:SameE (Eb b) H H6:=((((s1.trans s2).trans s3).trans s4).trans n5.sm.toE).trans s6
    have q1:1≤(1+a)*(1+m):=by
      have:=Int.mul_le_mul (show (1:Int)≤1+a by trivial) (show (1:Int)≤1+m by trivial) (by decide) (by trivial);trivial
    have q2:(1+a)*(1+m)≤6*6:=Int.mul_le_mul (by trivial) (by trivial) (by trivial) (by decide)
    have q3:1≤(1+c)*(1+m+1):=by
      have:=Int.mul_le_mul (show (1:Int)≤1+c by trivial) (show (1:Int)≤1+m+1 by trivial) (by decide) (by trivial);trivial
    have q4:(1+c)*(1+m+1)≤6*7:=Int.mul_le_mul (by trivial) (by trivial) (by trivial) (by decide)
    have g1:=low_c (n:=1+a) (d:=1+c) (by trivial) (by trivial) (by trivial) (by trivial)
    have g2:=low_c q3 (by trivial) q1 (by trivial)
    refine seqA fun Q3 nA3=>?_
    refine ⟨_,rfl,_,rfl,1+a,1+c,rfl,by trivial,Sz.mono (m:=40) (by show (1+c).natAbs<1099511627776;trivial) (by decide),fun o1 H7 n7=>?_⟩
    refine ⟨_,rfl,_,rfl,_,_,rfl,rfl,_,_,rfl,rfl,.inr ⟨by trivial,by trivial⟩,_,rfl,_,rfl,_,_,rfl,rfl,.inr ⟨by trivial,by trivial⟩,(1+c)*(1+m+1),(1+a)*(1+m),rfl,by trivial,Sz.mono (m:=40) (by show ((1+a)*(1+m)).natAbs<1099511627776;trivial) (by decide),fun o2 H8 n8=>?_⟩
    refine ⟨(by show 2≤10000;decide),fun l9 H9 n9=>⟨(by show 2≤10000;decide),fun o3 H10 n10=>⟨(by show 1≤10000;decide),fun l11 H11 n11=>?_⟩⟩⟩
    refine ⟨_,rfl,_,_,rfl,rfl,l11,_,_,rfl,rfl,n11.at',by trivial,by trivial,by simp;trivial,fun l12 H12 n12=>⟨l9,l12,_,_,rfl,rfl,n12.sm _ _ (n11.sm _ _ (n10.sm _ _ n9.at')),n12.at',?_,fun G H13 n13=>nA3 _ _ ?_⟩⟩
    · rw [rep_flat,List.length_replicate];simp;trivial
    obtain ⟨mn,emn,hmn⟩:∃mn:Nat,2+r1=(mn:Int)∧2≤mn∧mn≤ls.length:=⟨(2+r1).toNat,by trivial,by trivial,by trivial⟩
    have s613:Same H6 H13:=((((((n7.sm.trans n8.sm).trans n9.sm).trans n10.sm).trans n11.sm).trans n12.sm).trans n13.sm)
    have hG:H13 G=some (.lst ([.ref o1,.ref o2]++List.replicate (mn - 2) (.ref o3))):=by
      have:=n13.at'
      rw [rep_flat,show (2+r1 - 2).toNat=mn - 2 by trivial] at this
      exact this
    have ho1:H13 o1=some (fr (KM.low (1+a) (1+c))):=n13.sm _ _ (n12.sm _ _ (n11.sm _ _ (n10.sm _ _ (n9.sm _ _ (n8.sm _ _ n7.at')))))
    have ho2:H13 o2=some (fr (KM.low ((1+c)*(1+m+1)) ((1+a)*(1+m)))):=n13.sm _ _ (n12.sm _ _ (n11.sm _ _ (n10.sm _ _ (n9.sm _ _ n8.at'))))
    have ho3:H13 o3=some (fr (1,1)):=n13.sm _ _ (n12.sm _ _ (n11.sm _ _ n10.at'))
    have hplE:H13 pl=some (.tup (ls.map strV)):=s613 _ _ (s06.tup _ _ hpl)
    have ix:∀i:Nat,∃l,ls[((f+(i:Int)) % (ls.length:Int)).toNat]?=some l∧0≤(f+(i:Int)) % (ls.length:Int)∧((f+(i:Int)) % (ls.length:Int)).toNat<ls.length:=fun i=>by
      have a1:=Int.emod_nonneg (f+(i:Int)) (show (ls.length:Int)≠0 by trivial)
      have a2:=Int.emod_lt_of_pos (f+(i:Int)) (show (0:Int)<ls.length by trivial)
      exact ⟨_,List.getElem?_eq_getElem (by trivial),a1,by trivial⟩
    obtain ⟨sp,hsp⟩:∃sp:Nat→List Nat,∀i:Nat,ls[((f+(i:Int)) % (ls.length:Int)).toNat]?=some (sp i):=⟨fun i=>Classical.choose (ix i),fun i=>(Classical.choose_spec (ix i)).1⟩
    have spm:∀i,sp i∈ls:=fun i=>List.mem_of_getElem? (hsp i)
    have spn:∀i j:Nat,i<j→j<ls.length→sp i≠sp j:=fun i j hij hj z=>by
      have h1:=hsp i
      have h2:=hsp j
      rw [z] at h1
      have:=nodup_q nd h1 h2
      obtain ⟨_,_,p1,_⟩:=ix i
      obtain ⟨_,_,p2,_⟩:=ix j
      exact mod_ne (n:=(ls.length:Int)) (f:=f) (i:=i) (j:=j) (by trivial) (by trivial) (by trivial) (by trivial)
    refine seqA fun Q4 nA4=>⟨_,rfl,_,rfl,by trivial,by trivial,fun D hD=>?_⟩
    rw [emn,Int.toNat_natCast]
    refine comp_mapJ (n:=mn) (fun k=>strV (sp k)) (by trivial) hD (fun i H' hi sm=>hi) (fun H' sm=>Nat.le_refl _) ?_ ?_
    · rintro i x H' H'' R hi sm ⟨rfl,rfl⟩ kk
      have hplX:=sm _ _ hplE
      obtain ⟨_,_,p1,p2⟩:=ix i
      have hat:atI (ls.map strV) ((f+(0+(i:Int))) % ((ls.map strV).length:Int))=some (strV (sp i)):=by
        rw [es,Int.zero_add,atI_map p1 p2]
        have:=hsp i
        rw [List.getElem?_eq_getElem p2] at this
        rw [Option.some.inj this]
      exact ⟨back1,_,rfl,_,rfl,_,rfl,_,_,rfl,rfl,_,rfl,pl,_,rfl,.inr (SqT.of hplX),_,_,rfl,rfl,(by show (0:Int)<((ls.map strV).length:Int);trivial),pl,_,_,_,rfl,rfl,SqT.of hplX,hat,kk _ (Same.refl _)⟩
    intro J sJ hDJ
    refine nA4 _ _ ?_
    have ml:((List.range mn).map fun k=>strV (sp k)).length=mn:=by simp
    refine ⟨_,rfl,_,rfl,_,rfl,D,_,rfl,SqL.of hDJ,fun p1 J1 j1=>⟨_,rfl,_,rfl,D,_,rfl,SqL.of (j1.sm _ _ hDJ),fun p2 J2 j2=>⟨p1,p2,_,_,rfl,rfl,j2.sm _ _ j1.at',j2.at',?_,fun p3 J3 j3=>?_⟩⟩⟩
    · rw [cutV_drop1,cutV_take (by decide),List.length_drop,List.length_take,ml]
      show mn - 1+min 1 mn≤10000
      trivial
    have e3:J3 p3=some (.lst (((List.range mn).map fun k=>strV (sp k)).drop 1++((List.range mn).map fun k=>strV (sp k)).take 1)):=by
      rw [j3.at',cutV_drop1,cutV_take (by decide)];rfl
    have sJ3:Same H13 J3:=sJ.trans ((j1.sm.trans j2.sm).trans j3.sm)
    refine ⟨_,rfl,D,p3,G,_,_,_,rfl,SqL.of (j3.sm _ _ (j2.sm _ _ (j1.sm _ _ hDJ))),SqL.of e3,SqL.of (sJ3 _ _ hG),?_,?_,by rw [ml];trivial,fun L ts J4 s4' fL hL lts hts=>?_⟩
    · rw [List.length_append,List.length_drop,List.length_take,ml];trivial
    · rw [List.length_append,List.length_replicate,ml];simp;trivial
    rw [ml] at lts
    have s134:=sJ3.trans s4'
    have gz:∀i:Nat,i<mn→∃z:Addr×KM.Fra,([V.ref o1,.ref o2]++List.replicate (mn - 2) (.ref o3))[i]?=some (.ref z.1)∧J4 z.1=some (fr z.2)∧Gb 6 6 z.2∧1≤z.2.1:=fun i hi=>by
      match i,hi with
      | 0,_=>exact ⟨(o1,_),rfl,s134 _ _ ho1,g1.1,g1.2⟩
      | 1,_=>exact ⟨(o2,_),rfl,s134 _ _ ho2,g2.1,g2.2⟩
      | i+2,hi=>
        refine ⟨(o3,(1,1)),?_,s134 _ _ ho3,gb_c (by decide) (by decide) (by decide),(by show (1:Int)≤1;decide)⟩
        show (List.replicate (mn - 2) (V.ref o3))[i]?=_
        rw [List.getElem?_replicate,if_pos (by trivial)]
    obtain ⟨zl,lzl,hzl⟩:=list_of mn gz
    obtain ⟨g,hg⟩:∃g:Nat→KM.Fra,∀i,i<mn→∃o,([V.ref o1,.ref o2]++List.replicate (mn - 2) (.ref o3))[i]?=some (.ref o)∧J4 o=some (fr (g i))∧Gb 6 6 (g i)∧1≤(g i).1:=by
      refine ⟨fun i=>((zl[i]?).map Prod.snd).getD (1,1),fun i hi=>?_⟩
      obtain ⟨z,ez⟩:∃z,zl[i]?=some z:=⟨_,List.getElem?_eq_getElem (by trivial)⟩
      have q:=hzl i z ez
      refine ⟨z.1,q.1,?_⟩
      show J4 z.1=some (fr (((zl[i]?).map Prod.snd).getD (1,1)))∧Gb 6 6 (((zl[i]?).map Prod.snd).getD (1,1))∧1≤(((zl[i]?).map Prod.snd).getD (1,1)).1
      rw [ez]
      exact q.2
    have s6':SameE (Eb b) H J4:=s06.trans (s613.trans s134).toE
    refine k L (ts.map V.ref) ((List.range mn).map fun i=>(sp i,(if i+1<mn then sp (i+1) else sp 0),g i)) t6 J4 s6' ?_ hL ?_ (by simp;trivial) ?_ (B6.same (s613.trans s134)) (by trivial) (by trivial)
    · have:H13 L=none:=sJ3.free fL
      exact s06.free B6 (s613.free this)
    · refine all_of (by simp [lts]) fun i v x hv hx=>?_
      rw [List.getElem?_map] at hv hx
      obtain ⟨tt,ht,rfl⟩:=Option.map_eq_some_iff.mp hv
      obtain ⟨i',hi',rfl⟩:=Option.map_eq_some_iff.mp hx
      obtain ⟨il,e'⟩:=List.getElem?_eq_some_iff.mp hi'
      rw [List.getElem_range] at e'
      subst e'
      rw [List.length_range] at il
      obtain ⟨x,y,z,hx',hy',hz',hT⟩:=hts i tt ht
      obtain ⟨o,ho,ho',_⟩:=hg i il
      rw [ho] at hz'
      cases hz'
      rw [List.getElem?_map,List.getElem?_range il] at hx'
      cases hx'
      have ey:y=strV (if i+1<mn then sp (i+1) else sp 0):=by
        by_cases c1:i+1<mn
        · rw [List.getElem?_append_left (by rw [List.length_drop,ml];trivial),List.getElem?_drop,List.getElem?_map,show 1+i=i+1 by trivial,List.getElem?_range c1] at hy'
          rw [if_pos c1]
          exact (Option.some.inj hy').symm
        · rw [List.getElem?_append_right (by rw [List.length_drop,ml];trivial),List.length_drop,ml,show i - (mn - 1)=0 by trivial,List.getElem?_take,if_pos (by decide),List.getElem?_map,List.getElem?_range (by trivial)] at hy'
          rw [if_neg c1]
          exact (Option.some.inj hy').symm
      rw [ey] at hT
      exact .tup hT (.cons (.str _) (.cons (.str _) (.cons (isF ho') .nil)))
    · intro x hx
      obtain ⟨i,hi,rfl⟩:=List.mem_map.mp hx
      have il:=List.mem_range.mp hi
      obtain ⟨o,_,_,gg,gg1⟩:=hg i il
      refine ⟨spm i,?_,?_,gg,gg1⟩
      · show (if i+1<mn then sp (i+1) else sp 0)∈ls
        split
        · exact spm _
        · exact spm _
      · show sp i≠(if i+1<mn then sp (i+1) else sp 0)
        split
        · exact spn i (i+1) (by trivial) (by trivial)
        · exact fun z=>spn 0 i (by trivial) (by trivial) z.symm
end
end K10
namespace K10
open PySem L2
set_option maxHeartbeats 4000000
theorem keys_nodup {ls:List (List Nat)} (h:ls.Nodup):(ls.map fun l=>(Sum.inr (S l):Key)).Nodup:=by
  rw [List.nodup_iff_pairwise_ne,List.pairwise_map]
  refine List.Pairwise.imp (fun {a b} hab z=>?_) (List.nodup_iff_pairwise_ne.mp h)
  injection z with z
  exact hab (S_inj z)
abbrev WC (z:KM.Fra):Prop:=1≤z.1∧z.1≤3∧1≤z.2∧z.2≤3
theorem wgain {p q z:KM.Fra} (hp:WC p) (hq:WC q) (hz:1≤z.1∧z.1≤5∧1≤z.2∧z.2≤6):Gb 6 6 (KM.lTim (lOvr p q) z)∧1≤(KM.lTim (lOvr p q) z).1:=by
  obtain ⟨a1,a2,a3,a4⟩:=hp
  obtain ⟨b1,b2,b3,b4⟩:=hq
  obtain ⟨c1,c2,c3,c4⟩:=hz
  have m1:p.1*q.2≤3*3:=Int.mul_le_mul a2 b4 (by trivial) (by decide)
  have m2:p.2*q.1≤3*3:=Int.mul_le_mul a4 b2 (by trivial) (by decide)
  have p1:0<p.1*q.2:=Int.mul_pos (by trivial) (by trivial)
  have p2:0<p.2*q.1:=Int.mul_pos (by trivial) (by trivial)
  have sp:=KM.low_spec (p.1*q.2) (p.2*q.1) (by trivial)
  have o1:1≤(lOvr p q).1:=ovr_pos a1 a3 b1 b3
  obtain ⟨s1,_,_,s2,s3⟩:=sp
  have o2:(lOvr p q).1≤9:=by
    have:(lOvr p q).1.natAbs≤(p.1*q.2).natAbs:=s2
    trivial
  have o3:1≤(lOvr p q).2:=s1
  have o4:(lOvr p q).2≤9:=by
    have:(lOvr p q).2.natAbs≤(p.2*q.1).natAbs:=s3
    trivial
  have n1:(lOvr p q).1*z.1≤9*5:=Int.mul_le_mul o2 c2 (by trivial) (by decide)
  have n2:(lOvr p q).2*z.2≤9*6:=Int.mul_le_mul o4 c4 (by trivial) (by decide)
  have n3:0<(lOvr p q).1*z.1:=Int.mul_pos (by trivial) (by trivial)
  have n4:0<(lOvr p q).2*z.2:=Int.mul_pos (by trivial) (by trivial)
  exact low_c (by trivial) (by trivial) (by trivial) (by trivial)
theorem wc_gb {z:KM.Fra} (h:WC z):Gb 2 2 z:=⟨show z.1.natAbs<4 by have:=h.1;have:=h.2.1;trivial,show z.2.natAbs<4 by have:=h.2.2.1;have:=h.2.2.2;trivial,h.2.2.1⟩
section
variable {P:Program}{w:World}{K:PySem.W.Frag}{mg:Str→Option Value}{base:Heap}
inductive spNetB_ (vs:List V) (H:Hp) (Q:VK):Prop
  | mk (b:Addr) (mp mt t:Int) (h0:vs=[.ref b,.int mp,.int mt]) (h1:Bx H b t) (h2:0≤t) (h3:t≤800000) (h4:2≤mp) (h5:mp≤10) (h6:1≤mt) (h7:mt≤24) (h8:∀(v:V) (ls:List (List Nat)) (ts:List TieD) (t':Int) (H':Hp),SameE (Eb b) H H'→IsD ED H' v (netD ls ts)→2≤ls.length→ls.length≤10→ls.Nodup→(∀l∈ls,NameC l)→1≤ts.length→ts.length≤24→(∀t∈ts,TGd ls t)→Bx H' b t'→t≤t'→t'≤t+700→Q v H')
def spNetB:Sp:=fun vs H Q _=>spNetB_  vs H Q
theorem ok_net_by (T:Txt K mg):FnOk P w K mg base CX0 3 T.f_l_net_by T.d_l_net_by ["_law_box_here", "_law_most_places", "_law_most_ties"] spNetB:=by
  have G_l_take:=ok_take (P:=P) (w:=w) (base:=base) T
  have G_l_names_by:=ok_names_by (P:=P) (w:=w) (base:=base) T
  have G_l_planted:=ok_planted (P:=P) (w:=w) (base:=base) T
  have G_l_any_gain:=ok_any_gain (P:=P) (w:=w) (base:=base) T
  have G_l_any_much:=ok_any_much16 (P:=P) (w:=w) (base:=base) T
  have G_l_any_price:=ok_any_price (P:=P) (w:=w) (base:=base) T
  have G_l_product:=ok_l_product (P:=P) (w:=w) (base:=base) T
  have G_l_over:=ok_l_over (P:=P) (w:=w) (base:=base) T
  refine T.F_l_net_by.ok sc_l_net_by (fun vs H Q E h=>?_) (fun cdv A outer s H vs Q E hr h=>?_)
  · obtain ⟨b,mp,mt,t,rfl,_⟩:=h
    rfl
  · obtain ⟨b,mp,mt,t,rfl,B,ht0,ht1,mp1,mp2,mt1,mt2,k⟩:=h
    refine ⟨_,(@pss_cons _ _ _ _ _ (@ps_par _ _ (3) (4) _ _ _ _ _ _ _ _ _ _ _ rfl sc_l_net_by.nd rfl rfl (by decide) k_l_net_by_l_way k_l_net_by_l_great (@pa_c _ _ _ _ _ (@pe_call _ _ _ _ _ _ _ _ _ _ _ _ _ _ _ _ G_l_take (hr.mono (by decide)) k_l_net_by_l_take T.m_l_take T.F_l_take.kp T.B_l_take .nil (@pass0 _) (@pa_c _ _ _ _ _ (@pw _ 0 _ _ (Or.inr (Or.inl k_l_net_by_l_box_here)) (by rfl) (by decide) (by decide)) (@pa_c _ _ _ _ _ (@pe_int _ _ _ _) (@pa_nil _) rfl) rfl) (by decide) (by rfl) (by rfl)) (@pa_c _ _ _ _ _ (@pe_cmpR _ _ _ _ _ _ _ _ (@op_eq _) (@pe_call _ _ _ _ _ _ _ _ _ _ _ _ _ _ _ _ G_l_take (hr.mono (by decide)) k_l_net_by_l_take T.m_l_take T.F_l_take.kp T.B_l_take .nil (@pass0 _) (@pa_c _ _ _ _ _ (@pw _ 0 _ _ (Or.inr (Or.inl k_l_net_by_l_box_here)) (by rfl) (by decide) (by decide)) (@pa_c _ _ _ _ _ (@pe_int _ _ _ _) (@pa_nil _) rfl) rfl) (by decide) (by rfl) (by rfl)) (@pe_int _ _ _ _) (@nomark _ _ (by decide) (by decide))) (@pa_nil _) rfl) rfl) (by kernel_rfl) (by rfl)) (@pss_cons _ _ _ _ _ (@ps_set _ _ (5) _ _ _ _ sc_l_net_by.nd rfl (Or.inl k_l_net_by_l_places) (@pe_call _ _ _ _ _ _ _ _ _ _ _ _ _ _ _ _ G_l_names_by (hr.mono (by decide)) k_l_net_by_l_names_by T.m_l_names_by T.F_l_names_by.kp T.B_l_names_by .nil (@pass0 _) (@pa_c _ _ _ _ _ (@pw _ 0 _ _ (Or.inr (Or.inl k_l_net_by_l_box_here)) (by rfl) (by decide) (by decide)) (@pa_c _ _ _ _ _ (@pe_ifExp _ _ _ _ _ _ _ _ (@pt_val _ _ _ (@pw _ 4 _ _ (Or.inl k_l_net_by_l_great) (by rfl) (by decide) (by decide)) (by intro _;rfl)) (@pe_op _ _ _ _ _ _ _ _ (@op_add _) (@pe_int _ _ _ _) (@pe_call _ _ _ _ _ _ _ _ _ _ _ _ _ _ _ _ G_l_take (hr.mono (by decide)) k_l_net_by_l_take T.m_l_take T.F_l_take.kp T.B_l_take .nil (@pass0 _) (@pa_c _ _ _ _ _ (@pw _ 0 _ _ (Or.inr (Or.inl k_l_net_by_l_box_here)) (by rfl) (by decide) (by decide)) (@pa_c _ _ _ _ _ (@pe_int _ _ _ _) (@pa_nil _) rfl) rfl) (by decide) (by rfl) (by rfl))) (@pe_op _ _ _ _ _ _ _ _ (@op_add _) (@pe_int _ _ _ _) (@pe_call _ _ _ _ _ _ _ _ _ _ _ _ _ _ _ _ G_l_take (hr.mono (by decide)) k_l_net_by_l_take T.m_l_take T.F_l_take.kp T.B_l_take .nil (@pass0 _) (@pa_c _ _ _ _ _ (@pw _ 0 _ _ (Or.inr (Or.inl k_l_net_by_l_box_here)) (by rfl) (by decide) (by decide)) (@pa_c _ _ _ _ _ (@pe_op _ _ _ _ _ _ _ _ (@op_sub _) (@pw _ 1 _ _ (Or.inl k_l_net_by_l_most_places) (by rfl) (by decide) (by decide)) (@pe_int _ _ _ _)) (@pa_nil _) rfl) rfl) (by decide) (by rfl) (by rfl)))) (@pa_nil _) rfl) rfl) (by decide) (by rfl) (by rfl)) (by rfl) (by first | exact .inl rfl | exact .inr rfl | assumption)) (@pss_cons _ _ _ _ _ (@ps_set _ _ (6) _ _ _ _ sc_l_net_by.nd rfl (Or.inl k_l_net_by_l_many) (@pe_ifExp _ _ _ _ _ _ _ _ (@pt_val _ _ _ (@pw _ 4 _ _ (Or.inl k_l_net_by_l_great) (by rfl) (by decide) (by decide)) (by intro _;rfl)) (@pe_op _ _ _ _ _ _ _ _ (@op_add _) (@pe_int _ _ _ _) (@pe_call _ _ _ _ _ _ _ _ _ _ _ _ _ _ _ _ G_l_take (hr.mono (by decide)) k_l_net_by_l_take T.m_l_take T.F_l_take.kp T.B_l_take .nil (@pass0 _) (@pa_c _ _ _ _ _ (@pw _ 0 _ _ (Or.inr (Or.inl k_l_net_by_l_box_here)) (by rfl) (by decide) (by decide)) (@pa_c _ _ _ _ _ (@pe_int _ _ _ _) (@pa_nil _) rfl) rfl) (by decide) (by rfl) (by rfl))) (@pe_op _ _ _ _ _ _ _ _ (@op_add _) (@pe_int _ _ _ _) (@pe_call _ _ _ _ _ _ _ _ _ _ _ _ _ _ _ _ G_l_take (hr.mono (by decide)) k_l_net_by_l_take T.m_l_take T.F_l_take.kp T.B_l_take .nil (@pass0 _) (@pa_c _ _ _ _ _ (@pw _ 0 _ _ (Or.inr (Or.inl k_l_net_by_l_box_here)) (by rfl) (by decide) (by decide)) (@pa_c _ _ _ _ _ (@pw _ 2 _ _ (Or.inl k_l_net_by_l_most_ties) (by rfl) (by decide) (by decide)) (@pa_nil _) rfl) rfl) (by decide) (by rfl) (by rfl)))) (by rfl) (by first | exact .inl rfl | exact .inr rfl | assumption)) (@pss_cons _ _ _ _ _ (@ps_set _ _ (7) _ _ _ _ sc_l_net_by.nd rfl (Or.inr k_l_net_by_l_some) (@pe_lstA _ _ _ _ (@pa_c _ _ _ _ _ (@pe_tupA _ _ _ _ _ (@pa_c _ _ _ _ _ (@pe_int _ _ _ _) (@pa_c _ _ _ _ _ (@pe_int _ _ _ _) (@pa_nil _) rfl) rfl)) (@pa_c _ _ _ _ _ (@pe_tupA _ _ _ _ _ (@pa_c _ _ _ _ _ (@pe_int _ _ _ _) (@pa_c _ _ _ _ _ (@pe_int _ _ _ _) (@pa_nil _) rfl) rfl)) (@pa_c _ _ _ _ _ (@pe_tupA _ _ _ _ _ (@pa_c _ _ _ _ _ (@pe_int _ _ _ _) (@pa_c _ _ _ _ _ (@pe_int _ _ _ _) (@pa_nil _) rfl) rfl)) (@pa_c _ _ _ _ _ (@pe_tupA _ _ _ _ _ (@pa_c _ _ _ _ _ (@pe_int _ _ _ _) (@pa_c _ _ _ _ _ (@pe_int _ _ _ _) (@pa_nil _) rfl) rfl)) (@pa_c _ _ _ _ _ (@pe_tupA _ _ _ _ _ (@pa_c _ _ _ _ _ (@pe_int _ _ _ _) (@pa_c _ _ _ _ _ (@pe_int _ _ _ _) (@pa_nil _) rfl) rfl)) (@pa_c _ _ _ _ _ (@pe_tupA _ _ _ _ _ (@pa_c _ _ _ _ _ (@pe_int _ _ _ _) (@pa_c _ _ _ _ _ (@pe_int _ _ _ _) (@pa_nil _) rfl) rfl)) (@pa_c _ _ _ _ _ (@pe_tupA _ _ _ _ _ (@pa_c _ _ _ _ _ (@pe_int _ _ _ _) (@pa_c _ _ _ _ _ (@pe_int _ _ _ _) (@pa_nil _) rfl) rfl)) (@pa_nil _) rfl) rfl) rfl) rfl) rfl) rfl) rfl)) (by rfl) (by first | exact .inl rfl | exact .inr rfl | assumption)) (@pss_cons _ _ _ _ _ (@ps_set _ _ (8) _ _ _ _ sc_l_net_by.nd rfl (Or.inl k_l_net_by_l_worths) (@pe_callTy _ _ _ _ _ _ _ _ _ (@call_dictL _ rfl) k_l_net_by_dict T.b_dict (@boot_ty_dict) (@pa_c _ _ _ _ _ (@pe_comp _ _ _ _ _ _ _ (["_law_place", "_law_box_here", "_law_some"]) (1) ([0,7]) _ _ _ _ rfl (by kernel_rfl) (@pi_tup_k _ (K) _ _ _ (@pw _ 5 _ _ (Or.inl k_l_net_by_l_places) (by rfl) (by decide) (by decide)) (by rfl)) (fun _ _ _ _ _ _=>(@pg_name _ _ (0) _ (@nodupS _ (by kernel_rfl)) rfl (Or.inl (by kernel_rfl)) (by first | exact .inl rfl | exact .inr rfl | assumption))) (fun _ _ _ _ _ _=>@pifs_nil _) (fun _ _ _ _ _ _=>(@pe_tupA _ _ _ _ _ (@pa_c _ _ _ _ _ (@pw _ 0 _ _ (Or.inl (by kernel_rfl)) (by rfl) (by decide) (by decide)) (@pa_c _ _ _ _ _ (@pe_ix _ _ _ _ _ _ _ (@ixL_k _ (K) (by rfl)) (@pw _ 2 _ _ (Or.inr (Or.inl (by kernel_rfl))) (by rfl) (by decide) (by decide)) (@pe_call _ _ _ _ _ _ _ _ _ _ _ _ _ _ _ _ G_l_take (hr.mono (by decide)) (by show _=_;kernel_rfl) T.m_l_take T.F_l_take.kp T.B_l_take .nil (@pass0 _) (@pa_c _ _ _ _ _ (@pw _ 1 _ _ (Or.inr (Or.inl (by kernel_rfl))) (by rfl) (by decide) (by decide)) (@pa_c _ _ _ _ _ (@pe_int _ _ _ _) (@pa_nil _) rfl) rfl) (by decide) (by rfl) (by rfl)) (fun _ _=>rfl)) (@pa_nil _) rfl) rfl))) (by intro _;rfl)) (@pa_nil _) rfl) (by decide) (by decide) (by rfl) (by rfl)) (by rfl) (by first | exact .inl rfl | exact .inr rfl | assumption)) (@pss_cons _ _ _ _ _ (@ps_set _ _ (9) _ _ _ _ sc_l_net_by.nd rfl (Or.inl k_l_net_by_l_ends) (@pe_ifExp _ _ _ _ _ _ _ _ (@pt_cmpR _ _ _ _ _ _ _ _ (@op_eq _) (@pw _ 3 _ _ (Or.inl k_l_net_by_l_way) (by rfl) (by decide) (by decide)) (@pe_int _ _ _ _) (@nomark _ _ (by decide) (by decide))) (@pe_call _ _ _ _ _ _ _ _ _ _ _ _ _ _ _ _ G_l_planted (hr.mono (by decide)) k_l_net_by_l_planted T.m_l_planted T.F_l_planted.kp T.B_l_planted .nil (@pass0 _) (@pa_c _ _ _ _ _ (@pw _ 0 _ _ (Or.inr (Or.inl k_l_net_by_l_box_here)) (by rfl) (by decide) (by decide)) (@pa_c _ _ _ _ _ (@pw _ 5 _ _ (Or.inl k_l_net_by_l_places) (by rfl) (by decide) (by decide)) (@pa_nil _) rfl) rfl) (by decide) (by rfl) (by rfl)) (@pe_lstA _ _ _ _ (@pa_nil _))) (by rfl) (by first | exact .inl rfl | exact .inr rfl | assumption)) (@pss_cons _ _ _ _ _ (@ps_for _ _ _ _ _ _ _ _ PassesOwn.never rfl (@pi_range1 _ _ _ _ _ _ k_l_net_by_range T.b_range (@pa_c _ _ _ _ _ (@pw _ 6 _ _ (Or.inl k_l_net_by_l_many) (by rfl) (by decide) (by decide)) (@pa_nil _) rfl) (by rfl)) (@pg_name _ _ (10) _ sc_l_net_by.nd rfl (Or.inl k_l_net_by_l_turn) (by first | exact .inl rfl | exact .inr rfl | assumption)) (@pss_cons _ _ _ _ _ (@ps_set _ _ (11) _ _ _ _ sc_l_net_by.nd rfl (Or.inl k_l_net_by_l_at) (@pe_call _ _ _ _ _ _ _ _ _ _ _ _ _ _ _ _ G_l_take (hr.mono (by decide)) k_l_net_by_l_take T.m_l_take T.F_l_take.kp T.B_l_take .nil (@pass0 _) (@pa_c _ _ _ _ _ (@pw _ 0 _ _ (Or.inr (Or.inl k_l_net_by_l_box_here)) (by rfl) (by decide) (by decide)) (@pa_c _ _ _ _ _ (@pe_callB _ _ _ _ _ _ _ _ _ (@len_k _ (K) (by rfl)) k_l_net_by_len T.b_len (@boot_b_len) (@pa_c _ _ _ _ _ (@pw _ 5 _ _ (Or.inl k_l_net_by_l_places) (by rfl) (by decide) (by decide)) (@pa_nil _) rfl) (by decide) (by decide) (by rfl) (by rfl)) (@pa_nil _) rfl) rfl) (by decide) (by rfl) (by rfl)) (by rfl) (by first | exact .inl rfl | exact .inr rfl | assumption)) (@pss_cons _ _ _ _ _ (@ps_par _ _ (12) (13) _ _ _ _ _ _ _ _ _ _ _ rfl sc_l_net_by.nd rfl rfl (by decide) k_l_net_by_l_begin k_l_net_by_l_end (@pa_c _ _ _ _ _ (@pe_ix _ _ _ _ _ _ _ (@ixT_k _ (K) (by rfl)) (@pw _ 5 _ _ (Or.inl k_l_net_by_l_places) (by rfl) (by decide) (by decide)) (@pw _ 11 _ _ (Or.inl k_l_net_by_l_at) (by rfl) (by decide) (by decide)) (fun _ _=>rfl)) (@pa_c _ _ _ _ _ (@pe_ix _ _ _ _ _ _ _ (@ixT_k _ (K) (by rfl)) (@pw _ 5 _ _ (Or.inl k_l_net_by_l_places) (by rfl) (by decide) (by decide)) (@pe_op _ _ _ _ _ _ _ _ (@op_mod _) (@pe_op _ _ _ _ _ _ _ _ (@op_add _) (@pe_op _ _ _ _ _ _ _ _ (@op_add _) (@pw _ 11 _ _ (Or.inl k_l_net_by_l_at) (by rfl) (by decide) (by decide)) (@pe_int _ _ _ _)) (@pe_call _ _ _ _ _ _ _ _ _ _ _ _ _ _ _ _ G_l_take (hr.mono (by decide)) k_l_net_by_l_take T.m_l_take T.F_l_take.kp T.B_l_take .nil (@pass0 _) (@pa_c _ _ _ _ _ (@pw _ 0 _ _ (Or.inr (Or.inl k_l_net_by_l_box_here)) (by rfl) (by decide) (by decide)) (@pa_c _ _ _ _ _ (@pe_op _ _ _ _ _ _ _ _ (@op_sub _) (@pe_callB _ _ _ _ _ _ _ _ _ (@len_k _ (K) (by rfl)) k_l_net_by_len T.b_len (@boot_b_len) (@pa_c _ _ _ _ _ (@pw _ 5 _ _ (Or.inl k_l_net_by_l_places) (by rfl) (by decide) (by decide)) (@pa_nil _) rfl) (by decide) (by decide) (by rfl) (by rfl)) (@pe_int _ _ _ _)) (@pa_nil _) rfl) rfl) (by decide) (by rfl) (by rfl))) (@pe_callB _ _ _ _ _ _ _ _ _ (@len_k _ (K) (by rfl)) k_l_net_by_len T.b_len (@boot_b_len) (@pa_c _ _ _ _ _ (@pw _ 5 _ _ (Or.inl k_l_net_by_l_places) (by rfl) (by decide) (by decide)) (@pa_nil _) rfl) (by decide) (by decide) (by rfl) (by rfl))) (fun _ _=>rfl)) (@pa_nil _) rfl) rfl) (by kernel_rfl) (by rfl)) (@pss_cons _ _ _ _ _ (@ps_set _ _ (14) _ _ _ _ sc_l_net_by.nd rfl (Or.inl k_l_net_by_l_gain) (@pe_call _ _ _ _ _ _ _ _ _ _ _ _ _ _ _ _ G_l_any_gain (hr.mono (by decide)) k_l_net_by_l_any_gain T.m_l_any_gain T.F_l_any_gain.kp T.B_l_any_gain .nil (@pass0 _) (@pa_c _ _ _ _ _ (@pw _ 0 _ _ (Or.inr (Or.inl k_l_net_by_l_box_here)) (by rfl) (by decide) (by decide)) (@pa_nil _) rfl) (by decide) (by rfl) (by rfl)) (by rfl) (by first | exact .inl rfl | exact .inr rfl | assumption)) (@pss_cons _ _ _ _ _ (@ps_if _ _ _ _ _ _ _ _ (@pt_cmpR _ _ _ _ _ _ _ _ (@op_lt _) (@pw _ 3 _ _ (Or.inl k_l_net_by_l_way) (by rfl) (by decide) (by decide)) (@pe_int _ _ _ _) (@nomark _ _ (by decide) (by decide))) (@pss_cons _ _ _ _ _ (@ps_set _ _ (15) _ _ _ _ sc_l_net_by.nd rfl (Or.inl k_l_net_by_l_less) (@pe_ix _ _ _ _ _ _ _ (@ixL_k _ (K) (by rfl)) (@pe_lstA _ _ _ _ (@pa_c _ _ _ _ _ (@pe_tupA _ _ _ _ _ (@pa_c _ _ _ _ _ (@pe_int _ _ _ _) (@pa_c _ _ _ _ _ (@pe_int _ _ _ _) (@pa_nil _) rfl) rfl)) (@pa_c _ _ _ _ _ (@pe_tupA _ _ _ _ _ (@pa_c _ _ _ _ _ (@pe_int _ _ _ _) (@pa_c _ _ _ _ _ (@pe_int _ _ _ _) (@pa_nil _) rfl) rfl)) (@pa_c _ _ _ _ _ (@pe_tupA _ _ _ _ _ (@pa_c _ _ _ _ _ (@pe_int _ _ _ _) (@pa_c _ _ _ _ _ (@pe_int _ _ _ _) (@pa_nil _) rfl) rfl)) (@pa_c _ _ _ _ _ (@pe_tupA _ _ _ _ _ (@pa_c _ _ _ _ _ (@pe_int _ _ _ _) (@pa_c _ _ _ _ _ (@pe_int _ _ _ _) (@pa_nil _) rfl) rfl)) (@pa_nil _) rfl) rfl) rfl) rfl)) (@pe_call _ _ _ _ _ _ _ _ _ _ _ _ _ _ _ _ G_l_take (hr.mono (by decide)) k_l_net_by_l_take T.m_l_take T.F_l_take.kp T.B_l_take .nil (@pass0 _) (@pa_c _ _ _ _ _ (@pw _ 0 _ _ (Or.inr (Or.inl k_l_net_by_l_box_here)) (by rfl) (by decide) (by decide)) (@pa_c _ _ _ _ _ (@pe_int _ _ _ _) (@pa_nil _) rfl) rfl) (by decide) (by rfl) (by rfl)) (fun _ _=>rfl)) (by rfl) (by first | exact .inl rfl | exact .inr rfl | assumption)) (@pss_one _ _ _ (@ps_set _ _ (14) _ _ _ _ sc_l_net_by.nd rfl (Or.inl k_l_net_by_l_gain) (@pe_call _ _ _ _ _ _ _ _ _ _ _ _ _ _ _ _ G_l_product (hr.mono (by decide)) k_l_net_by_l_product T.m_l_product T.F_l_product.kp T.B_l_product .nil (@pass0 _) (@pa_c _ _ _ _ _ (@pe_call _ _ _ _ _ _ _ _ _ _ _ _ _ _ _ _ G_l_over (hr.mono (by decide)) k_l_net_by_l_over T.m_l_over T.F_l_over.kp T.B_l_over .nil (@pass0 _) (@pa_c _ _ _ _ _ (@pe_ix _ _ _ _ _ _ _ (@ix_dict _) (@pw _ 8 _ _ (Or.inl k_l_net_by_l_worths) (by rfl) (by decide) (by decide)) (@pw _ 12 _ _ (Or.inl k_l_net_by_l_begin) (by rfl) (by decide) (by decide)) (fun _ _=>rfl)) (@pa_c _ _ _ _ _ (@pe_ix _ _ _ _ _ _ _ (@ix_dict _) (@pw _ 8 _ _ (Or.inl k_l_net_by_l_worths) (by rfl) (by decide) (by decide)) (@pw _ 13 _ _ (Or.inl k_l_net_by_l_end) (by rfl) (by decide) (by decide)) (fun _ _=>rfl)) (@pa_nil _) rfl) rfl) (by decide) (by rfl) (by rfl)) (@pa_c _ _ _ _ _ (@pw _ 15 _ _ (Or.inl k_l_net_by_l_less) (by rfl) (by decide) (by decide)) (@pa_nil _) rfl) rfl) (by decide) (by rfl) (by rfl)) (by rfl) (by first | exact .inl rfl | exact .inr rfl | assumption)))) (@pss_nil _)) (@pss_one _ _ _ (@ps_expr _ _ _ _ (@pe_bm_k _ (K) _ _ _ _ _ _ _ _ _ _ _ PySem.F.plainAttrs_list PySem.F.slot_list_insert PySem.F.type_list_insert (@mt_insertA _) (@pw _ 9 _ _ (Or.inl k_l_net_by_l_ends) (by rfl) (by decide) (by decide)) (@pa_c _ _ _ _ _ (@pe_call _ _ _ _ _ _ _ _ _ _ _ _ _ _ _ _ G_l_take (hr.mono (by decide)) k_l_net_by_l_take T.m_l_take T.F_l_take.kp T.B_l_take .nil (@pass0 _) (@pa_c _ _ _ _ _ (@pw _ 0 _ _ (Or.inr (Or.inl k_l_net_by_l_box_here)) (by rfl) (by decide) (by decide)) (@pa_c _ _ _ _ _ (@pe_op _ _ _ _ _ _ _ _ (@op_add _) (@pe_callB _ _ _ _ _ _ _ _ _ (@len_k _ (K) (by rfl)) k_l_net_by_len T.b_len (@boot_b_len) (@pa_c _ _ _ _ _ (@pw _ 9 _ _ (Or.inl k_l_net_by_l_ends) (by rfl) (by decide) (by decide)) (@pa_nil _) rfl) (by decide) (by decide) (by rfl) (by rfl)) (@pe_int _ _ _ _)) (@pa_nil _) rfl) rfl) (by decide) (by rfl) (by rfl)) (@pa_c _ _ _ _ _ (@pe_tupA _ _ _ _ _ (@pa_c _ _ _ _ _ (@pw _ 12 _ _ (Or.inl k_l_net_by_l_begin) (by rfl) (by decide) (by decide)) (@pa_c _ _ _ _ _ (@pw _ 13 _ _ (Or.inl k_l_net_by_l_end) (by rfl) (by decide) (by decide)) (@pa_c _ _ _ _ _ (@pw _ 14 _ _ (Or.inl k_l_net_by_l_gain) (by rfl) (by decide) (by decide)) (@pa_nil _) rfl) rfl) rfl)) (@pa_nil _) rfl) rfl) (by rfl) (by rfl) (by rfl) (by rfl) (by rfl) (by rfl)) (by rfl))))))) (by intro _;rfl)) (@pss_cons _ _ _ _ _ (@ps_set _ _ (16) _ _ _ _ sc_l_net_by.nd rfl (Or.inl k_l_net_by_l_ties) (@pe_lstA _ _ _ _ (@pa_nil _)) (by rfl) (by first | exact .inl rfl | exact .inr rfl | assumption)) (@pss_cons _ _ _ _ _ (@ps_for _ _ _ _ _ _ _ _ PassesOwn.never rfl (@pi_list_k _ (K) _ _ _ (@pe_slice _ _ _ _ _ _ _ _ _ _ (@sl_listA _ (K) (by rfl)) (@pw _ 9 _ _ (Or.inl k_l_net_by_l_ends) (by rfl) (by decide) (by decide)) (@po_none _) (@po_some _ _ _ (@pe_int _ _ _ _))) (by rfl)) (@pg_tup_k _ (K) _ _ _ _ (3) rfl (@pgs_cons _ _ _ _ _ (@pg_name _ _ (12) _ sc_l_net_by.nd rfl (Or.inl k_l_net_by_l_begin) (by first | exact .inl rfl | exact .inr rfl | assumption)) (@pgs_cons _ _ _ _ _ (@pg_name _ _ (13) _ sc_l_net_by.nd rfl (Or.inl k_l_net_by_l_end) (by first | exact .inl rfl | exact .inr rfl | assumption)) (@pgs_cons _ _ _ _ _ (@pg_name _ _ (14) _ sc_l_net_by.nd rfl (Or.inl k_l_net_by_l_gain) (by first | exact .inl rfl | exact .inr rfl | assumption)) (@pgs_nil _) (by rfl)) (by rfl)) (by rfl)) (by rfl) (by rfl) (by rfl)) (@pss_cons _ _ _ _ _ (@ps_set _ _ (17) _ _ _ _ sc_l_net_by.nd rfl (Or.inl k_l_net_by_l_top) (@pe_call _ _ _ _ _ _ _ _ _ _ _ _ _ _ _ _ G_l_any_much (hr.mono (by decide)) k_l_net_by_l_any_much T.m_l_any_much T.F_l_any_much.kp T.B_l_any_much .nil (@pass0 _) (@pa_c _ _ _ _ _ (@pw _ 0 _ _ (Or.inr (Or.inl k_l_net_by_l_box_here)) (by rfl) (by decide) (by decide)) (@pa_nil _) rfl) (by decide) (by rfl) (by rfl)) (by rfl) (by first | exact .inl rfl | exact .inr rfl | assumption)) (@pss_one _ _ _ (@ps_expr _ _ _ _ (@pe_bm_k _ (K) _ _ _ _ _ _ _ _ _ _ _ PySem.F.plainAttrs_list PySem.F.slot_list_append PySem.F.type_list_append (@mt_appendA _) (@pw _ 16 _ _ (Or.inl k_l_net_by_l_ties) (by rfl) (by decide) (by decide)) (@pa_c _ _ _ _ _ (@pe_tupA _ _ _ _ _ (@pa_c _ _ _ _ _ (@pw _ 12 _ _ (Or.inl k_l_net_by_l_begin) (by rfl) (by decide) (by decide)) (@pa_c _ _ _ _ _ (@pw _ 13 _ _ (Or.inl k_l_net_by_l_end) (by rfl) (by decide) (by decide)) (@pa_c _ _ _ _ _ (@pw _ 17 _ _ (Or.inl k_l_net_by_l_top) (by rfl) (by decide) (by decide)) (@pa_c _ _ _ _ _ (@pw _ 14 _ _ (Or.inl k_l_net_by_l_gain) (by rfl) (by decide) (by decide)) (@pa_c _ _ _ _ _ (@pe_call _ _ _ _ _ _ _ _ _ _ _ _ _ _ _ _ G_l_any_price (hr.mono (by decide)) k_l_net_by_l_any_price T.m_l_any_price T.F_l_any_price.kp T.B_l_any_price .nil (@pass0 _) (@pa_c _ _ _ _ _ (@pw _ 0 _ _ (Or.inr (Or.inl k_l_net_by_l_box_here)) (by rfl) (by decide) (by decide)) (@pa_nil _) rfl) (by decide) (by rfl) (by rfl)) (@pa_nil _) rfl) rfl) rfl) rfl) rfl)) (@pa_nil _) rfl) (by rfl) (by rfl) (by rfl) (by rfl) (by rfl) (by rfl)) (by rfl)))) (by intro _;rfl)) (@pss_cons _ _ _ _ _ (@ps_if _ _ _ _ _ _ _ _ (@PW.pt _ _ _ (@pw_and _ _ _ _ _ _ _ (@pt_cmpR _ _ _ _ _ _ _ _ (@op_lt _) (@pe_callB _ _ _ _ _ _ _ _ _ (@len_k _ (K) (by rfl)) k_l_net_by_len T.b_len (@boot_b_len) (@pa_c _ _ _ _ _ (@pw _ 16 _ _ (Or.inl k_l_net_by_l_ties) (by rfl) (by decide) (by decide)) (@pa_nil _) rfl) (by decide) (by decide) (by rfl) (by rfl)) (@pe_int _ _ _ _) (@nomark _ _ (by decide) (by decide))) (@pw_and1 _ _ _ _ (@pt_cmpR _ _ _ _ _ _ _ _ (@op_eq _) (@pe_call _ _ _ _ _ _ _ _ _ _ _ _ _ _ _ _ G_l_take (hr.mono (by decide)) k_l_net_by_l_take T.m_l_take T.F_l_take.kp T.B_l_take .nil (@pass0 _) (@pa_c _ _ _ _ _ (@pw _ 0 _ _ (Or.inr (Or.inl k_l_net_by_l_box_here)) (by rfl) (by decide) (by decide)) (@pa_c _ _ _ _ _ (@pe_int _ _ _ _) (@pa_nil _) rfl) rfl) (by decide) (by rfl) (by rfl)) (@pe_int _ _ _ _) (@nomark _ _ (by decide) (by decide)))))) (@pss_one _ _ _ (@ps_expr _ _ _ _ (@pe_bm_k _ (K) _ _ _ _ _ _ _ _ _ _ _ PySem.F.plainAttrs_list PySem.F.slot_list_append PySem.F.type_list_append (@mt_appendA _) (@pw _ 16 _ _ (Or.inl k_l_net_by_l_ties) (by rfl) (by decide) (by decide)) (@pa_c _ _ _ _ _ (@pe_ix _ _ _ _ _ _ _ (@ixL_k _ (K) (by rfl)) (@pw _ 16 _ _ (Or.inl k_l_net_by_l_ties) (by rfl) (by decide) (by decide)) (@pe_int _ _ _ _) (fun _ _=>rfl)) (@pa_nil _) rfl) (by rfl) (by rfl) (by rfl) (by rfl) (by rfl) (by rfl)) (by rfl))) (@pss_nil _)) (@pss_one _ _ _ (@ps_ret _ _ _ _ (@pe_tupA _ _ _ _ _ (@pa_c _ _ _ _ _ (@pw _ 5 _ _ (Or.inl k_l_net_by_l_places) (by rfl) (by decide) (by decide)) (@pa_c _ _ _ _ _ (@pe_callTy _ _ _ _ _ _ _ _ _ (@call_tuple_ofA _ (K) (by rfl)) k_l_net_by_tuple T.b_tuple (@boot_ty_tuple) (@pa_c _ _ _ _ _ (@pw _ 16 _ _ (Or.inl k_l_net_by_l_ties) (by rfl) (by decide) (by decide)) (@pa_nil _) rfl) (by decide) (by decide) (by rfl) (by rfl)) (@pa_nil _) rfl) rfl)))))))))))))),?_⟩
    refine seqP fun Q1 nP=>⟨_,rfl,b,4,t,rfl,B,by decide,by decide,by trivial,by trivial,fun wy t1 H1 w0 w1 h1a h1b s1 B1=>⟨_,rfl,b,8,t1,rfl,B1,by decide,by decide,by trivial,by trivial,fun gr t2 H2 gr0 gr1 h2a h2b s2 B2=>⟨rfl,nP _ _ _ ?_⟩⟩⟩
    generalize decide (V.int gr=V.int 0)=great
    refine seqA fun Q2 nA2=>⟨_,rfl,_,rfl,_,rfl,?_⟩
    refine ifE (fun v H'=>Ex2 fun many t'=>v=.int many∧2≤many∧many≤10∧Bx H' b t'∧t2≤t'∧t'≤t2+1∧SameE (Eb b) H2 H') ?_ (fun _ nx=>?_) (fun _ nx=>?_)
    rotate_left
    · exact ⟨_,rfl,b,4,t2,rfl,B2,by decide,by decide,by trivial,by trivial,fun r t3 H3 r0 r1 h3a h3b s3 B3=>⟨_,_,rfl,rfl,nx _ _ ⟨7+r,t3,rfl,by trivial,by trivial,B3,by trivial,by trivial,s3⟩⟩⟩
    · exact ⟨_,rfl,_,rfl,_,_,rfl,rfl,b,_,t2,rfl,B2,by trivial,log9 (by trivial) (by trivial),by trivial,by trivial,fun r t3 H3 r0 r1 h3a h3b s3 B3=>⟨_,_,rfl,rfl,nx _ _ ⟨2+r,t3,rfl,by trivial,by trivial,B3,by trivial,by trivial,s3⟩⟩⟩
    rintro v H3 ⟨many,t3,rfl,hm1,hm2,B3,h3a,h3b,s3⟩
    refine ⟨b,many,t3,rfl,B3,by trivial,by trivial,by trivial,by trivial,fun pl ls t4 H4 s4 hpl lls nd nc B4 h4a h4b=>nA2 _ _ ?_⟩
    have s04:SameE (Eb b) H H4:=((s1.trans s2).trans s3).trans s4
    have l2:2≤ls.length:=by trivial
    have l10:ls.length≤10:=by trivial
    clear hm1 hm2 lls
    refine seqA fun Q3 nA3=>⟨_,rfl,_,rfl,?_⟩
    refine ifE (fun v H'=>Ex2 fun many t'=>v=.int many∧1≤many∧many≤24∧Bx H' b t'∧t4≤t'∧t'≤t4+1∧SameE (Eb b) H4 H') ?_ (fun _ nx=>?_) (fun _ nx=>?_)
    rotate_left
    · exact ⟨_,rfl,b,15,t4,rfl,B4,by decide,by decide,by trivial,by trivial,fun r t3 H3 r0 r1 h3a h3b s3 B3=>⟨_,_,rfl,rfl,nx _ _ ⟨10+r,t3,rfl,by trivial,by trivial,B3,by trivial,by trivial,s3⟩⟩⟩
    · exact ⟨_,rfl,_,rfl,b,mt,t4,rfl,B4,by trivial,log9 (by trivial) (by trivial),by trivial,by trivial,fun r t3 H3 r0 r1 h3a h3b s3 B3=>⟨_,_,rfl,rfl,nx _ _ ⟨1+r,t3,rfl,by trivial,by trivial,B3,by trivial,by trivial,s3⟩⟩⟩
    rintro v H5 ⟨mn,t5,rfl,mn1,mn2,B5,h5a,h5b,s5⟩
    refine nA3 _ _ ?_
    have hpl5:=s5.tup _ _ hpl
    have s05:=s04.trans s5
    refine seqA fun Q4 nA4=>⟨(by show 2≤10000;decide),fun u1 K1 m1=>⟨(by show 2≤10000;decide),fun u2 K2 m2=>⟨(by show 2≤10000;decide),fun u3 K3 m3=>⟨(by show 2≤10000;decide),fun u4 K4 m4=>⟨(by show 2≤10000;decide),fun u5 K5 m5=>⟨(by show 2≤10000;decide),fun u6 K6 m6=>⟨(by show 2≤10000;decide),fun u7 K7 m7=>⟨(by show 7≤10000;decide),fun sl K8 m8=>nA4 _ _ ?_⟩⟩⟩⟩⟩⟩⟩⟩
    have sK7:Same H5 K7:=(((((m1.sm.trans m2.sm).trans m3.sm).trans m4.sm).trans m5.sm).trans m6.sm).trans m7.sm
    have sK:=sK7.trans m8.sm
    have nsl:¬sl=b:=fun z=>(B5.same sK7).ne m8.fr z.symm
    have hplK:=sK _ _ hpl5
    have BK:=B5.same sK
    have some_at:∀(r:Int) (J:Hp),0≤r→r<7→SameE (Eb b) K8 J→Ex2 fun o z=>atI [V.ref u1,V.ref u2,V.ref u3,V.ref u4,V.ref u5,V.ref u6,V.ref u7] r=some (.ref o)∧J o=some (fr z)∧WC z:=fun r J r0 r1 sJ=>by
      have up:∀{u:Addr}{us:List V},K8 u=some (.tup us)→J u=some (.tup us):=fun h=>sJ.tup _ _ h
      obtain rfl | rfl | rfl | rfl | rfl | rfl | rfl:r=0∨r=1∨r=2∨r=3∨r=4∨r=5∨r=6:=by trivial
      · exact ⟨u1,(1,1),rfl,up (m8.sm _ _ (m7.sm _ _ (m6.sm _ _ (m5.sm _ _ (m4.sm _ _ (m3.sm _ _ (m2.sm _ _ m1.at'))))))),by decide⟩
      · exact ⟨u2,(2,1),rfl,up (m8.sm _ _ (m7.sm _ _ (m6.sm _ _ (m5.sm _ _ (m4.sm _ _ (m3.sm _ _ m2.at')))))),by decide⟩
      · exact ⟨u3,(3,1),rfl,up (m8.sm _ _ (m7.sm _ _ (m6.sm _ _ (m5.sm _ _ (m4.sm _ _ m3.at'))))),by decide⟩
      · exact ⟨u4,(1,2),rfl,up (m8.sm _ _ (m7.sm _ _ (m6.sm _ _ (m5.sm _ _ m4.at')))),by decide⟩
      · exact ⟨u5,(1,3),rfl,up (m8.sm _ _ (m7.sm _ _ (m6.sm _ _ m5.at'))),by decide⟩
      · exact ⟨u6,(3,2),rfl,up (m8.sm _ _ (m7.sm _ _ m6.at')),by decide⟩
      · exact ⟨u7,(2,3),rfl,up (m8.sm _ _ m7.at'),by decide⟩
    refine seqA fun Q5 nA5=>⟨_,rfl,pl,rfl,⟨_,SqT.of hplK⟩,fun D hD=>comp_each (n:=(ls.map strV).length) (fun i H' xs=>Ex3 fun (as ws:List Addr) (t':Int)=>xs=as.map V.ref∧H' D=some (.lst xs)∧as.length=i∧ws.length=i∧(∀(j:Nat) a,as[j]?=some a→Ex3 fun l w z=>ls[j]?=some l∧ws[j]?=some w∧H' a=some (.tup [strV l,.ref w])∧H' w=some (fr z)∧WC z)∧Bx H' b t'∧t5≤t'∧t'≤t5+i∧SameE (Eb b) K8 H') (sz_of (by rw [List.length_map];trivial)) ⟨[],[],t5,rfl,upd_same,rfl,rfl,(fun j a h=>by simp at h),BK.same (Same.new hD),by trivial,by trivial,(Same.new hD).toE⟩ ?_ ?_ ?_ ?_ ?_⟩
    · rintro i H' xs ⟨as,ws,t',rfl,e1,e2,_⟩
      exact ⟨e1,by rw [List.length_map];trivial⟩
    · rintro i H' xs hi ⟨as,ws,t',_,_,_,_,_,_,_,_,sE⟩
      exact ⟨_,_,SqT.of (sE.tup _ _ hplK),List.getElem?_eq_getElem hi⟩
    · rintro H' xs ⟨as,ws,t',_,_,_,_,_,_,_,_,sE⟩
      exact ⟨_,SqT.of (sE.tup _ _ hplK),Nat.le_refl _⟩
    · have nDb:¬D=b:=fun z=>BK.ne hD z.symm
      rintro i Ha xs x Hb hi ⟨as,ws,t',rfl,eD,la,lw,hw,BD,h1,h2,sE⟩ ⟨rfl,ex⟩
      have exi:=ex _ (SqT.of (sE.tup _ _ hplK))
      rw [List.length_map] at hi
      rw [List.getElem?_map,List.getElem?_eq_getElem hi] at exi
      obtain rfl:strV ls[i]=x:=Option.some.inj exi
      refine ⟨back1,_,rfl,_,rfl,_,rfl,b,7,t',rfl,BD,by decide,by decide,by trivial,by trivial,fun r6 t6 J6 r60 r61 h6a h6b s6 B6=>?_⟩
      obtain ⟨o,z,eo,ho,wz⟩:=some_at r6 J6 r60 (by trivial) (sE.trans s6)
      refine ⟨sl,_,_,_,rfl,rfl,SqL.of (s6.old sl _ nsl (sE.old sl _ nsl m8.at')),eo,(by show 2≤10000;decide),fun q J7 n7=>?_⟩
      have js:SameE (Eb b) Hb J7:=s6.trans n7.sm.toE
      have eD7:=js.old D _ nDb eD
      have c':Ch J7 D (as.map V.ref++[.ref q]) (upd J7 D (.lst (as.map V.ref++[.ref q]))):=Ch.mk'
      refine ⟨eD7,as++[q],ws++[o],t6,by rw [List.map_append];rfl,upd_same,by rw [List.length_append,la];rfl,by rw [List.length_append,lw];rfl,fun j a' ha'=>?_,(B6.same n7.sm).ch c' (fun z=>nDb z.symm),by trivial,by trivial,(sE.trans js).up hD⟩
      by_cases hj:j<i
      · rw [List.getElem?_append_left (by trivial)] at ha'
        obtain ⟨l,w,z,e1,e2,e3,e4,e5⟩:=hw j a' ha'
        exact ⟨l,w,z,e1,by rw [List.getElem?_append_left (by trivial)];exact e2,c'.tup (js.tup _ _ e3) eD7,c'.tup (js.tup _ _ e4) eD7,e5⟩
      · have hj':j=i:=by
          have:=(List.getElem?_eq_some_iff.mp ha').1
          rw [List.length_append] at this
          simp at this
          trivial
        subst hj'
        rw [List.getElem?_append_right (by trivial),la,Nat.sub_self] at ha'
        obtain rfl:q=a':=Option.some.inj ha'
        exact ⟨ls[j],o,z,List.getElem?_eq_getElem hi,by rw [List.getElem?_append_right (by trivial),lw,Nat.sub_self];rfl,c'.tup n7.at' eD7,c'.tup (n7.sm _ _ ho) eD7,wz⟩
    rintro J xs ⟨as,ws,t6,rfl,eD,la,lw,hw,B6,h6a,h6b,s6⟩
    rw [List.length_map] at la lw h6b
    have wv:∀(j:Nat) (hj:j<ls.length),Ex3 fun a w z=>as[j]?=some a∧ws[j]?=some w∧J a=some (.tup [strV ls[j],.ref w])∧J w=some (fr z)∧WC z:=fun j hj=>by
      obtain ⟨a,ha⟩:∃a,as[j]?=some a:=⟨_,List.getElem?_eq_getElem (by trivial)⟩
      obtain ⟨l,w,z,e1,e2,e3,e4,e5⟩:=hw j a ha
      rw [List.getElem?_eq_getElem hj] at e1
      cases e1
      exact ⟨a,w,z,ha,e2,e3,e4,e5⟩
    refine ⟨D,as,ls.map fun l=>(Sum.inr (S l):Key),ws.map V.ref,rfl,eD,by rw [List.length_map];exact la,by rw [List.length_map,List.length_map];exact lw,keys_nodup nd,by rw [List.length_map];trivial,fun i a ha=>?_,fun W J1 nW=>nA5 _ _ ?_⟩
    · obtain ⟨l,w,z,e1,e2,e3,_,_⟩:=hw i a ha
      exact ⟨Sum.inr (S l),.ref w,by rw [List.getElem?_map,e1];rfl,by rw [List.getElem?_map,e2];rfl,e3⟩
    have s81:SameE (Eb b) K8 J1:=s6.trans nW.sm.toE
    have s01:SameE (Eb b) H J1:=(s05.trans sK.toE).trans s81
    have BJ:=B6.same nW.sm
    have nWb:¬W=b:=fun z=>B6.ne nW.fr z.symm
    have hplJ:J1 pl=some (.tup (ls.map strV)):=s81.tup _ _ hplK
    obtain ⟨kvs,ekv⟩:∃kvs,kvs=((ls.map fun l=>(Sum.inr (S l):Key)).zip (ws.map V.ref)):=⟨_,rfl⟩
    have hW:J1 W=some (.dK kvs):=by rw [ekv];exact nW.at'
    have wl:∀l∈ls,Ex2 fun w z=>valD kvs (Sum.inr (S l))=some (.ref w)∧J1 w=some (fr z)∧WC z:=fun l hl=>by
      obtain ⟨j,hj⟩:=List.getElem?_of_mem hl
      have hlt:=(List.getElem?_eq_some_iff.mp hj).1
      obtain ⟨a,w,z,e1,e2,e3,e4,e5⟩:=wv j hlt
      refine ⟨w,z,?_,nW.sm _ _ e4,e5⟩
      rw [ekv]
      exact valD_zip (i:=j) (keys_nodup nd) (by rw [List.getElem?_map,hj];rfl) (by rw [List.getElem?_map,e2];rfl)
    have t6a:t≤t6∧t6≤t+40:=by trivial
    clear hw wv la lw h6a h6b h5a h5b h4a h4b h1a h1b h2a h2b h3a h3b some_at sK7 sK m1 m2 m3 m4 m5 m6 m7 m8 ekv hplK hpl5 hpl BK B4 B3 B2 B1 B5 s04 s05 nW eD s6 s81 B6
    refine seqA fun Q6 nA6=>⟨_,rfl,rfl,_,rfl,?_⟩
    refine ifE (fun v H'=>Ex4 fun (L:Addr) (ys:List V) (es:List ED3) (t':Int)=>v=.ref L∧H' L=some (.lst ys)∧IsAll ED H' ys (es.map trD)∧es.length≤10∧(∀x∈es,TrC ls x)∧Bx H' b t'∧t6≤t'∧t'≤t6+5∧SameE (Eb b) J1 H'∧J1 L=none) ?_ (fun _ nx=>?_) (fun _ nx=>?_)
    rotate_left
    · exact ⟨_,rfl,_,rfl,b,pl,ls,t6,rfl,BJ,by trivial,by trivial,hplJ,l2,l10,nd,fun L ys es t7 J2 sE fL hL iL lL cL BL h7a h7b=>nx _ _ ⟨L,ys,es,t7,rfl,hL,iL,lL,cL,BL,h7a,h7b,sE,fL⟩⟩
    · exact ⟨(by show 0≤10000;decide),fun L J2 n2=>nx _ _ ⟨L,[],[],t6,rfl,n2.at',.nil,by decide,(fun x hx=>by cases hx),BJ.same n2.sm,by trivial,by trivial,n2.sm.toE,n2.fr⟩⟩
    rintro v J2 ⟨L,ys,es,t7,rfl,hL,iL,lL,cL,B7,h7a,h7b,s7,fL⟩
    refine nA6 _ _ ?_
    have nLb:¬L=b:=fun z=>BJ.ne fL z.symm
    have el:((ls.map strV).length:Int)=(ls.length:Int):=by rw [List.length_map]
    refine seqH fun DB nB=>?_
    refine ⟨_,rfl,mn,rfl,by trivial,by trivial,?_⟩
    refine for_range (fun i σ H'=>Ex9 fun (v10 v11 v12 v13 v14 v15:Option V) (ys:List V) (es:List ED3) (t':Int)=>σ=[some (.ref b),some (.int mp),some (.int mt),some (.int wy),some (.bl great),some (.ref pl),some (.int mn),some (.ref sl),some (.ref W),some (.ref L),v10,v11,v12,v13,v14,v15,none,none]∧H' L=some (.lst ys)∧IsAll ED H' ys (es.map trD)∧es.length≤10+i∧i≤es.length∧(∀x∈es,TrC ls x)∧Bx H' b t'∧t7≤t'∧t'≤t7+12*i∧SameE (Eb b) J1 H') ⟨_,_,_,_,_,_,ys,es,t7,rfl,hL,iL,by trivial,by trivial,cL,B7,by trivial,by trivial,s7⟩ ?_ ?_
    · clear hL iL lL cL B7 s7
      rintro i σ G hi ⟨v10,v11,v12,v13,v14,v15,ys,es,t8,rfl,hL,iL,lL,lL',cL,BG,h8a,h8b,sG⟩
      have lys:ys.length=es.length:=by rw [iL.length,List.length_map]
      have hplG:=sG.tup _ _ hplJ
      refine bodyH (t:=tSeq _ _) fun DH nH=>?_
      refine seqA fun DI nI=>?_
      refine ⟨_,rfl,_,rfl,pl,_,rfl,.inr (SqT.of hplG),b,_,t8,rfl,BG,by trivial,log9 (by trivial) (by trivial),by trivial,by trivial,fun f t9 G1 f0 f1 _ _ g1 BG1=>nI _ _ ?_⟩
      have hplG1:=g1.tup _ _ hplG
      refine seqP fun DJ nJ=>?_
      refine ⟨_,rfl,_,rfl,pl,_,_,_,rfl,rfl,SqT.of hplG1,atI_map f0 (by trivial),_,rfl,_,rfl,_,_,rfl,rfl,_,rfl,_,rfl,pl,_,rfl,.inr (SqT.of hplG1),_,_,rfl,rfl,b,_,t9,rfl,BG1,by trivial,log9 (by trivial) (by trivial),by trivial,by trivial,fun r t10 G2 r0 r1 _ _ g2 BG2=>?_⟩
      have hplG2:=g2.tup _ _ hplG1
      obtain ⟨q0,q1,q2⟩:=step_on (n:=(ls.length:Int)) (f:=f) (r:=r) f0 (by trivial) r0 (by trivial)
      obtain ⟨la,ela⟩:∃la,la=(f+1+r) % (ls.length:Int):=⟨_,rfl⟩
      rw [←ela] at q0 q1 q2
      have hat:atI (ls.map strV) ((f+1+r) % ((ls.map strV).length:Int))=some (strV ls[la.toNat]):=by rw [el,←ela];exact atI_map q0 (by trivial)
      refine ⟨_,_,rfl,rfl,_,rfl,pl,_,rfl,.inr (SqT.of hplG2),_,_,rfl,rfl,(by show (0:Int)<((ls.map strV).length:Int);trivial),pl,_,_,_,rfl,rfl,SqT.of hplG2,hat,nJ _ _ _ ?_⟩
      obtain ⟨bg,ebg⟩:∃bg,bg=ls[f.toNat]:=⟨_,rfl⟩
      obtain ⟨en,een⟩:∃en,en=ls[la.toNat]:=⟨_,rfl⟩
      have mbg:bg∈ls:=by rw [ebg];exact List.getElem_mem _
      have men:en∈ls:=by rw [een];exact List.getElem_mem _
      have bne:bg≠en:=fun z=>by
        rw [ebg,een] at z
        have:=nodup_inj nd (by trivial) (by trivial) z
        trivial
      rw [←ebg,←een]
      refine seqA fun DK nK=>?_
      refine ⟨_,rfl,b,t10,rfl,BG2,by trivial,by trivial,fun og n d t11 G3 g3 eg fg lg BG3 h11a h11b=>nK _ _ ?_⟩
      have g03:=(g1.trans g2).trans g3
      have t11a:t8≤t11∧t11≤t8+8:=by trivial
      refine joinS (fun σ H'=>Ex4 fun (og:Addr) (g:KM.Fra) (v15:Option V) (t':Int)=>σ=[some (.ref b),some (.int mp),some (.int mt),some (.int wy),some (.bl great),some (.ref pl),some (.int mn),some (.ref sl),some (.ref W),some (.ref L),some (.int (0+(i:Int))),some (.int f),some (.str (S bg)),some (.str (S en)),some (.ref og),v15,none,none]∧H' og=some (fr g)∧Gb 6 6 g∧1≤g.1∧Bx H' b t'∧t11≤t'∧t'≤t11+1∧SameE (Eb b) G3 H') ?_ fun nx=>?_
      · rintro σ' G4 ⟨og,g,v15,t12,rfl,hog,gg,gg1,BG4,h12a,h12b,g4⟩
        have g04:=g03.trans g4
        have hL4:=g04.old L _ nLb hL
        refine ⟨_,rfl,.inl ⟨rfl,_,SqL.of hL4⟩,_,rfl,_,rfl,L,_,rfl,.inl (SqL.of hL4),_,_,rfl,rfl,b,_,t12,rfl,BG4,by trivial,log9 (by trivial) (by trivial),by trivial,by trivial,fun r t13 G5 r0 r1 _ _ g5 BG5=>⟨_,rfl,_,rfl,_,rfl,(by show 3≤10000;decide),fun q G6 n6=>?_⟩⟩
        have g06:=(g04.trans g5).trans n6.sm.toE
        have hL6:=g06.old L _ nLb hL
        refine ⟨L,ys,r,.ref q,rfl,rfl,hL6,r0,by trivial,by trivial,fun G7 c7=>nH _ _ ⟨_,_,_,_,_,_,_,es.take r.toNat++(bg,en,g) :: es.drop r.toNat,t13,rfl,c7.at',?_,?_,?_,fun x hx=>?_,(BG5.same n6.sm).ch c7 (fun z=>nLb z.symm),by trivial,by trivial,(sG.trans g06).ch c7 fL⟩⟩
        · have i6:=iL.tupS g06
          rw [List.map_append,List.map_cons,List.map_take,List.map_drop]
          have nw:IsD ED G6 (.ref q) (trD (bg,en,g)):=.tup n6.at' (.cons (.str _) (.cons (.str _) (.cons (isF (p:=g) (n6.sm _ _ (g5.tup _ _ hog))) .nil)))
          exact ((i6.take _).append (.cons nw (i6.drop _))).mono ⟨fun _ _ n _=>absurd trivial n,fun _ _ e=>c7.tup e hL6⟩
        · rw [List.length_append,List.length_cons,List.length_take,List.length_drop];trivial
        · rw [List.length_append,List.length_cons,List.length_take,List.length_drop];trivial
        · rcases List.mem_append.mp hx with q' | q'
          · exact cL x (List.mem_of_mem_take q')
          · rcases List.mem_cons.mp q' with q' | q'
            · rw [q'];exact ⟨mbg,men,bne,gg,gg1⟩
            · exact cL x (List.mem_of_mem_drop q')
      · refine ⟨_,rfl,_,_,rfl,rfl,_,rfl,ite2 (fun c=>?_) (fun c=>?_)⟩
        · refine seqA fun DM nM=>⟨(by show 2≤10000;decide),fun u1 K1 m1=>⟨(by show 2≤10000;decide),fun u2 K2 m2=>⟨(by show 2≤10000;decide),fun u3 K3 m3=>⟨(by show 2≤10000;decide),fun u4 K4 m4=>⟨(by show 4≤10000;decide),fun l5 K5 m5=>⟨_,rfl,b,4,t11,rfl,BG3.same ((((m1.sm.trans m2.sm).trans m3.sm).trans m4.sm).trans m5.sm),by decide,by decide,by trivial,by trivial,fun r6 t12 K6 r60 r61 h6a h6b s6 B6=>?_⟩⟩⟩⟩⟩⟩
          have sm:=(((m1.sm.trans m2.sm).trans m3.sm).trans m4.sm).trans m5.sm
          have nl5:¬l5=b:=fun z=>(BG3.same (((m1.sm.trans m2.sm).trans m3.sm).trans m4.sm)).ne m5.fr z.symm
          have up:∀{u:Addr}{us:List V},K5 u=some (.tup us)→K6 u=some (.tup us):=fun h=>s6.tup _ _ h
          obtain ⟨so,z,eso,hso,gz'⟩:∃so,∃z:KM.Fra,atI [V.ref u1,V.ref u2,V.ref u3,V.ref u4] r6=some (.ref so)∧K6 so=some (fr z)∧(1≤z.1∧z.1≤5∧1≤z.2∧z.2≤6):=by
            obtain rfl | rfl | rfl | rfl:r6=0∨r6=1∨r6=2∨r6=3:=by trivial
            · exact ⟨u1,(1,1),rfl,up (m5.sm _ _ (m4.sm _ _ (m3.sm _ _ (m2.sm _ _ m1.at')))),by decide⟩
            · exact ⟨u2,(1,1),rfl,up (m5.sm _ _ (m4.sm _ _ (m3.sm _ _ m2.at'))),by decide⟩
            · exact ⟨u3,(1,2),rfl,up (m5.sm _ _ (m4.sm _ _ m3.at')),by decide⟩
            · exact ⟨u4,(5,6),rfl,up (m5.sm _ _ m4.at'),by decide⟩
          refine ⟨l5,_,_,_,rfl,rfl,SqL.of (s6.old l5 _ nl5 m5.at'),eso,nM _ _ ?_⟩
          have s36:SameE (Eb b) G3 K6:=sm.toE.trans s6
          have sJ6:SameE (Eb b) J1 K6:=(sG.trans g03).trans s36
          have hW6:=sJ6.old W _ nWb hW
          obtain ⟨w1',z1,v1,hw1,wc1⟩:=wl bg mbg
          obtain ⟨w2',z2,v2,hw2,wc2⟩:=wl en men
          refine ⟨_,rfl,_,rfl,W,kvs,Sum.inr (S bg),.ref w1',rfl,rfl,hW6,v1,_,rfl,_,rfl,W,kvs,Sum.inr (S en),.ref w2',rfl,rfl,hW6,v2,w1',w2',z1,z2,_,_,_,_,rfl,sJ6.tup _ _ hw1,sJ6.tup _ _ hw2,wc_gb wc1,wc_gb wc2,by decide,by decide,by decide,by decide,(fun _=>wc2.1),fun q K7 n7=>⟨_,rfl,q,so,_,z,4,4,3,3,rfl,n7.at',n7.sm _ _ hso,(wc_gb wc1).ovr (wc_gb wc2) wc2.1 (by decide) (by decide),⟨(show z.1.natAbs<8 by trivial),(show z.2.natAbs<8 by trivial),gz'.2.2.1⟩,by decide,by decide,by decide,by decide,(fun z=>by cases z),fun q2 K8 n8=>nx _ _ ?_⟩⟩
          have wg:=wgain wc1 wc2 gz'
          exact ⟨q2,_,_,t12,rfl,n8.at',wg.1,wg.2,(B6.same n7.sm).same n8.sm,by trivial,by trivial,s36.trans (n7.sm.trans n8.sm).toE⟩
        · exact nx _ _ ⟨og,(n,d),_,t11,rfl,eg,⟨fg.sn,fg.sd,fg.pos⟩,lg,BG3,by trivial,by trivial,SameE.refl _⟩
    clear hL iL lL cL B7 s7
    rintro σ G ⟨v10,v11,v12,v13,v14,v15,ys,es,t8,rfl,hL,iL,lL,lL',cL,BG,h8a,h8b,sG⟩
    have t8a:t≤t8∧t8≤t+333:=by trivial
    have les:1≤es.length∧es.length≤34:=by trivial
    have lys:ys.length=es.length:=by rw [iL.length,List.length_map]
    clear h7a h7b h8a h8b lL lL' t6a
    refine nB _ _ ?_
    clear nB
    refine seqA fun Q7 nA7=>⟨(by show 0≤10000;decide),fun TL G1 n1=>nA7 _ _ ?_⟩
    have fT:J1 TL=none:=sG.free BG n1.fr
    have nTb:¬TL=b:=fun z=>BG.ne n1.fr z.symm
    refine seqH fun DB nB=>?_
    refine ⟨_,rfl,_,rfl,L,_,rfl,SqL.of (n1.sm _ _ hL),fun P' G2 n2=>?_⟩
    have eP:G2 P'=some (.lst (ys.take 24)):=by
      have:=n2.at'
      rw [cutV_take (by decide)] at this
      exact this
    have nPb:¬P'=b:=fun z=>(BG.same n1.sm).ne n2.fr z.symm
    have nPT:¬P'=TL:=fun z=>by have:=n1.at';rw [←z,n2.fr] at this;cases this
    have s12:=n1.sm.trans n2.sm
    have iP:IsAll ED G2 (ys.take 24) ((es.take 24).map trD):=by
      rw [List.map_take]
      exact (iL.take 24).mono s12.toE
    have lP:(ys.take 24).length=(es.take 24).length:=by rw [List.length_take,List.length_take];trivial
    refine ⟨P',rfl,⟨_,SqL.of n2.at'⟩,?_⟩
    refine for_list (xs:=ys.take 24) (fun i σ H'=>Ex7 fun (v12 v13 v14 v17:Option V) (zs:List V) (ts:List TieD) (t':Int)=>σ=[some (.ref b),some (.int mp),some (.int mt),some (.int wy),some (.bl great),some (.ref pl),some (.int mn),some (.ref sl),some (.ref W),some (.ref L),v10,v11,v12,v13,v14,v15,some (.ref TL),v17]∧H' TL=some (.lst zs)∧IsAll ED H' zs (ts.map tieD)∧ts.length=i∧(∀x∈ts,TGd ls x)∧Bx H' b t'∧t8≤t'∧t'≤t8+4*i∧H' P'=some (.lst (ys.take 24))∧SameE (Eb b) J1 H'∧(∀a us,G2 a=some (.tup us)→H' a=some (.tup us))) ⟨_,_,_,_,[],[],t8,rfl,n2.sm _ _ n1.at',.nil,rfl,(fun x hx=>by cases hx),BG.same s12,by trivial,by trivial,eP,sG.trans s12.toE,fun _ _ h=>h⟩ ?_ ?_ ?_
    · rintro i σ H' _ ⟨_,_,_,_,_,_,_,_,_,_,_,_,_,_,_,q,_⟩
      exact SqL.of q
    · rintro i x σ F0 hx ⟨v12,v13,v14,v17,zs,ts,t9,rfl,hT,iT,lT,cT,BF,h9a,h9b,hP,sF,tF⟩
      have hi:i<(ys.take 24).length:=(List.getElem?_eq_some_iff.mp hx).1
      have h24:(ys.take 24).length≤24:=by rw [List.length_take];trivial
      obtain ⟨dx,edx,gx⟩:=iP.get hx
      rw [List.getElem?_map] at edx
      obtain ⟨tr,etr,rfl⟩:=Option.map_eq_some_iff.mp edx
      have tc:=cL tr (List.mem_of_mem_take (List.mem_of_getElem? etr))
      obtain ⟨o,og,rfl,ho,hog⟩:Ex2 fun o og=>x=.ref o∧G2 o=some (.tup [.str (S tr.1),.str (S tr.2.1),.ref og])∧G2 og=some (fr tr.2.2):=by
        cases gx with
        | @tup a xs _ h r'=>
          cases r' with
          | @cons u1 _ _ _ h1 r'=>
          cases r' with
          | @cons u2 _ _ _ h2 r'=>
          cases r' with
          | @cons u3 _ _ _ h3 r'=>
          cases r'
          cases h1
          cases h2
          obtain ⟨og,rfl,hog⟩:=isF_inv h3
          exact ⟨a,og,rfl,h,hog⟩
      have lzs:zs.length=ts.length:=by rw [iT.length,List.length_map]
      refine ⟨o,_,rfl,SqT.of (tF _ _ ho),rfl,_,_,rfl,_,_,rfl,_,_,rfl,rfl,?_⟩
      dsimp only
      refine seqA fun Q8 nA8=>⟨_,rfl,b,t9,rfl,BF,by trivial,by trivial,fun om zm t10 F1 f1 hom gm zm0 zmc BF1 h10a h10b=>nA8 _ _ ?_⟩
      have hT1:=f1.old TL _ nTb hT
      refine ⟨_,rfl,.inl ⟨rfl,_,SqL.of hT1⟩,_,rfl,_,rfl,_,rfl,_,rfl,_,rfl,b,t10,rfl,BF1,by trivial,by trivial,fun op zp t11 F2 f2 hop gp zp0 _ BF2 h11a h11b=>⟨(by show 5≤10000;decide),fun q F3 n3=>?_⟩⟩
      have f03:SameE (Eb b) F0 F3:=(f1.trans f2).trans n3.sm.toE
      have hT3:=f03.old TL _ nTb hT
      refine ⟨TL,_,_,rfl,rfl,hT3,by trivial,fun F4 c4=>⟨_,_,_,_,zs++[.ref q],ts++[⟨tr.1,tr.2.1,zm,tr.2.2,zp⟩],t11,rfl,c4.at',?_,by rw [List.length_append,lT];rfl,fun x hx=>?_,(BF2.same n3.sm).ch c4 (fun z=>nTb z.symm),by trivial,by trivial,c4.ol P' _ nPT (f03.old P' _ nPb hP),(sF.trans f03).ch c4 fT,fun a us h=>c4.tup (f03.tup _ _ (tF a us h)) hT3⟩⟩
      · rw [List.map_append]
        refine all_snoc c4 hT3 (iT.tupS f03) ?_
        exact .tup n3.at' (.cons (.str _) (.cons (.str _) (.cons (isF (p:=zm) (n3.sm _ _ (f2.tup _ _ hom))) (.cons (isF (p:=tr.2.2) (f03.tup _ _ (tF _ _ hog))) (.cons (isF (p:=zp) (n3.sm _ _ hop)) .nil)))))
      · rcases List.mem_append.mp hx with q' | q'
        · exact cT x q'
        · rw [List.mem_singleton.mp q']
          exact ⟨tc.b,tc.e,tc.ne,gm,tc.g,tc.g1,gp,zm0,zmc⟩
    rintro σ F0 ⟨v12,v13,v14,v17,zs,ts,t9,rfl,hT,iT,lT,cT,BF,h9a,h9b,hP,sF,tF⟩
    refine nB _ _ ?_
    have l24:(ys.take 24).length≤24∧1≤(ys.take 24).length:=by rw [List.length_take];trivial
    have lzs:zs.length=ts.length:=by rw [iT.length,List.length_map]
    have hplF:=sF.tup _ _ hplJ
    refine joinS (fun σ H'=>Ex3 fun (zs:List V) (ts:List TieD) (t':Int)=>σ=[some (.ref b),some (.int mp),some (.int mt),some (.int wy),some (.bl great),some (.ref pl),some (.int mn),some (.ref sl),some (.ref W),some (.ref L),v10,v11,v12,v13,v14,v15,some (.ref TL),v17]∧H' TL=some (.lst zs)∧IsAll ED H' zs (ts.map tieD)∧1≤ts.length∧ts.length≤24∧(∀x∈ts,TGd ls x)∧Bx H' b t'∧t9≤t'∧t'≤t9+1∧SameE (Eb b) J1 H') ?_ fun nx=>?_
    · rintro σ' F1 ⟨zs,ts,t10,rfl,hT,iT,l1,l2',cT,BF,h10a,h10b,sF⟩
      refine ⟨_,rfl,_,rfl,TL,_,rfl,SqL.of hT,fun q F2 n2'=>⟨(by show 2≤10000;decide),fun v F3 n3=>?_⟩⟩
      have s23:=n2'.sm.trans n3.sm
      refine k (.ref v) ls ts t10 F3 ((s01.trans sF).trans s23.toE) ?_ l2 l10 nd nc l1 l2' cT (BF.same s23) (by trivial) (by trivial)
      refine .tup n3.at' (.cons (.tup (s23 _ _ (sF.tup _ _ hplJ)) (isStrs ls)) (.cons (.tup (n3.sm _ _ n2'.at') (iT.mono s23.toE)) .nil))
    · refine ⟨_,rfl,TL,_,rfl,.inl (SqL.of hT),_,_,rfl,rfl,_,rfl,ite2 (fun c=>?_) (fun c=>?_)⟩
      · have hlt:(zs.length:Int)<24:=of_decide_eq_true c
        refine ⟨_,rfl,b,4,t9,rfl,BF,by decide,by decide,by trivial,by trivial,fun r t10 F1 r0 r1 _ _ f1 BF1=>⟨rfl,_,rfl,ite2 (fun c'=>?_) (fun c'=>?_)⟩⟩
        · have hT1:=f1.old TL _ nTb hT
          obtain ⟨y0,ey0⟩:∃y0,zs[0]?=some y0:=⟨_,List.getElem?_eq_getElem (by trivial)⟩
          obtain ⟨d0,ed0,g0⟩:=iT.get ey0
          rw [List.getElem?_map] at ed0
          obtain ⟨tt,et,rfl⟩:=Option.map_eq_some_iff.mp ed0
          refine ⟨_,rfl,.inl ⟨rfl,_,SqL.of hT1⟩,_,rfl,TL,_,_,_,rfl,rfl,SqL.of hT1,atI_nat (j:=0) ey0,TL,_,_,rfl,rfl,hT1,by trivial,fun F2 c2=>nx _ _ ⟨_,ts++[tt],t10,rfl,c2.at',?_,by simp,by rw [List.length_append];simp;trivial,fun x hx=>?_,BF1.ch c2 (fun z=>nTb z.symm),by trivial,by trivial,(sF.trans f1).ch c2 fT⟩⟩
          · rw [List.map_append]
            exact all_snoc c2 hT1 (iT.tupS f1) (g0.tupS (F:=ED) f1)
          · rcases List.mem_append.mp hx with q' | q'
            · exact cT x q'
            · rw [List.mem_singleton.mp q'];exact cT tt (List.mem_of_getElem? et)
        · exact nx _ _ ⟨zs,ts,t10,rfl,f1.old TL _ nTb hT,iT.tupS f1,by trivial,by trivial,cT,BF1,by trivial,by trivial,sF.trans f1⟩
      · exact iteF (nx _ _ ⟨zs,ts,t9,rfl,hT,iT,by trivial,by trivial,cT,BF,by trivial,by trivial,sF⟩)
end
end K10
namespace K10
open PySem L2
set_option maxHeartbeats 4000000
theorem eqv_fr (p:KM.Fra):PyData.eqv (frD p) (frD (0,1))=decide (p=(0,1)):=by
  have e1:PyData.eqv (frD p) (frD (0,1))=(p.1==0 && (p.2==1 && true)):=by simp [PyData.eqv,PyData.eqvAll]
  rw [e1]
  obtain ⟨a,b⟩:=p
  by_cases h1:a=0
  · by_cases h2:b=1
    · subst h1 h2;rfl
    · simp [h1,h2]
  · simp [h1]
theorem wt_g {p:KM.Fra}{a b:Nat} (h:Gb a b p) (ha:a≤1900) (hb:b≤1900):Wt (frD p) 3 1:=.tuple (.cons (.int (h.n.mono ha)) (.cons (.int (h.d.mono hb)) .nil))
theorem gb01:Gb 1 1 (0,1):=⟨show (0:Int).natAbs<2 ^ 1 by decide,show (1:Int).natAbs<2 ^ 1 by decide,by decide⟩
section
variable {P:Program}{w:World}{K:PySem.W.Frag}{mg:Str→Option Value}{base:Heap}
inductive spShut_ (vs:List V) (H:Hp) (Q:VK):Prop
  | mk (v:V) (t:TieD) (ls:List (List Nat)) (h0:vs=[v]) (h1:IsD ED H v (tieD t)) (h2:TGd ls t) (h3:∀H',Same H H'→Q (.bl (decide (t.most=(0,1)))) H')
def spShut:Sp:=fun vs H Q _=>spShut_  vs H Q
theorem ok_is_shut (T:Txt K mg):FnOk P w K mg base CX0 1 T.f_is_shut T.d_is_shut ["tie"] spShut:=by
  refine T.F_is_shut.ok sc_is_shut (fun vs H Q E h=>?_) (fun cdv A outer s H vs Q E hr h=>?_)
  · obtain ⟨v,t,ls,rfl,_⟩:=h
    rfl
  · obtain ⟨v,t,ls,rfl,hv,tc,k⟩:=h
    obtain ⟨o,om,og,op,rfl,ho,hom,hog,hop⟩:=tie_inv2 hv
    refine ⟨_,(@pss_one _ _ _ (@ps_ret _ _ _ _ (@pe_cmpR _ _ _ _ _ _ _ _ (@op_eqD _ hr.units) (@pe_ix _ _ _ _ _ _ _ (@ixT_k _ (K) (by rfl)) (@pw _ 0 _ _ (Or.inl k_is_shut_tie) (by rfl) (by decide) (by decide)) (@pe_int _ _ _ _) (fun _ _=>rfl)) (@pe_tupA _ _ _ _ _ (@pa_c _ _ _ _ _ (@pe_int _ _ _ _) (@pa_c _ _ _ _ _ (@pe_int _ _ _ _) (@pa_nil _) rfl) rfl)) (@nomark _ _ (by decide) (by decide))))),?_⟩
    refine ⟨_,rfl,o,_,_,_,rfl,rfl,SqT.of ho,rfl,(by show 2≤10000;decide),fun q H1 n1=>⟨frD t.most,frD (0,1),ED,ED,_,_,_,_,isF (n1.sm _ _ hom),isF (p:=(0,1)) n1.at',wt_g tc.fm (by decide) (by decide),wt_g gb01 (by decide) (by decide),by decide,?_⟩⟩
    have:=k H1 n1.sm
    rw [←eqv_fr] at this
    exact this
def DW (H:Hp) (W:Addr) (ls:List (List Nat)) (ω:List Nat→KM.Fra) (n:Nat):Prop:=∃kvs,H W=some (.dK kvs)∧kvs.length≤n∧∀l∈ls,∃o,valD kvs (Sum.inr (S l))=some (.ref o)∧H o=some (fr (ω l))
def DO (H:Hp) (O:Addr) (ls:List (List Nat)) (on:List Nat→Option Nat) (n:Nat):Prop:=∃kvs,H O=some (.dK kvs)∧kvs.length≤n∧∀l∈ls,valD kvs (Sum.inr (S l))=(on l).map fun k:Nat=>V.int (k:Int)
def lfV:Option (List Nat)→V
  | none=>.non
  | some l=>strV l
def Fr2 (W O:Addr) (H H':Hp):Prop:=∀a o,a≠W→a≠O→H a=some o→H' a=some o
theorem Fr2.tup {W O a:Addr}{H H':Hp}{k1 k2:List (Key×V)}{us:List V} (h:Fr2 W O H H') (hW:H W=some (.dK k1)) (hO:H O=some (.dK k2)) (ha:H a=some (.tup us)):H' a=some (.tup us):=
  h a _ (fun z=>by rw [z,hW] at ha;cases ha) (fun z=>by rw [z,hO] at ha;cases ha) ha
theorem stor_len (kvs:List (Key×V)) (k:Key) (v:V):(storV kvs k v).length≤kvs.length+1:=by
  unfold storV
  split
  · rw [List.length_map];trivial
  · rw [List.length_append];exact Nat.le_refl _
theorem key_ne {a b:List Nat} (h:a≠b):(Sum.inr (S a):Key)≠Sum.inr (S b):=fun z=>by
  injection z with z
  exact h (S_inj z)
theorem TGd.tok {ls:List (List Nat)}{t:TieD} (h:TGd ls t):TOk ls t:=⟨h.b,h.e,h.ne,h.g1,h.fg.pos⟩
inductive spLift_ (vs:List V) (H:Hp) (Q:VK):Prop
  | mk (v:V) (W O:Addr) (ls:List (List Nat)) (ts:List TieD) (s:LS) (p n c:Nat) (h0:vs=[v,.ref W,.ref O]) (h1:IsD ED H v (netD ls ts)) (h2:(∀t∈ts,TGd ls t)) (h3:ts.length≤40) (h4:¬W=O) (h5:DW H W ls s.ω n) (h6:DO H O ls s.on n) (h7:n≤3000) (h8:(∀l∈ls,Gb c c (s.ω l)∧1≤(s.ω l).1)) (h9:c≤2000) (h10:∀H':Hp,Fr2 W O H H'→DW H' W ls (passL p ts s).ω (n+ts.length)→DO H' O ls (passL p ts s).on (n+ts.length)→(∀l∈ls,Gb (c+6*ts.length) (c+6*ts.length) ((passL p ts s).ω l)∧1≤((passL p ts s).ω l).1)→Q (lfV (passL p ts s).lf) H')
def spLift:Sp:=fun vs H Q _=>spLift_  vs H Q
theorem ok_lift_once (T:Txt K mg):FnOk P w K mg base CX0 4 T.f_lift_once T.d_lift_once ["net", "worths", "onward"] spLift:=by
  have G_is_shut:=ok_is_shut (P:=P) (w:=w) (base:=base) T
  have G_times:=ok_times (P:=P) (w:=w) (base:=base) T
  have G_compared:=ok_compared (P:=P) (w:=w) (base:=base) T
  refine T.F_lift_once.ok sc_lift_once (fun vs H Q E h=>?_) (fun cdv A outer s H vs Q E hr h=>?_)
  · obtain ⟨v,W,O,ls,ts,st,p,n,c,rfl,_⟩:=h
    rfl
  · obtain ⟨v,W,O,ls,ts,st,p,n,c,rfl,hv,tc,h40,nWO,⟨kv0,hW0,lW0,vW0⟩,⟨ko0,hO0,lO0,vO0⟩,hn,gω,hc,k⟩:=h
    obtain ⟨na,pa,ta,ys,rfl,hna,hpa,hta,ity⟩:=net_inv2 hv
    have lys:ys.length=ts.length:=by rw [ity.length,List.length_map]
    refine ⟨_,(@pss_cons _ _ _ _ _ (@ps_set _ _ (3) _ _ _ _ sc_lift_once.nd rfl (Or.inl k_lift_once_lifted) (@pe_non _ _ _) (by rfl) (by first | exact .inl rfl | exact .inr rfl | assumption)) (@pss_cons _ _ _ _ _ (@ps_for _ _ _ _ _ _ _ _ PassesOwn.never rfl (@pi_enumK _ (K) _ _ _ _ _ _ _ k_lift_once_enumerate T.b_enumerate (@pa_c _ _ _ _ _ (@pe_ix _ _ _ _ _ _ _ (@ixT_k _ (K) (by rfl)) (@pw _ 0 _ _ (Or.inl k_lift_once_net) (by rfl) (by decide) (by decide)) (@pe_int _ _ _ _) (fun _ _=>rfl)) (@pa_nil _) rfl) (by rfl) (by rfl)) (@pg_tup_k _ (K) _ _ _ _ (2) rfl (@pgs_cons _ _ _ _ _ (@pg_name _ _ (4) _ sc_lift_once.nd rfl (Or.inl k_lift_once_number) (by first | exact .inl rfl | exact .inr rfl | assumption)) (@pgs_cons _ _ _ _ _ (@pg_name _ _ (5) _ sc_lift_once.nd rfl (Or.inl k_lift_once_tie) (by first | exact .inl rfl | exact .inr rfl | assumption)) (@pgs_nil _) (by rfl)) (by rfl)) (by rfl) (by rfl) (by rfl)) (@pss_cons _ _ _ _ _ (@ps_asg _ _ _ _ _ _ (@pw _ 5 _ _ (Or.inl k_lift_once_tie) (by rfl) (by decide) (by decide)) (@pg_tup_k _ (K) _ _ _ _ (5) rfl (@pgs_cons _ _ _ _ _ (@pg_name _ _ (6) _ sc_lift_once.nd rfl (Or.inl k_lift_once_begin) (by first | exact .inl rfl | exact .inr rfl | assumption)) (@pgs_cons _ _ _ _ _ (@pg_name _ _ (7) _ sc_lift_once.nd rfl (Or.inl k_lift_once_end) (by first | exact .inl rfl | exact .inr rfl | assumption)) (@pgs_cons _ _ _ _ _ (@pg_name _ _ (8) _ sc_lift_once.nd rfl (Or.inl k_lift_once_most) (by first | exact .inl rfl | exact .inr rfl | assumption)) (@pgs_cons _ _ _ _ _ (@pg_name _ _ (9) _ sc_lift_once.nd rfl (Or.inl k_lift_once_gain) (by first | exact .inl rfl | exact .inr rfl | assumption)) (@pgs_cons _ _ _ _ _ (@pg_name _ _ (10) _ sc_lift_once.nd rfl (Or.inl k_lift_once_price) (by first | exact .inl rfl | exact .inr rfl | assumption)) (@pgs_nil _) (by rfl)) (by rfl)) (by rfl)) (by rfl)) (by rfl)) (by rfl) (by rfl) (by rfl)) (by rfl) (by rfl) (by rfl)) (@pss_cons _ _ _ _ _ (@ps_if _ _ _ _ _ _ _ _ (@PW.pt _ _ _ (@pw_or _ _ _ _ _ _ _ (@pt_val _ _ _ (@pe_call _ _ _ _ _ _ _ _ _ _ _ _ _ _ _ _ G_is_shut (hr.mono (by decide)) k_lift_once_is_shut T.m_is_shut T.F_is_shut.kp T.B_is_shut .nil (@pass0 _) (@pa_c _ _ _ _ _ (@pw _ 5 _ _ (Or.inl k_lift_once_tie) (by rfl) (by decide) (by decide)) (@pa_nil _) rfl) (by decide) (by rfl) (by rfl)) (by intro _;rfl)) (@pw_or1 _ _ _ _ (@pt_cmpR _ _ _ _ _ _ _ _ (@op_notInDt _) (@pw _ 7 _ _ (Or.inl k_lift_once_end) (by rfl) (by decide) (by decide)) (@pw _ 1 _ _ (Or.inl k_lift_once_worths) (by rfl) (by decide) (by decide)) rfl)))) (@pss_one _ _ _ (@ps_continue _ _)) (@pss_nil _)) (@pss_cons _ _ _ _ _ (@ps_set _ _ (11) _ _ _ _ sc_lift_once.nd rfl (Or.inl k_lift_once_worth) (@pe_call _ _ _ _ _ _ _ _ _ _ _ _ _ _ _ _ G_times (hr.mono (by decide)) k_lift_once_times T.m_times T.F_times.kp T.B_times .nil (@pass0 _) (@pa_c _ _ _ _ _ (@pw _ 9 _ _ (Or.inl k_lift_once_gain) (by rfl) (by decide) (by decide)) (@pa_c _ _ _ _ _ (@pe_ix _ _ _ _ _ _ _ (@ix_dict _) (@pw _ 1 _ _ (Or.inl k_lift_once_worths) (by rfl) (by decide) (by decide)) (@pw _ 7 _ _ (Or.inl k_lift_once_end) (by rfl) (by decide) (by decide)) (fun _ _=>rfl)) (@pa_nil _) rfl) rfl) (by decide) (by rfl) (by rfl)) (by rfl) (by first | exact .inl rfl | exact .inr rfl | assumption)) (@pss_one _ _ _ (@ps_if _ _ _ _ _ _ _ _ (@PW.pt _ _ _ (@pw_or _ _ _ _ _ _ _ (@pt_cmpR _ _ _ _ _ _ _ _ (@op_notInDt _) (@pw _ 6 _ _ (Or.inl k_lift_once_begin) (by rfl) (by decide) (by decide)) (@pw _ 1 _ _ (Or.inl k_lift_once_worths) (by rfl) (by decide) (by decide)) rfl) (@pw_or1 _ _ _ _ (@pt_cmpR _ _ _ _ _ _ _ _ (@op_gt _) (@pe_call _ _ _ _ _ _ _ _ _ _ _ _ _ _ _ _ G_compared (hr.mono (by decide)) k_lift_once_compared T.m_compared T.F_compared.kp T.B_compared .nil (@pass0 _) (@pa_c _ _ _ _ _ (@pw _ 11 _ _ (Or.inl k_lift_once_worth) (by rfl) (by decide) (by decide)) (@pa_c _ _ _ _ _ (@pe_ix _ _ _ _ _ _ _ (@ix_dict _) (@pw _ 1 _ _ (Or.inl k_lift_once_worths) (by rfl) (by decide) (by decide)) (@pw _ 6 _ _ (Or.inl k_lift_once_begin) (by rfl) (by decide) (by decide)) (fun _ _=>rfl)) (@pa_nil _) rfl) rfl) (by decide) (by rfl) (by rfl)) (@pe_int _ _ _ _) (@nomark _ _ (by decide) (by decide)))))) (@pss_cons _ _ _ _ _ (@ps_asg _ _ _ _ _ _ (@pw _ 11 _ _ (Or.inl k_lift_once_worth) (by rfl) (by decide) (by decide)) (@pg_sub _ _ _ _ _ _ _ (@pw _ 1 _ _ (Or.inl k_lift_once_worths) (by rfl) (by decide) (by decide)) (@pw _ 6 _ _ (Or.inl k_lift_once_begin) (by rfl) (by decide) (by decide)) (@set_dict _) (by intro _;rfl)) (by rfl) (by rfl) (by rfl)) (@pss_cons _ _ _ _ _ (@ps_asg _ _ _ _ _ _ (@pw _ 4 _ _ (Or.inl k_lift_once_number) (by rfl) (by decide) (by decide)) (@pg_sub _ _ _ _ _ _ _ (@pw _ 2 _ _ (Or.inl k_lift_once_onward) (by rfl) (by decide) (by decide)) (@pw _ 6 _ _ (Or.inl k_lift_once_begin) (by rfl) (by decide) (by decide)) (@set_dict _) (by intro _;rfl)) (by rfl) (by rfl) (by rfl)) (@pss_one _ _ _ (@ps_set _ _ (3) _ _ _ _ sc_lift_once.nd rfl (Or.inl k_lift_once_lifted) (@pw _ 6 _ _ (Or.inl k_lift_once_begin) (by rfl) (by decide) (by decide)) (by rfl) (by first | exact .inl rfl | exact .inr rfl | assumption))))) (@pss_nil _)))))) (by intro _;rfl)) (@pss_one _ _ _ (@ps_ret _ _ _ _ (@pw _ 3 _ _ (Or.inl k_lift_once_lifted) (by rfl) (by decide) (by decide)))))),?_⟩
    refine seqA fun Q1 nA=>nA _ _ ?_
    refine seqH fun DB nB=>?_
    refine ⟨_,rfl,na,_,_,_,rfl,rfl,SqT.of hna,rfl,ta,false,rfl,⟨ys,SqT.of hta⟩,for_enumK (xs:=ys) (fun i σ H'=>Ex10 fun (v4 v5 v6 v7 v8 v9 v10 v11:Option V) (kv ko:List (Key×V))=>σ=[some (.ref na),some (.ref W),some (.ref O),some (lfV (upTo p ts st i).lf),v4,v5,v6,v7,v8,v9,v10,v11]∧H' W=some (.dK kv)∧kv.length≤n+i∧(∀l∈ls,∃o,valD kv (Sum.inr (S l))=some (.ref o)∧H' o=some (fr ((upTo p ts st i).ω l)))∧H' O=some (.dK ko)∧ko.length≤n+i∧(∀l∈ls,valD ko (Sum.inr (S l))=((upTo p ts st i).on l).map fun k:Nat=>V.int (k:Int))∧(∀l∈ls,Gb (c+6*i) (c+6*i) ((upTo p ts st i).ω l)∧1≤((upTo p ts st i).ω l).1)∧Fr2 W O H H') ⟨_,_,_,_,_,_,_,_,kv0,ko0,rfl,hW0,by trivial,vW0,hO0,by trivial,vO0,gω,fun _ _ _ _ h=>h⟩ ?_ ?_ ?_⟩
    · rintro i σ H' _ ⟨v4,v5,v6,v7,v8,v9,v10,v11,kv,ko,rfl,_,_,_,_,_,_,_,f2⟩
      exact SqT.of (f2.tup hW0 hO0 hta)
    · rintro i x T' σ J0 hx hT ⟨v4,v5,v6,v7,v8,v9,v10,v11,kv,ko,rfl,hW,lW,vW,hO,lO,vO,gω,f2⟩
      have hi:i<ys.length:=(List.getElem?_eq_some_iff.mp hx).1
      have nT:Nw J0 T' (.tup [.int (i:Int),x]) (upd J0 T' (.tup [.int (i:Int),x])):=.mk' hT
      generalize upd J0 T' (.tup [.int (i:Int),x])=J1 at nT ⊢
      obtain ⟨dy,edy,gy⟩:=ity.get hx
      rw [List.getElem?_map] at edy
      obtain ⟨t,et,rfl⟩:=Option.map_eq_some_iff.mp edy
      have tt:=tc t (List.mem_of_getElem? et)
      have eU:=upTo_succ (p:=p) (s:=st) et
      obtain ⟨o,om,og,op,rfl,ho,hom,hog,hop⟩:=tie_inv2 gy
      generalize upTo p ts st i=U at eU vW vO gω ⊢
      have up1:∀{a:Addr}{us:List V},H a=some (.tup us)→J1 a=some (.tup us):=fun h=>nT.sm _ _ (f2.tup hW0 hO0 h)
      have gyJ:IsD ED J1 (.ref o) (tieD t):=.tup (up1 ho) (.cons (.str _) (.cons (.str _) (.cons (isF (p:=t.most) (up1 hom)) (.cons (isF (p:=t.gain) (up1 hog)) (.cons (isF (p:=t.price) (up1 hop)) .nil)))))
      have grow:∀l∈ls,Gb (c+6*(i+1)) (c+6*(i+1)) (U.ω l)∧1≤(U.ω l).1:=fun l hl=>⟨(gω l hl).1.mono (by trivial) (by trivial),(gω l hl).2⟩
      have keep:∀{J:Hp}{w4 w5 w6 w7 w8 w9 w10 w11:Option V},lifts U.ω t=false→Same J0 J→Ex10 fun (v4 v5 v6 v7 v8 v9 v10 v11:Option V) (kv ko:List (Key×V))=>[some (V.ref na),some (.ref W),some (.ref O),some (lfV U.lf),w4,w5,w6,w7,w8,w9,w10,w11]=[some (.ref na),some (.ref W),some (.ref O),some (lfV (upTo p ts st (i+1)).lf),v4,v5,v6,v7,v8,v9,v10,v11]∧J W=some (.dK kv)∧kv.length≤n+(i+1)∧(∀l∈ls,∃o,valD kv (Sum.inr (S l))=some (.ref o)∧J o=some (fr ((upTo p ts st (i+1)).ω l)))∧J O=some (.dK ko)∧ko.length≤n+(i+1)∧(∀l∈ls,valD ko (Sum.inr (S l))=((upTo p ts st (i+1)).on l).map fun k:Nat=>V.int (k:Int))∧(∀l∈ls,Gb (c+6*(i+1)) (c+6*(i+1)) ((upTo p ts st (i+1)).ω l)∧1≤((upTo p ts st (i+1)).ω l).1)∧Fr2 W O H J:=by
        intro J w4 w5 w6 w7 w8 w9 w10 w11 no sJ
        rw [eU,stepL_no no]
        exact ⟨_,_,_,_,_,_,_,_,kv,ko,rfl,sJ _ _ hW,by trivial,(fun l hl'=>let ⟨o',v',h'⟩:=vW l hl';⟨o',v',sJ _ _ h'⟩),sJ _ _ hO,by trivial,vO,grow,fun a u h1 h2 h=>sJ _ _ (f2 a u h1 h2 h)⟩
      refine ⟨T',_,rfl,SqT.of nT.at',rfl,_,_,rfl,_,_,rfl,rfl,?_⟩
      dsimp only
      refine ⟨_,rfl,o,_,rfl,SqT.of (up1 ho),rfl,_,_,rfl,_,_,rfl,_,_,rfl,_,_,rfl,_,_,rfl,rfl,?_⟩
      dsimp only
      refine joinS (fun σ' H'=>t.most≠(0,1)∧σ'=[some (.ref na),some (.ref W),some (.ref O),some (lfV U.lf),some (.int (i:Int)),some (.ref o),some (.str (S t.bg)),some (.str (S t.en)),some (.ref om),some (.ref og),some (.ref op),v11]∧Same J1 H') ?_ fun nx=>?_
      · rintro σ' J2 ⟨hopen,rfl,s2⟩
        have s02:=nT.sm.trans s2
        obtain ⟨oe,ve,hoe⟩:=vW t.en tt.e
        obtain ⟨ob,vb,hob⟩:=vW t.bg tt.b
        obtain ⟨ge,pe1⟩:=gω t.en tt.e
        obtain ⟨gb,pb1⟩:=gω t.bg tt.b
        obtain ⟨g1,g2⟩:=gz tt.fg (by decide) (by decide)
        obtain ⟨e1,e2⟩:=gz ge (by trivial) (by trivial)
        obtain ⟨b1,b2⟩:=gz gb (by trivial) (by trivial)
        refine seqA fun Q2 nA2=>⟨_,rfl,_,rfl,_,rfl,W,kv,Sum.inr (S t.en),.ref oe,rfl,rfl,s02 _ _ hW,ve,og,oe,_,_,_,_,rfl,s2 _ _ (up1 hog),s02 _ _ hoe,⟨g1,g2,e1,e2,gd tt.fg ge⟩,fun q J3 n3=>nA2 _ _ ?_⟩
        have gq:Gb (c+6*(i+1)) (c+6*(i+1)) (KM.lTim t.gain (U.ω t.en)):=tt.fg.tim ge (by trivial) (by trivial)
        obtain ⟨q1,q2⟩:=gz gq (by trivial) (by trivial)
        have s03:=s02.trans n3.sm
        refine ⟨_,rfl,_,rfl,W,kv,Sum.inr (S t.bg),rfl,rfl,s03 _ _ hW,_,rfl,?_⟩
        rw [vb]
        refine iteF ?_
        refine ⟨_,rfl,_,rfl,_,rfl,W,kv,Sum.inr (S t.bg),.ref ob,rfl,rfl,s03 _ _ hW,vb,q,ob,_,_,_,_,rfl,n3.at',s03 _ _ hob,q1,q2,b1,b2,_,_,rfl,rfl,_,rfl,?_⟩
        have ecmp:decide (0<cmpI ((KM.lTim t.gain (U.ω t.en)).1*(U.ω t.bg).2) ((U.ω t.bg).1*(KM.lTim t.gain (U.ω t.en)).2))=lifts U.ω t:=by
          unfold lifts
          rw [decide_eq_true hopen,Bool.true_and]
          exact cmp_gt
        refine ite2 (fun cnd=>?_) (fun cnd=>?_)
        · have hl:lifts U.ω t=true:=ecmp.symm.trans cnd
          refine seqH fun DC nC=>⟨_,rfl,_,rfl,_,rfl,W,kv,Sum.inr (S t.bg),rfl,rfl,s03 _ _ hW,by trivial,fun J4 c4=>nC _ _ ?_⟩
          have hO4:=c4.ol O _ (fun z=>nWO z.symm) (s03 _ _ hO)
          refine seqH fun DE nE=>⟨_,rfl,_,rfl,_,rfl,O,ko,Sum.inr (S t.bg),rfl,rfl,hO4,by trivial,fun J5 c5=>nE _ _ ?_⟩
          have tupJ:∀{a:Addr}{us:List V},J3 a=some (.tup us)→J5 a=some (.tup us):=fun {a us} h=>c5.ol a _ (fun z=>by rw [z,s03 _ _ hO] at h;cases h) (c4.ol a _ (fun z=>by rw [z,s03 _ _ hW] at h;cases h) h)
          have fin:Ex10 fun (v4 v5 v6 v7 v8 v9 v10 v11:Option V) (kv ko:List (Key×V))=>[some (V.ref na),some (.ref W),some (.ref O),some (.str (S t.bg)),some (.int (i:Int)),some (.ref o),some (.str (S t.bg)),some (.str (S t.en)),some (.ref om),some (.ref og),some (.ref op),some (.ref q)]=[some (.ref na),some (.ref W),some (.ref O),some (lfV (upTo p ts st (i+1)).lf),v4,v5,v6,v7,v8,v9,v10,v11]∧J5 W=some (.dK kv)∧kv.length≤n+(i+1)∧(∀l∈ls,∃o,valD kv (Sum.inr (S l))=some (.ref o)∧J5 o=some (fr ((upTo p ts st (i+1)).ω l)))∧J5 O=some (.dK ko)∧ko.length≤n+(i+1)∧(∀l∈ls,valD ko (Sum.inr (S l))=((upTo p ts st (i+1)).on l).map fun k:Nat=>V.int (k:Int))∧(∀l∈ls,Gb (c+6*(i+1)) (c+6*(i+1)) ((upTo p ts st (i+1)).ω l)∧1≤((upTo p ts st (i+1)).ω l).1)∧Fr2 W O H J5:=by
            rw [eU,stepL_yes hl]
            refine ⟨_,_,_,_,_,_,_,_,_,_,rfl,c5.ol W _ nWO c4.at',by have:=stor_len kv (Sum.inr (S t.bg)) (.ref q);trivial,fun l hl'=>?_,c5.at',by have:=stor_len ko (Sum.inr (S t.bg)) (.int (i:Int));trivial,fun l hl'=>?_,fun l hl'=>?_,fun a u h1 h2 h=>c5.ol a _ h2 (c4.ol a _ h1 (s03 _ _ (f2 a u h1 h2 h)))⟩
            · rw [valD_stor]
              by_cases cl:l=t.bg
              · subst cl
                refine ⟨q,if_pos rfl,?_⟩
                show J5 q=some (fr (setF _ _ _ _))
                unfold setF
                rw [if_pos rfl]
                exact tupJ n3.at'
              · rw [if_neg (key_ne cl)]
                obtain ⟨o',v',h'⟩:=vW l hl'
                refine ⟨o',v',?_⟩
                show J5 o'=some (fr (setF _ _ _ _))
                unfold setF
                rw [if_neg cl]
                exact tupJ (s03 _ _ h')
            · rw [valD_stor]
              by_cases cl:l=t.bg
              · subst cl
                rw [if_pos rfl]
                show _=Option.map _ (if _ then _ else _)
                rw [if_pos rfl]
                rfl
              · rw [if_neg (key_ne cl),vO l hl']
                show _=Option.map _ (if _ then _ else _)
                rw [if_neg cl]
            · show Gb _ _ (setF _ _ _ _)∧1≤(setF _ _ _ _).1
              unfold setF
              by_cases cl:l=t.bg
              · rw [if_pos cl];exact ⟨gq,tim_pos tt.g1 tt.fg.pos pe1 ge.pos⟩
              · rw [if_neg cl];exact grow l hl'
          exact ⟨_,rfl,fin⟩
        · have hl:lifts U.ω t=false:=by
            rw [←ecmp]
            exact Bool.eq_false_iff.mpr cnd
          exact keep hl s03
      · refine ⟨_,rfl,.ref o,t,ls,rfl,gyJ,tt,fun J2 s2=>⟨_,rfl,?_⟩⟩
        have s02:=nT.sm.trans s2
        by_cases hs:t.most=(0,1)
        · rw [decide_eq_true hs]
          refine iteT (iteT ?_)
          exact keep (by unfold lifts;rw [decide_eq_false (fun z=>z hs)];rfl) s02
        · rw [decide_eq_false hs]
          obtain ⟨oe,ve,hoe⟩:=vW t.en tt.e
          refine iteF ⟨_,rfl,_,rfl,W,kv,Sum.inr (S t.en),rfl,rfl,s02 _ _ hW,_,rfl,?_⟩
          rw [ve]
          exact iteF (nx _ _ ⟨hs,rfl,s2⟩)
    · rintro σ J ⟨v4,v5,v6,v7,v8,v9,v10,v11,kv,ko,rfl,hW,lW,vW,hO,lO,vO,gω,f2⟩
      rw [lys] at lW lO gω vW vO ⊢
      exact nB _ _ ⟨_,rfl,k J f2 ⟨kv,hW,by trivial,vW⟩ ⟨ko,hO,by trivial,vO⟩ fun l hl=>⟨(gω l hl).1.mono (by trivial) (by trivial),(gω l hl).2⟩⟩
end
end K10
namespace K10
open PySem L2
set_option maxHeartbeats 4000000
def opB (ts:List TieD) (i:Nat):Bool:=((ts[i]?).map fun t=>decide (0<t.most.1)).getD false
def opIx (ts:List TieD) (n:Nat):List Nat:=(List.range n).filter (opB ts)
abbrev natV (xs:List Nat):List V:=xs.map fun i:Nat=>V.int ((i:Nat):Int)
theorem opIx_succ {ts:List TieD}{n:Nat}{t:TieD} (h:ts[n]?=some t):opIx ts (n+1)=if 0<t.most.1 then opIx ts n++[n] else opIx ts n:=by
  have e:opB ts n=decide (0<t.most.1):=by unfold opB;rw [h];rfl
  unfold opIx
  rw [List.range_succ,List.filter_append]
  by_cases q:0<t.most.1
  · rw [if_pos q];simp [e,q]
  · rw [if_neg q];simp [e,q]
theorem opIx_len (ts:List TieD) (n:Nat):(opIx ts n).length≤n:=by
  unfold opIx
  exact Nat.le_trans (List.length_filter_le ..) (by simp)
theorem open_iff {ls:List (List Nat)}{t:TieD} (h:TGd ls t):(0<t.most.1)↔t.most≠(0,1):=by
  constructor
  · intro q z;rw [z] at q;exact absurd q (by decide)
  · intro q
    have h0:=h.m0
    by_cases c:0<t.most.1
    · exact c
    · exfalso
      have e:t.most.1=0:=by trivial
      have g:=h.mc
      rw [e,Int.gcd_zero_left] at g
      have p:=h.fm.pos
      have e2:t.most.2=1:=by trivial
      exact q (Prod.ext e e2)
section
variable {P:Program}{w:World}{K:PySem.W.Frag}{mg:Str→Option Value}{base:Heap}
inductive spOpened_ (vs:List V) (H:Hp) (Q:VK):Prop
  | mk (v:V) (ls:List (List Nat)) (ts:List TieD) (h0:vs=[v]) (h1:IsD ED H v (netD ls ts)) (h2:ts.length≤40) (h3:∀D H',Same H H'→H D=none→H' D=some (.lst (natV (opIx ts ts.length)))→Q (.ref D) H')
def spOpened:Sp:=fun vs H Q _=>spOpened_  vs H Q
theorem ok_opened (T:Txt K mg):FnOk P w K mg base CX0 1 T.f_l_opened T.d_l_opened ["_law_net"] spOpened:=by
  refine T.F_l_opened.ok sc_l_opened (fun vs H Q E h=>?_) (fun cdv A outer s H vs Q E hr h=>?_)
  · obtain ⟨v,ls,ts,rfl,_⟩:=h
    rfl
  · obtain ⟨v,ls,ts,rfl,hv,h40,k⟩:=h
    obtain ⟨na,pa,ta,ys,rfl,hna,hpa,hta,ity⟩:=net_inv2 hv
    have lys:ys.length=ts.length:=by rw [ity.length,List.length_map]
    refine ⟨_,(@pss_one _ _ _ (@ps_ret _ _ _ _ (@pe_comp _ _ _ _ _ _ _ (["_law_number", "_law_tie"]) (2) ([]) _ _ _ _ rfl (by kernel_rfl) (@pi_enumK _ (K) _ _ _ _ _ _ _ k_l_opened_enumerate T.b_enumerate (@pa_c _ _ _ _ _ (@pe_ix _ _ _ _ _ _ _ (@ixT_k _ (K) (by rfl)) (@pw _ 0 _ _ (Or.inl k_l_opened_l_net) (by rfl) (by decide) (by decide)) (@pe_int _ _ _ _) (fun _ _=>rfl)) (@pa_nil _) rfl) (by rfl) (by rfl)) (fun _ _ _ _ _ _=>(@pg_tup_k _ (K) _ _ _ _ (2) rfl (@pgs_cons _ _ _ _ _ (@pg_name _ _ (0) _ (@nodupS _ (by kernel_rfl)) rfl (Or.inl (by kernel_rfl)) (by first | exact .inl rfl | exact .inr rfl | assumption)) (@pgs_cons _ _ _ _ _ (@pg_name _ _ (1) _ (@nodupS _ (by kernel_rfl)) rfl (Or.inl (by kernel_rfl)) (by first | exact .inl rfl | exact .inr rfl | assumption)) (@pgs_nil _) (by rfl)) (by rfl)) (by rfl) (by rfl) (by rfl))) (fun _ _ _ _ _ _=>(@pifs_one _ _ _ (@pt_cmpR _ _ _ _ _ _ _ _ (@op_gt _) (@pe_ix _ _ _ _ _ _ _ (@ixT_k _ (K) (by rfl)) (@pe_ix _ _ _ _ _ _ _ (@ixT_k _ (K) (by rfl)) (@pw _ 1 _ _ (Or.inl (by kernel_rfl)) (by rfl) (by decide) (by decide)) (@pe_int _ _ _ _) (fun _ _=>rfl)) (@pe_int _ _ _ _) (fun _ _=>rfl)) (@pe_int _ _ _ _) (@nomark _ _ (by decide) (by decide))))) (fun _ _ _ _ _ _=>(@pw _ 0 _ _ (Or.inl (by kernel_rfl)) (by rfl) (by decide) (by decide))) (by intro _;rfl)))),?_⟩
    refine ⟨_,rfl,na,_,_,_,rfl,rfl,SqT.of hna,rfl,ta,false,rfl,⟨ys,SqT.of hta⟩,fun D hD=>comp_over (n:=ys.length) (fun i H' zs=>H' D=some (.lst zs)∧zs=natV (opIx ts i)∧Same H H') (sz_of (by trivial)) ⟨upd_same,rfl,Same.new hD⟩ ?_ ?_ ?_ ?_ ?_⟩
    · rintro i H' zs ⟨e1,rfl,_⟩
      exact ⟨e1,by rw [List.length_map];exact opIx_len ts i⟩
    · rintro i H' zs hi ⟨_,_,sm⟩
      exact ⟨ys,ys[i],SqT.of (sm _ _ hta),List.getElem?_eq_getElem hi⟩
    · rintro H' zs ⟨_,_,sm⟩
      exact ⟨ys,SqT.of (sm _ _ hta),rfl⟩
    · rintro i H' zs x H'' hi ⟨hD',rfl,sm⟩ ⟨T',y,hT,rfl,rfl,ex⟩
      have hx:=ex ys (SqT.of (sm _ _ hta))
      obtain ⟨dy,edy,gy⟩:=ity.get hx
      rw [List.getElem?_map] at edy
      obtain ⟨t,et,rfl⟩:=Option.map_eq_some_iff.mp edy
      obtain ⟨o,om,og,op,rfl,ho,hom,hog,hop⟩:=tie_inv2 gy
      have nT:Nw H' T' (.tup [.int (i:Int),.ref o]) (upd H' T' (.tup [.int (i:Int),.ref o])):=.mk' hT
      generalize upd H' T' (.tup [.int (i:Int),.ref o])=J at nT ⊢
      have sJ:=sm.trans nT.sm
      refine ⟨T',_,rfl,SqT.of nT.at',rfl,_,_,rfl,_,_,rfl,rfl,back2,?_⟩
      refine ⟨_,rfl,o,_,_,_,rfl,rfl,SqT.of (sJ _ _ ho),rfl,om,_,_,_,rfl,rfl,SqT.of (sJ _ _ hom),rfl,_,_,rfl,rfl,_,rfl,?_⟩
      by_cases q:0<t.most.1
      · rw [show decide (t.most.1 > 0)=true from decide_eq_true q]
        refine iteT ⟨_,rfl,nT.sm _ _ hD',upd_same,?_,same_lst hD sJ⟩
        rw [opIx_succ et,if_pos q]
        simp [natV]
      · rw [show decide (t.most.1 > 0)=false from decide_eq_false q]
        refine iteF ⟨nT.sm _ _ hD',?_,sJ⟩
        rw [opIx_succ et,if_neg q]
    · rintro H' zs ⟨e1,rfl,sm⟩
      rw [lys] at e1
      exact k D H' sm hD e1
end
end K10
namespace K10
open PySem L2
set_option maxHeartbeats 4000000
theorem while_inv {c:TT}{tb:TS}{D:Ends}{σ:St}{H:Hp} (Pv:Nat→St→Hp→Prop) (m:Nat) (h0:Pv m σ H)
    (hs:∀m σ H,Pv m σ H→∀(Q:Bool→Hp→Prop) (D':Ends),(∀m' σ' H',m'<m→Pv m' σ' H'→D'.nx σ' H')→(∀v H',D.rt v H'→D'.rt v H')→(∀H1,tb D' σ H1→Q true H1)→(∀H1,D.nx σ H1→Q false H1)→c σ H Q):tWhile c tb D σ H:=by
  refine ⟨Pv,⟨m,h0⟩,fun m σ H h=>?_⟩
  refine hs m σ H h _ { D with nx:=fun σ' H'=>∃m',m'<m∧Pv m' σ' H',ct:=fun σ' H'=>∃m',m'<m∧Pv m' σ' H',bk:=D.nx } (fun m' σ' H' hm hp=>⟨m',hm,hp⟩) (fun _ _ z=>z) (fun H1 t=>?_) fun H1 t=>?_
  · rw [if_pos rfl]
    exact ⟨_,fun _ _ z=>z,t⟩
  · rw [if_neg (by decide)]
    exact t
theorem cutV_drop {xs:List V}{j:Nat} (h:j≤xs.length):cutV xs (some (j:Int)) none=xs.drop j:=by
  unfold cutV
  rw [HT.sIx_none,HT.sIx_nat,Nat.min_eq_left h]
  exact List.take_of_length_le (by rw [List.length_drop];exact Nat.le_refl _)
section
variable {P:Program}{w:World}{K:PySem.W.Frag}{mg:Str→Option Value}{base:Heap}
inductive spAhead_ (vs:List V) (H:Hp) (Q:VK):Prop
  | mk (v:V) (O:Addr) (ls:List (List Nat)) (ts:List TieD) (st:LS) (l0:List Nat) (n:Nat) (h0:vs=[v,.ref O,strV l0]) (h1:IsD ED H v (netD ls ts)) (h2:(∀t∈ts,TGd ls t)) (h3:ls.length≤10) (h4:DO H O ls st.on n) (h5:BI ls ts ls.length ts.length st) (h6:st.lf=some l0) (h7:∀(R:List Nat) (us:List TieD) (r:Addr) (H':Hp),RndOk ts R us→R.length≤10→Same H H'→H r=none→H' r=some (.lst (natV R))→Q (.ref r) H')
def spAhead:Sp:=fun vs H Q _=>spAhead_  vs H Q
theorem ok_round_ahead (T:Txt K mg):FnOk P w K mg base CX0 1 T.f_round_ahead T.d_round_ahead ["net", "onward", "place"] spAhead:=by
  refine T.F_round_ahead.ok sc_round_ahead (fun vs H Q E h=>?_) (fun cdv A outer s H vs Q E hr h=>?_)
  · obtain ⟨v,O,ls,ts,st,l0,n,rfl,_⟩:=h
    rfl
  · obtain ⟨v,O,ls,ts,st,l0,n,rfl,hv,tc,l10,⟨ko,hO,lO,vO⟩,bi,elf,k⟩:=h
    obtain ⟨na,pa,ta,ys,rfl,hna,hpa,hta,ity⟩:=net_inv2 hv
    have tk:∀t∈ts,TOk ls t:=fun t ht=>(tc t ht).tok
    refine ⟨_,(@pss_cons _ _ _ _ _ (@ps_set _ _ (3) _ _ _ _ sc_round_ahead.nd rfl (Or.inl k_round_ahead_places) (@pe_lstA _ _ _ _ (@pa_nil _)) (by rfl) (by first | exact .inl rfl | exact .inr rfl | assumption)) (@pss_cons _ _ _ _ _ (@ps_set _ _ (4) _ _ _ _ sc_round_ahead.nd rfl (Or.inl k_round_ahead_ties) (@pe_lstA _ _ _ _ (@pa_nil _)) (by rfl) (by first | exact .inl rfl | exact .inr rfl | assumption)) (@pss_cons _ _ _ _ _ (@ps_while _ _ _ _ _ _ PassesOwn.never (@pt_cmpR _ _ _ _ _ _ _ _ (@notIn_k _ (K) (by rfl)) (@pw _ 2 _ _ (Or.inl k_round_ahead_place) (by rfl) (by decide) (by decide)) (@pw _ 3 _ _ (Or.inl k_round_ahead_places) (by rfl) (by decide) (by decide)) rfl) (@pss_cons _ _ _ _ _ (@ps_expr _ _ _ _ (@pe_bm_k _ (K) _ _ _ _ _ _ _ _ _ _ _ PySem.F.plainAttrs_list PySem.F.slot_list_append PySem.F.type_list_append (@mt_appendA _) (@pw _ 3 _ _ (Or.inl k_round_ahead_places) (by rfl) (by decide) (by decide)) (@pa_c _ _ _ _ _ (@pw _ 2 _ _ (Or.inl k_round_ahead_place) (by rfl) (by decide) (by decide)) (@pa_nil _) rfl) (by rfl) (by rfl) (by rfl) (by rfl) (by rfl) (by rfl)) (by rfl)) (@pss_cons _ _ _ _ _ (@ps_expr _ _ _ _ (@pe_bm_k _ (K) _ _ _ _ _ _ _ _ _ _ _ PySem.F.plainAttrs_list PySem.F.slot_list_append PySem.F.type_list_append (@mt_appendA _) (@pw _ 4 _ _ (Or.inl k_round_ahead_ties) (by rfl) (by decide) (by decide)) (@pa_c _ _ _ _ _ (@pe_ix _ _ _ _ _ _ _ (@ix_dict _) (@pw _ 1 _ _ (Or.inl k_round_ahead_onward) (by rfl) (by decide) (by decide)) (@pw _ 2 _ _ (Or.inl k_round_ahead_place) (by rfl) (by decide) (by decide)) (fun _ _=>rfl)) (@pa_nil _) rfl) (by rfl) (by rfl) (by rfl) (by rfl) (by rfl) (by rfl)) (by rfl)) (@pss_one _ _ _ (@ps_set _ _ (2) _ _ _ _ sc_round_ahead.nd rfl (Or.inl k_round_ahead_place) (@pe_ix _ _ _ _ _ _ _ (@ixT_k _ (K) (by rfl)) (@pe_ix _ _ _ _ _ _ _ (@ixT_k _ (K) (by rfl)) (@pe_ix _ _ _ _ _ _ _ (@ixT_k _ (K) (by rfl)) (@pw _ 0 _ _ (Or.inl k_round_ahead_net) (by rfl) (by decide) (by decide)) (@pe_int _ _ _ _) (fun _ _=>rfl)) (@pe_ix _ _ _ _ _ _ _ (@ix_dict _) (@pw _ 1 _ _ (Or.inl k_round_ahead_onward) (by rfl) (by decide) (by decide)) (@pw _ 2 _ _ (Or.inl k_round_ahead_place) (by rfl) (by decide) (by decide)) (fun _ _=>rfl)) (fun _ _=>rfl)) (@pe_int _ _ _ _) (fun _ _=>rfl)) (by rfl) (by first | exact .inl rfl | exact .inr rfl | assumption)))))) (@pss_one _ _ _ (@ps_ret _ _ _ _ (@pe_slice _ _ _ _ _ _ _ _ _ _ (@sl_listA _ (K) (by rfl)) (@pw _ 4 _ _ (Or.inl k_round_ahead_ties) (by rfl) (by decide) (by decide)) (@po_some _ _ _ (@pe_bm_k _ (K) _ _ _ _ _ _ _ _ _ _ _ PySem.F.plainAttrs_list PySem.F.slot_list_index PySem.F.type_list_index (@mt_indexS _) (@pw _ 3 _ _ (Or.inl k_round_ahead_places) (by rfl) (by decide) (by decide)) (@pa_c _ _ _ _ _ (@pw _ 2 _ _ (Or.inl k_round_ahead_place) (by rfl) (by decide) (by decide)) (@pa_nil _) rfl) (by rfl) (by rfl) (by rfl) (by rfl) (by rfl) (by rfl))) (@po_none _))))))),?_⟩
    refine seqA fun Q1 nA1=>⟨Nat.zero_le _,fun pl J1 n1=>nA1 _ _ ?_⟩
    refine seqA fun Q2 nA2=>⟨Nat.zero_le _,fun tl J2 n2=>nA2 _ _ ?_⟩
    have fpl:H pl=none:=n1.fr
    have ftl:H tl=none:=n1.sm.free n2.fr
    have nlt:¬pl=tl:=fun z=>by have:=n2.fr;rw [←z,n1.at'] at this;cases this
    refine seqH fun DB nB=>?_
    refine while_inv (fun m σ H'=>Ex3 fun (us:List TieD) (ks:List Nat) (c:List Nat)=>σ=[some (.ref na),some (.ref O),some (strV c),some (.ref pl),some (.ref tl)]∧m=ls.length - us.length∧H' pl=some (.lst ((us.map (·.bg)).map strV))∧H' tl=some (.lst (natV ks))∧ks.map (fun k=>ts[k]?)=us.map some∧(∀t∈us,t.most≠(0,1))∧(∀t∈us,Ed st t)∧(us.map (·.bg)).Nodup∧us.map (·.bg)++[c]=l0 :: us.map (·.en)∧c∈ls∧ls.length≤st.la c+us.length∧(∀t∈us,t.bg∈ls)∧Same H H') ls.length ⟨[],[],l0,rfl,rfl,n2.sm _ _ n1.at',n2.at',rfl,(fun t h=>by cases h),(fun t h=>by cases h),List.nodup_nil,rfl,(bi.lf l0 elf).2,by rw [(bi.lf l0 elf).1];exact Nat.le_add_right _ _,(fun t h=>by cases h),n1.sm.trans n2.sm⟩ ?_
    rintro m σ H' ⟨us,ks,c,rfl,rfl,hpl,htl,e1,ho,he,nd,ch,hc,hla,sub,sm⟩ Q D' nD rD qT qF
    have lk:ks.length=us.length:=by have:=congrArg List.length e1;simpa using this
    have lus:us.length≤ls.length:=by
      have:=nodup_le (xs:=us.map (·.bg)) (ys:=ls) nd fun x hx=>by
        obtain ⟨t,ht,rfl⟩:=List.mem_map.mp hx
        exact sub t ht
      rwa [List.length_map] at this
    refine ⟨_,rfl,_,rfl,pl,_,rfl,.inl (SqL.of hpl),rfl,flatS _,_,rfl,?_⟩
    show Q (!inV (strV c) _) _
    rw [inS]
    cases hcn:(us.map (·.bg)).contains c with
    | false=>
      refine qT _ ?_
      have nc:c∉us.map (·.bg):=fun z=>by
        have:=List.elem_eq_true_of_mem z
        rw [List.contains] at hcn
        rw [this] at hcn
        cases hcn
      have nd2:(us.map (·.bg)++[c]).Nodup:=List.nodup_append.mpr ⟨nd,by simp,fun a ha b hb=>by
        rw [List.mem_singleton.mp hb]
        exact fun z=>nc (z▸ha)⟩
      have ll:us.length+1≤ls.length:=by
        have:=nodup_le (xs:=us.map (·.bg)++[c]) (ys:=ls) nd2 fun x hx=>by
          rcases List.mem_append.mp hx with z | z
          · obtain ⟨t,ht,rfl⟩:=List.mem_map.mp z
            exact sub t ht
          · rw [List.mem_singleton.mp z];exact hc
        rwa [List.length_append,List.length_map,List.length_singleton] at this
      obtain ⟨kk,ek⟩:∃kk,st.on c=some kk:=Option.ne_none_iff_exists'.mp (bi.la1 c (by trivial))
      obtain ⟨t,et,op,rfl,le1,lt1,la1⟩:=bi.on c kk ek
      have tt:=tc t (List.mem_of_getElem? et)
      have edt:Ed st t:=⟨vl_pos1 tt.g1 tt.fg.pos,le1,lt1⟩
      have vo:valD ko (Sum.inr (S t.bg))=some (.int (kk:Int)):=by rw [vO t.bg hc,ek];rfl
      obtain ⟨y,ey⟩:∃y,ys[kk]?=some y:=⟨_,List.getElem?_eq_getElem (by rw [ity.length,List.length_map];exact (List.getElem?_eq_some_iff.mp et).1)⟩
      obtain ⟨dy,edy,gy⟩:=ity.get ey
      rw [List.getElem?_map,et] at edy
      obtain rfl:tieD t=dy:=Option.some.inj edy
      obtain ⟨o,om,og,op',rfl,hto,_,_,_⟩:=tie_inv2 gy
      refine seqH fun DC nC=>⟨_,rfl,.inl ⟨rfl,_,SqL.of hpl⟩,_,rfl,pl,_,_,rfl,rfl,hpl,by rw [List.length_map,List.length_map];trivial,fun J3 c3=>nC _ _ ?_⟩
      have sm3:Same H J3:=fun a u h=>c3.ol a u (fun z=>by rw [z,fpl] at h;cases h) (sm a u h)
      have htl3:=c3.ol tl _ (fun z=>nlt z.symm) htl
      refine seqH fun DE nE=>⟨_,rfl,.inl ⟨rfl,_,SqL.of htl3⟩,_,rfl,_,rfl,O,ko,Sum.inr (S t.bg),_,rfl,rfl,sm3 _ _ hO,vo,tl,_,_,rfl,rfl,htl3,by rw [List.length_map];trivial,fun J4 c4=>nE _ _ ?_⟩
      have sm4:Same H J4:=fun a u h=>c4.ol a u (fun z=>by rw [z,ftl] at h;cases h) (sm3 a u h)
      refine ⟨_,rfl,na,_,_,_,rfl,rfl,SqT.of (sm4 _ _ hna),rfl,_,rfl,_,rfl,O,ko,Sum.inr (S t.bg),_,rfl,rfl,sm4 _ _ hO,vo,ta,ys,_,_,rfl,rfl,SqT.of (sm4 _ _ hta),atI_nat ey,o,_,_,_,rfl,rfl,SqT.of (sm4 _ _ hto),rfl,?_⟩
      refine nD (ls.length - (us.length+1)) _ _ (by trivial) ⟨us++[t],ks++[kk],t.en,rfl,by rw [List.length_append];rfl,?_,?_,?_,?_,?_,?_,?_,tt.e,?_,?_,sm4⟩
      · rw [c4.ol pl _ nlt c3.at']
        simp
      · rw [c4.at']
        simp [natV]
      · rw [List.map_append,List.map_append,e1]
        simp [et]
      · intro x hx
        rcases List.mem_append.mp hx with z | z
        · exact ho x z
        · rw [List.mem_singleton.mp z];exact op
      · intro x hx
        rcases List.mem_append.mp hx with z | z
        · exact he x z
        · rw [List.mem_singleton.mp z];exact edt
      · rw [List.map_append];exact nd2
      · rw [List.map_append,List.map_append]
        show (us.map (·.bg)++[t.bg])++[t.en]=_
        rw [ch]
        rfl
      · rw [List.length_append,List.length_singleton];trivial
      · intro x hx
        rcases List.mem_append.mp hx with z | z
        · exact sub x z
        · rw [List.mem_singleton.mp z];exact tt.b
    | true=>
      refine qF _ (nB _ _ ?_)
      obtain ⟨j,hj⟩:=List.getElem?_of_mem (List.contains_iff_mem.mp hcn)
      have lj:j<us.length:=by have:=(List.getElem?_eq_some_iff.mp hj).1;rwa [List.length_map] at this
      refine ⟨_,rfl,_,rfl,.inl ⟨rfl,_,SqL.of hpl⟩,_,rfl,pl,_,c,j,rfl,rfl,hpl,by rw [List.length_map];trivial,hj,nd,_,rfl,tl,_,rfl,SqL.of htl,fun r J3 n3=>?_⟩
      have rk:=rnd_of tk bi.pos e1 ho he nd ch hj
      refine k (ks.drop j) (us.drop j) r J3 rk (by rw [List.length_drop];trivial) (sm.trans n3.sm) (sm.free n3.fr) ?_
      rw [n3.at',cutV_drop (by rw [List.length_map];trivial)]
      simp only [natV,List.map_drop]
end
end K10
namespace K10
open PySem L2
set_option maxHeartbeats 4000000
section
variable {P:Program}{w:World}{K:PySem.W.Frag}{mg:Str→Option Value}{base:Heap}
theorem comp_overD {J:It}{n:Nat}{H1:Hp}{D:Addr}{σc:St}{g:TG}{tk tv:TE}{Q:VK} (Pv:Nat→Hp→List (Key×V)→Prop) (hz:n≤4000) (h0:Pv 0 (upd H1 D (.dK [])) [])
    (hD:∀i H ys,Pv i H ys→H D=some (.dK ys)∧ys.length≤i) (hgo:∀i H ys,i<n→Pv i H ys→J.go i H) (hst:∀H ys,Pv n H ys→J.stop n H)
    (hs:∀i H ys x H',i<n→Pv i H ys→J.yld i H x H'→g x σc H' fun σ2 H2=>Back σc σ2∧tk σ2 H2 fun kv H4=>∃k,kv=keyV k∧tv σ2 H4 fun y H5=>H5 D=some (.dK ys)∧Pv (i+1) (upd H5 D (.dK (storV ys k y))) (storV ys k y))
    (hd:∀H ys,Pv n H ys→Q (.ref D) H):CompWD J σc g tT tk tv D H1 Q:=by
  refine ⟨fun i m H ys=>m=n - i∧i≤n∧Pv i H ys,⟨n,by simp,Nat.zero_le _,h0⟩,?_⟩
  rintro i m H ys ⟨rfl,hi,p⟩
  obtain ⟨q1,q2⟩:=hD i H ys p
  refine ⟨q1,?_⟩
  by_cases hlt:i<n
  · refine .inr ⟨hgo i H ys hlt p,by rw [sizeLine_eq];trivial,Pv (i+1),fun H' ys' p'=>⟨n - (i+1),by trivial,rfl,hlt,p'⟩,fun x H' y=>?_⟩
    have e:=hs i H ys x H' hlt p y
    have q:(fun (σ2:St) (H2:Hp)=>Back σc σ2∧tT σ2 H2 fun b H3=>if b=true then tk σ2 H3 fun kv H4=>∃k,kv=keyV k∧tv σ2 H4 fun y H5=>H5 D=some (.dK ys)∧Pv (i+1) (upd H5 D (.dK (storV ys k y))) (storV ys k y) else Pv (i+1) H3 ys) =
        (fun σ2 H2=>Back σc σ2∧tk σ2 H2 fun kv H4=>∃k,kv=keyV k∧tv σ2 H4 fun y H5=>H5 D=some (.dK ys)∧Pv (i+1) (upd H5 D (.dK (storV ys k y))) (storV ys k y)):=by
      funext σ2 H2
      unfold tT
      dsimp only
      rw [if_pos rfl]
    rw [q]
    exact e
  · have e:i=n:=by trivial
    subst e
    exact .inl ⟨hst H ys p,hd H ys p⟩
inductive spGain_ (vs:List V) (H:Hp) (Q:VK):Prop
  | mk (v:V) (ls:List (List Nat)) (ts:List TieD) (h0:vs=[v]) (h1:IsD ED H v (netD ls ts)) (h2:(∀t∈ts,TGd ls t)) (h3:ts.length≤24) (h4:1≤ls.length) (h5:ls.length≤10) (h6:((∃m,m<ls.length∧(stL ts (m+1)).lf=none∧∀H',Same H H'→Q .non H')∨((∀m,m<ls.length→(stL ts (m+1)).lf≠none)∧∀(R:List Nat) (us:List TieD) (r:Addr) (H':Hp),RndOk ts R us→R.length≤10→Same H H'→H r=none→H' r=some (.lst (natV R))→Q (.ref r) H')))
def spGain:Sp:=fun vs H Q _=>spGain_  vs H Q
theorem ok_gaining_round (T:Txt K mg):FnOk P w K mg base CX0 5 T.f_gaining_round T.d_gaining_round ["net"] spGain:=by
  have G_lift_once:=ok_lift_once (P:=P) (w:=w) (base:=base) T
  have G_round_ahead:=ok_round_ahead (P:=P) (w:=w) (base:=base) T
  refine T.F_gaining_round.ok sc_gaining_round (fun vs H Q E h=>?_) (fun cdv A outer s H vs Q E hr h=>?_)
  · obtain ⟨v,ls,ts,rfl,_⟩:=h
    rfl
  · obtain ⟨v,ls,ts,rfl,hv,tc,h24,l1,l10,k⟩:=h
    obtain ⟨na,pa,ta,ys,rfl,hna,hpa,hta,ity⟩:=net_inv2 hv
    refine ⟨_,(@pss_cons _ _ _ _ _ (@ps_setCompD _ _ _ _ _ _ _ _ (["place"]) (1) ([]) _ _ _ _ _ (1) _ _ _ sc_gaining_round.nd rfl k_gaining_round_worths (by kernel_rfl) rfl (by kernel_rfl) (@pi_tup_k _ (K) _ _ _ (@pe_ix _ _ _ _ _ _ _ (@ixT_k _ (K) (by rfl)) (@pw _ 0 _ _ (Or.inl k_gaining_round_net) (by rfl) (by decide) (by decide)) (@pe_int _ _ _ _) (fun _ _=>rfl)) (by rfl)) (fun _ _ _ _ _ _=>(@pg_name _ _ (0) _ (@nodupS _ (by kernel_rfl)) rfl (Or.inl (by kernel_rfl)) (by first | exact .inl rfl | exact .inr rfl | assumption))) (fun _ _ _ _ _ _=>@pifs_nil _) (fun _ _ _ _ _ _=>(@pw _ 0 _ _ (Or.inl (by kernel_rfl)) (by rfl) (by decide) (by decide))) (fun _ _ _ _ _ _=>(@pe_tupA _ _ _ _ _ (@pa_c _ _ _ _ _ (@pe_int _ _ _ _) (@pa_c _ _ _ _ _ (@pe_int _ _ _ _) (@pa_nil _) rfl) rfl))) (by intro _;rfl)) (@pss_cons _ _ _ _ _ (@ps_set _ _ (2) _ _ _ _ sc_gaining_round.nd rfl (Or.inl k_gaining_round_onward) (@pe_dict0 _ _) (by rfl) (by first | exact .inl rfl | exact .inr rfl | assumption)) (@pss_cons _ _ _ _ _ (@ps_set _ _ (3) _ _ _ _ sc_gaining_round.nd rfl (Or.inl k_gaining_round_lifted) (@pe_non _ _ _) (by rfl) (by first | exact .inl rfl | exact .inr rfl | assumption)) (@pss_cons _ _ _ _ _ (@ps_for _ _ _ _ _ _ _ _ PassesOwn.never rfl (@pi_range1 _ _ _ _ _ _ k_gaining_round_range T.b_range (@pa_c _ _ _ _ _ (@pe_callB _ _ _ _ _ _ _ _ _ (@len_k _ (K) (by rfl)) k_gaining_round_len T.b_len (@boot_b_len) (@pa_c _ _ _ _ _ (@pe_ix _ _ _ _ _ _ _ (@ixT_k _ (K) (by rfl)) (@pw _ 0 _ _ (Or.inl k_gaining_round_net) (by rfl) (by decide) (by decide)) (@pe_int _ _ _ _) (fun _ _=>rfl)) (@pa_nil _) rfl) (by decide) (by decide) (by rfl) (by rfl)) (@pa_nil _) rfl) (by rfl)) (@pg_name _ _ (4) _ sc_gaining_round.nd rfl (Or.inl k_gaining_round_turn) (by first | exact .inl rfl | exact .inr rfl | assumption)) (@pss_cons _ _ _ _ _ (@ps_set _ _ (3) _ _ _ _ sc_gaining_round.nd rfl (Or.inl k_gaining_round_lifted) (@pe_call _ _ _ _ _ _ _ _ _ _ _ _ _ _ _ _ G_lift_once (hr.mono (by decide)) k_gaining_round_lift_once T.m_lift_once T.F_lift_once.kp T.B_lift_once .nil (@pass0 _) (@pa_c _ _ _ _ _ (@pw _ 0 _ _ (Or.inl k_gaining_round_net) (by rfl) (by decide) (by decide)) (@pa_c _ _ _ _ _ (@pw _ 1 _ _ (Or.inl k_gaining_round_worths) (by rfl) (by decide) (by decide)) (@pa_c _ _ _ _ _ (@pw _ 2 _ _ (Or.inl k_gaining_round_onward) (by rfl) (by decide) (by decide)) (@pa_nil _) rfl) rfl) rfl) (by decide) (by rfl) (by rfl)) (by rfl) (by first | exact .inl rfl | exact .inr rfl | assumption)) (@pss_one _ _ _ (@ps_if _ _ _ _ _ _ _ _ (@pt_cmpR _ _ _ _ _ _ _ _ (@op_isN _) (@pw _ 3 _ _ (Or.inl k_gaining_round_lifted) (by rfl) (by decide) (by decide)) (@pe_non _ _ _) (@nomark _ _ (by decide) (by decide))) (@pss_one _ _ _ (@ps_ret _ _ _ _ (@pe_non _ _ _))) (@pss_nil _)))) (by intro _;rfl)) (@pss_one _ _ _ (@ps_ret _ _ _ _ (@pe_call _ _ _ _ _ _ _ _ _ _ _ _ _ _ _ _ G_round_ahead (hr.mono (by decide)) k_gaining_round_round_ahead T.m_round_ahead T.F_round_ahead.kp T.B_round_ahead .nil (@pass0 _) (@pa_c _ _ _ _ _ (@pw _ 0 _ _ (Or.inl k_gaining_round_net) (by rfl) (by decide) (by decide)) (@pa_c _ _ _ _ _ (@pw _ 2 _ _ (Or.inl k_gaining_round_onward) (by rfl) (by decide) (by decide)) (@pa_c _ _ _ _ _ (@pw _ 3 _ _ (Or.inl k_gaining_round_lifted) (by rfl) (by decide) (by decide)) (@pa_nil _) rfl) rfl) rfl) (by decide) (by rfl) (by rfl)))))))),?_⟩
    refine seqA fun Q1 nA1=>⟨_,rfl,na,_,_,_,rfl,rfl,SqT.of hna,rfl,pa,rfl,⟨_,SqT.of hpa⟩,fun W hW=>comp_overD (n:=(ls.map strV).length) (fun i H' kv=>H' W=some (.dK kv)∧kv.length≤i∧(∀(j:Nat) l,j<i→ls[j]?=some l→∃o,valD kv (Sum.inr (S l))=some (.ref o)∧H' o=some (fr (1,1)))∧Same H H') (by rw [List.length_map];trivial) ⟨upd_same,Nat.le_refl _,(fun j l h=>by trivial),Same.new hW⟩ ?_ ?_ ?_ ?_ ?_⟩
    · rintro i H' kv ⟨e1,e2,_⟩
      exact ⟨e1,e2⟩
    · rintro i H' kv hi ⟨_,_,_,sm⟩
      exact ⟨_,_,SqT.of (sm _ _ hpa),List.getElem?_eq_getElem hi⟩
    · rintro H' kv ⟨_,_,_,sm⟩
      exact ⟨_,SqT.of (sm _ _ hpa),Nat.le_refl _⟩
    · rintro i Ha kv x Hb hi ⟨eW,lW,vW,sm⟩ ⟨rfl,ex⟩
      have exi:=ex _ (SqT.of (sm _ _ hpa))
      rw [List.length_map] at hi
      rw [List.getElem?_map,List.getElem?_eq_getElem hi] at exi
      obtain rfl:strV ls[i]=x:=Option.some.inj exi
      refine ⟨back1,_,rfl,Sum.inr (S ls[i]),rfl,(by show 2≤10000;decide),fun q J n1=>⟨n1.sm _ _ eW,upd_same,?_,fun j l hj el=>?_,same_lst hW (sm.trans n1.sm)⟩⟩
      · exact Nat.le_trans (stor_len _ _ _) (by trivial)
      · have tupU:∀{a:Addr}{us:List V},J a=some (.tup us)→upd J W (.dK (storV kv (Sum.inr (S ls[i])) (.ref q))) a=some (.tup us):=fun {a us} h=>by
          rw [upd_ne (fun z=>by rw [z,n1.sm _ _ eW] at h;cases h)];exact h
        rw [valD_stor]
        by_cases c:l=ls[i]
        · rw [c,if_pos rfl]
          exact ⟨q,rfl,tupU n1.at'⟩
        · rw [if_neg (key_ne c)]
          have hji:j<i:=by
            by_cases z:j=i
            · subst z
              rw [List.getElem?_eq_getElem hi] at el
              exact absurd (Option.some.inj el).symm c
            · trivial
          obtain ⟨o,v',h'⟩:=vW j l hji el
          exact ⟨o,v',tupU (n1.sm _ _ h')⟩
    rintro H1 kv ⟨eW,lW,vW,s1⟩
    rw [List.length_map] at lW vW
    refine nA1 _ _ ?_
    refine seqA fun Q2 nA2=>fun O H2 n2=>nA2 _ _ ?_
    have nWO:¬W=O:=fun z=>by rw [←z] at n2;have:=n2.fr;rw [eW] at this;cases this
    have fO:H O=none:=s1.free n2.fr
    refine seqA fun Q3 nA3=>nA3 _ _ ?_
    have s2:=s1.trans n2.sm
    have dw0:DW H2 W ls (fun _=>(1,1)) 10:=⟨kv,n2.sm _ _ eW,by trivial,fun l hl=>by
      obtain ⟨j,hj⟩:=List.getElem?_of_mem hl
      obtain ⟨o,v',h'⟩:=vW j l (List.getElem?_eq_some_iff.mp hj).1 hj
      exact ⟨o,v',n2.sm _ _ h'⟩⟩
    have same_of:∀{J:Hp},Fr2 W O H2 J→Same H J:=fun f a o h=>f a o (fun z=>by rw [z,hW] at h;cases h) (fun z=>by rw [z,fO] at h;cases h) (s2 _ _ h)
    refine seqR fun DB nB rB=>?_
    refine ⟨_,rfl,na,_,_,_,rfl,rfl,SqT.of (s2 _ _ hna),rfl,pa,_,rfl,.inr (SqT.of (s2 _ _ hpa)),_,rfl,by trivial,by rw [List.length_map];trivial,?_⟩
    rw [List.length_map,Int.toNat_natCast]
    refine for_range (fun i σ H'=>∃(v4:Option V),σ=[some (.ref na),some (.ref W),some (.ref O),some (lfV (stL ts i).lf),v4]∧(∀m,m<i→(stL ts (m+1)).lf≠none)∧DW H' W ls (stL ts i).ω (10+24*i)∧DO H' O ls (stL ts i).on (10+24*i)∧(∀l∈ls,Gb (1+144*i) (1+144*i) ((stL ts i).ω l)∧1≤((stL ts i).ω l).1)∧Fr2 W O H2 H') ?_ ?_ ?_
    · exact ⟨_,rfl,(fun m h=>by trivial),dw0,⟨[],n2.at',by simp,fun l hl=>rfl⟩,(fun l hl=>⟨gb11,(by show (1:Int)≤1;decide)⟩),fun _ _ _ _ h=>h⟩
    · rintro i σ J hi ⟨v4,rfl,hno,dw,do',gω,f2⟩
      have hvJ:IsD ED J (.ref na) (netD ls ts):=hv.mono (same_of f2).toE
      refine bodyR (t:=tSeq _ _) fun DC nC rC=>?_
      refine seqA fun Q4 nA4=>⟨_,rfl,_,rfl,_,rfl,.ref na,W,O,ls,ts,stL ts i,i+1,10+24*i,1+144*i,rfl,hvJ,tc,by trivial,nWO,dw,do',by trivial,gω,by trivial,fun J2 f3 dw2 do2 gω2=>nA4 _ _ ?_⟩
      have es:passL (i+1) ts (stL ts i)=stL ts (i+1):=rfl
      rw [es] at dw2 do2 gω2 ⊢
      have f4:Fr2 W O H2 J2:=fun a o h1 h2 h=>f3 a o h1 h2 (f2 a o h1 h2 h)
      cases e:(stL ts (i+1)).lf with
      | none=>
        refine ⟨_,rfl,rfl,_,rfl,iteT (rC _ _ (rB _ _ ?_))⟩
        rcases k with ⟨m,_,_,k⟩ | ⟨k,_⟩
        · exact k J2 (same_of f4)
        · exact absurd e (k i hi)
      | some l=>
        refine ⟨_,rfl,rfl,_,rfl,iteF (nC _ _ ?_)⟩
        obtain ⟨ko2,hO2,lO2,vO2⟩:=do2
        obtain ⟨kv2,hW2,lW2,vW2⟩:=dw2
        refine ⟨_,by rw [e];rfl,fun m hm=>?_,⟨kv2,hW2,by trivial,vW2⟩,⟨ko2,hO2,by trivial,vO2⟩,(fun l hl=>⟨(gω2 l hl).1.mono (by trivial) (by trivial),(gω2 l hl).2⟩),f4⟩
        by_cases c:m=i
        · rw [c,e];intro z;cases z
        · exact hno m (by trivial)
    · rintro σ J ⟨v4,rfl,hno,dw,do',gω,f2⟩
      rcases k with ⟨m,hm,hm',_⟩ | ⟨_,k⟩
      · exact absurd hm' (hno m hm)
      obtain ⟨n',en⟩:∃n',ls.length=n'+1:=⟨ls.length - 1,by trivial⟩
      obtain ⟨l0,e0⟩:=Option.ne_none_iff_exists'.mp (hno n' (by trivial))
      have e1:(stL ts ls.length).lf=some l0:=by rw [en];exact e0
      refine nB _ _ ?_
      have sJ:=same_of f2
      have hvJ:IsD ED J (.ref na) (netD ls ts):=hv.mono sJ.toE
      refine ⟨_,rfl,_,rfl,_,rfl,.ref na,O,ls,ts,stL ts ls.length,l0,_,by rw [e1];rfl,hvJ,tc,l10,do',BI.st (fun t ht=>(tc t ht).tok) _,e1,fun R us r H' rk lR s' fr' hr'=>?_⟩
      exact k R us r H' rk lR (sJ.trans s') (sJ.free fr') hr'
end
end K10
namespace K10
open PySem L2
set_option maxHeartbeats 4000000
section
variable {P:Program}{w:World}{K:PySem.W.Frag}{mg:Str→Option Value}{base:Heap}
inductive spAll_ (vs:List V) (H:Hp) (Q:VK):Prop
  | mk (v:V) (W:Addr) (ls:List (List Nat)) (ts:List TieD) (mx:Nat) (h0:vs=[v,.ref W]) (h1:IsD ED H v (netD ls ts)) (h2:(∀t∈ts,TGd ls t)) (h3:ts.length≤24) (h4:ls.length≤10) (h5:mx<ls.length) (h6:(stL ts (mx+1)).lf=none) (h7:DW H W ls (fun _=>(1,1)) 10) (h8:∀(m:Nat) (O:Addr) (H':Hp),m<ls.length→(stL ts (m+1)).lf=none→(∀a o,a≠W→H a=some o→H' a=some o)→DW H' W ls (stL ts m).ω 300→(∀l∈ls,Gb 1500 1500 ((stL ts m).ω l)∧1≤((stL ts m).ω l).1)→Q (.ref O) H')
def spAll:Sp:=fun vs H Q _=>spAll_  vs H Q
theorem ok_lift_all (T:Txt K mg):FnOk P w K mg base CX0 6 T.f_lift_all T.d_lift_all ["net", "worths"] spAll:=by
  have G_lift_once:=ok_lift_once (P:=P) (w:=w) (base:=base) T
  have G_gaining_round:=ok_gaining_round (P:=P) (w:=w) (base:=base) T
  refine T.F_lift_all.ok sc_lift_all (fun vs H Q E h=>?_) (fun cdv A outer s H vs Q E hr h=>?_)
  · obtain ⟨v,W,ls,ts,mx,rfl,_⟩:=h
    rfl
  · obtain ⟨v,W,ls,ts,mx,rfl,hv,tc,h24,l10,hmx,emx,dw,k⟩:=h
    refine ⟨_,(@pss_cons _ _ _ _ _ (@ps_set _ _ (2) _ _ _ _ sc_lift_all.nd rfl (Or.inl k_lift_all_gaining) (@pe_call _ _ _ _ _ _ _ _ _ _ _ _ _ _ _ _ G_gaining_round (hr.mono (by decide)) k_lift_all_gaining_round T.m_gaining_round T.F_gaining_round.kp T.B_gaining_round .nil (@pass0 _) (@pa_c _ _ _ _ _ (@pw _ 0 _ _ (Or.inl k_lift_all_net) (by rfl) (by decide) (by decide)) (@pa_nil _) rfl) (by decide) (by rfl) (by rfl)) (by rfl) (by first | exact .inl rfl | exact .inr rfl | assumption)) (@pss_cons _ _ _ _ _ (@ps_if _ _ _ _ _ _ _ _ (@pt_cmpR _ _ _ _ _ _ _ _ (@op_notN _) (@pw _ 2 _ _ (Or.inl k_lift_all_gaining) (by rfl) (by decide) (by decide)) (@pe_non _ _ _) (@nomark _ _ (by decide) (by decide))) (@pss_one _ _ _ (@ps_dead _ _)) (@pss_nil _)) (@pss_cons _ _ _ _ _ (@ps_set _ _ (3) _ _ _ _ sc_lift_all.nd rfl (Or.inl k_lift_all_onward) (@pe_dict0 _ _) (by rfl) (by first | exact .inl rfl | exact .inr rfl | assumption)) (@pss_cons _ _ _ _ _ (@ps_while _ _ _ _ _ _ PassesOwn.never (@pt_cmpR _ _ _ _ _ _ _ _ (@op_notN _) (@pe_call _ _ _ _ _ _ _ _ _ _ _ _ _ _ _ _ G_lift_once (hr.mono (by decide)) k_lift_all_lift_once T.m_lift_once T.F_lift_once.kp T.B_lift_once .nil (@pass0 _) (@pa_c _ _ _ _ _ (@pw _ 0 _ _ (Or.inl k_lift_all_net) (by rfl) (by decide) (by decide)) (@pa_c _ _ _ _ _ (@pw _ 1 _ _ (Or.inl k_lift_all_worths) (by rfl) (by decide) (by decide)) (@pa_c _ _ _ _ _ (@pw _ 3 _ _ (Or.inl k_lift_all_onward) (by rfl) (by decide) (by decide)) (@pa_nil _) rfl) rfl) rfl) (by decide) (by rfl) (by rfl)) (@pe_non _ _ _) (@nomark _ _ (by decide) (by decide))) (@pss_one _ _ _ (@ps_pass _ _))) (@pss_one _ _ _ (@ps_ret _ _ _ _ (@pw _ 3 _ _ (Or.inl k_lift_all_onward) (by rfl) (by decide) (by decide)))))))),?_⟩
    refine seqA fun Q1 nA1=>⟨_,rfl,v,ls,ts,rfl,hv,tc,h24,by trivial,l10,.inl ⟨mx,hmx,emx,fun H1 s1=>nA1 _ _ ?_⟩⟩
    refine seqH fun DA nA=>?_
    refine ⟨_,rfl,rfl,_,rfl,iteF (nA _ _ ?_)⟩
    refine seqA fun Q2 nA2=>fun O H2 n2=>nA2 _ _ ?_
    obtain ⟨kv,hW,lW,vW⟩:=dw
    have s2:=s1.trans n2.sm
    have fO:H O=none:=s1.free n2.fr
    have nWO:¬W=O:=fun z=>by rw [←z,hW] at fO;cases fO
    have hW2:=s2 _ _ hW
    have f20:∀{J:Hp},Fr2 W O H2 J→∀a o,a≠W→H a=some o→J a=some o:=fun f a o h1 h=>f a o h1 (fun z=>by rw [z,fO] at h;cases h) (s2 _ _ h)
    refine seqH fun DB nB=>?_
    refine while_inv (fun m σ H'=>∃(i:Nat),σ=[some v,some (.ref W),some .non,some (.ref O)]∧m=ls.length - i∧i≤mx∧DW H' W ls (stL ts i).ω (10+24*i)∧DO H' O ls (stL ts i).on (10+24*i)∧(∀l∈ls,Gb (1+144*i) (1+144*i) ((stL ts i).ω l)∧1≤((stL ts i).ω l).1)∧Fr2 W O H2 H') _ ⟨0,rfl,rfl,Nat.zero_le _,⟨kv,hW2,by trivial,fun l hl=>let ⟨o,a,b⟩:=vW l hl;⟨o,a,s2 _ _ b⟩⟩,⟨[],n2.at',by simp,fun l hl=>rfl⟩,(fun l hl=>⟨gb11,(by show (1:Int)≤1;decide)⟩),fun _ _ _ _ h=>h⟩ ?_
    rintro m σ J ⟨i,rfl,rfl,hi,dw,do',gω,f2⟩ Q D' nD rD qT qF
    have hvJ:IsD ED J v (netD ls ts):=hv.mono ⟨fun _ _ n _=>absurd trivial n,fun a us h=>f20 f2 a _ (fun z=>by rw [z,hW] at h;cases h) h⟩
    refine ⟨_,rfl,_,rfl,_,rfl,v,W,O,ls,ts,stL ts i,i+1,10+24*i,1+144*i,rfl,hvJ,tc,by trivial,nWO,dw,do',by trivial,gω,by trivial,fun J2 f3 dw2 do2 gω2=>?_⟩
    have es:passL (i+1) ts (stL ts i)=stL ts (i+1):=rfl
    rw [es] at dw2 do2 gω2 ⊢
    have f4:Fr2 W O H2 J2:=fun a o h1 h2 h=>f3 a o h1 h2 (f2 a o h1 h2 h)
    obtain ⟨ko2,hO2,lO2,vO2⟩:=do2
    obtain ⟨kv2,hW3,lW2,vW2⟩:=dw2
    cases e:(stL ts (i+1)).lf with
    | none=>
      refine ⟨rfl,_,rfl,qF _ (nB _ _ ⟨_,rfl,?_⟩)⟩
      have eω:(stL ts (i+1)).ω=(stL ts i).ω:=(pass_none (s:=stL ts i) e).1
      rw [eω] at vW2 gω2
      exact k i O J2 (by trivial) e (f20 f4) ⟨kv2,hW3,by trivial,vW2⟩ fun l hl=>⟨(gω2 l hl).1.mono (by trivial) (by trivial),(gω2 l hl).2⟩
    | some l=>
      refine ⟨rfl,_,rfl,qT _ (nD (ls.length - (i+1)) _ _ (by trivial) ⟨i+1,rfl,rfl,?_,⟨kv2,hW3,by trivial,vW2⟩,⟨ko2,hO2,by trivial,vO2⟩,(fun l hl=>⟨(gω2 l hl).1.mono (by trivial) (by trivial),(gω2 l hl).2⟩),f4⟩)⟩
      by_cases c:i=mx
      · rw [c,emx] at e;cases e
      · trivial
inductive spHW_ (vs:List V) (H:Hp) (Q:VK):Prop
  | mk (v:V) (ls:List (List Nat)) (ts:List TieD) (mx:Nat) (h0:vs=[v]) (h1:IsD ED H v (netD ls ts)) (h2:(∀t∈ts,TGd ls t)) (h3:ts.length≤24) (h4:ls.length≤10) (h5:mx<ls.length) (h6:(stL ts (mx+1)).lf=none) (h7:∀(m:Nat) (r:Addr) (xs:List V) (H':Hp),m<ls.length→(stL ts (m+1)).lf=none→Same H H'→H r=none→H' r=some (.lst xs)→xs.length=ls.length→(∀(j:Nat) l,ls[j]?=some l→∃o,xs[j]?=some (.ref o)∧H' o=some (fr ((stL ts m).ω l)))→(∀l∈ls,Gb 1500 1500 ((stL ts m).ω l)∧1≤((stL ts m).ω l).1)→Q (.ref r) H')
def spHW:Sp:=fun vs H Q _=>spHW_  vs H Q
theorem ok_holding_worths (T:Txt K mg):FnOk P w K mg base CX0 7 T.f_holding_worths T.d_holding_worths ["net"] spHW:=by
  have G_lift_all:=ok_lift_all (P:=P) (w:=w) (base:=base) T
  refine T.F_holding_worths.ok sc_holding_worths (fun vs H Q E h=>?_) (fun cdv A outer s H vs Q E hr h=>?_)
  · obtain ⟨v,ls,ts,mx,rfl,_⟩:=h
    rfl
  · obtain ⟨v,ls,ts,mx,rfl,hv,tc,h24,l10,hmx,emx,k⟩:=h
    obtain ⟨na,pa,ta,ys,rfl,hna,hpa,hta,ity⟩:=net_inv2 hv
    refine ⟨_,(@pss_cons _ _ _ _ _ (@ps_set _ _ (1) _ _ _ _ sc_holding_worths.nd rfl (Or.inr k_holding_worths_worths) (@pe_compD _ _ _ _ _ _ _ _ (["place"]) (1) ([]) _ _ _ _ _ rfl (by kernel_rfl) (@pi_tup_k _ (K) _ _ _ (@pe_ix _ _ _ _ _ _ _ (@ixT_k _ (K) (by rfl)) (@pw _ 0 _ _ (Or.inl k_holding_worths_net) (by rfl) (by decide) (by decide)) (@pe_int _ _ _ _) (fun _ _=>rfl)) (by rfl)) (fun _ _ _ _ _ _=>(@pg_name _ _ (0) _ (@nodupS _ (by kernel_rfl)) rfl (Or.inl (by kernel_rfl)) (by first | exact .inl rfl | exact .inr rfl | assumption))) (fun _ _ _ _ _ _=>@pifs_nil _) (fun _ _ _ _ _ _=>(@pw _ 0 _ _ (Or.inl (by kernel_rfl)) (by rfl) (by decide) (by decide))) (fun _ _ _ _ _ _=>(@pe_tupA _ _ _ _ _ (@pa_c _ _ _ _ _ (@pe_int _ _ _ _) (@pa_c _ _ _ _ _ (@pe_int _ _ _ _) (@pa_nil _) rfl) rfl))) (by intro _;rfl)) (by rfl) (by first | exact .inl rfl | exact .inr rfl | assumption)) (@pss_cons _ _ _ _ _ (@ps_expr _ _ _ _ (@pe_call _ _ _ _ _ _ _ _ _ _ _ _ _ _ _ _ G_lift_all (hr.mono (by decide)) k_holding_worths_lift_all T.m_lift_all T.F_lift_all.kp T.B_lift_all .nil (@pass0 _) (@pa_c _ _ _ _ _ (@pw _ 0 _ _ (Or.inl k_holding_worths_net) (by rfl) (by decide) (by decide)) (@pa_c _ _ _ _ _ (@pw _ 1 _ _ (Or.inr (Or.inl k_holding_worths_worths)) (by rfl) (by decide) (by decide)) (@pa_nil _) rfl) rfl) (by decide) (by rfl) (by rfl)) (by rfl)) (@pss_one _ _ _ (@ps_ret _ _ _ _ (@pe_comp _ _ _ _ _ _ _ (["place", "worths"]) (1) ([1]) _ _ _ _ rfl (by kernel_rfl) (@pi_tup_k _ (K) _ _ _ (@pe_ix _ _ _ _ _ _ _ (@ixT_k _ (K) (by rfl)) (@pw _ 0 _ _ (Or.inl k_holding_worths_net) (by rfl) (by decide) (by decide)) (@pe_int _ _ _ _) (fun _ _=>rfl)) (by rfl)) (fun _ _ _ _ _ _=>(@pg_name _ _ (0) _ (@nodupS _ (by kernel_rfl)) rfl (Or.inl (by kernel_rfl)) (by first | exact .inl rfl | exact .inr rfl | assumption))) (fun _ _ _ _ _ _=>@pifs_nil _) (fun _ _ _ _ _ _=>(@pe_ix _ _ _ _ _ _ _ (@ix_dict _) (@pw _ 1 _ _ (Or.inr (Or.inl (by kernel_rfl))) (by rfl) (by decide) (by decide)) (@pw _ 0 _ _ (Or.inl (by kernel_rfl)) (by rfl) (by decide) (by decide)) (fun _ _=>rfl))) (by intro _;rfl)))))),?_⟩
    refine seqA fun Q1 nA1=>⟨_,rfl,na,_,_,_,rfl,rfl,SqT.of hna,rfl,pa,rfl,⟨_,SqT.of hpa⟩,fun W hW=>comp_overD (n:=(ls.map strV).length) (fun i H' kv=>H' W=some (.dK kv)∧kv.length≤i∧(∀(j:Nat) l,j<i→ls[j]?=some l→∃o,valD kv (Sum.inr (S l))=some (.ref o)∧H' o=some (fr (1,1)))∧Same H H') (by rw [List.length_map];trivial) ⟨upd_same,Nat.le_refl _,(fun j l h=>by trivial),Same.new hW⟩ ?_ ?_ ?_ ?_ ?_⟩
    · rintro i H' kv ⟨e1,e2,_⟩
      exact ⟨e1,e2⟩
    · rintro i H' kv hi ⟨_,_,_,sm⟩
      exact ⟨_,_,SqT.of (sm _ _ hpa),List.getElem?_eq_getElem hi⟩
    · rintro H' kv ⟨_,_,_,sm⟩
      exact ⟨_,SqT.of (sm _ _ hpa),Nat.le_refl _⟩
    · rintro i Ha kv x Hb hi ⟨eW,lW,vW,sm⟩ ⟨rfl,ex⟩
      have exi:=ex _ (SqT.of (sm _ _ hpa))
      rw [List.length_map] at hi
      rw [List.getElem?_map,List.getElem?_eq_getElem hi] at exi
      obtain rfl:strV ls[i]=x:=Option.some.inj exi
      refine ⟨back1,_,rfl,Sum.inr (S ls[i]),rfl,(by show 2≤10000;decide),fun q J n1=>⟨n1.sm _ _ eW,upd_same,?_,fun j l hj el=>?_,same_lst hW (sm.trans n1.sm)⟩⟩
      · exact Nat.le_trans (stor_len _ _ _) (by trivial)
      · have tupU:∀{a:Addr}{us:List V},J a=some (.tup us)→upd J W (.dK (storV kv (Sum.inr (S ls[i])) (.ref q))) a=some (.tup us):=fun {a us} h=>by
          rw [upd_ne (fun z=>by rw [z,n1.sm _ _ eW] at h;cases h)];exact h
        rw [valD_stor]
        by_cases c:l=ls[i]
        · rw [c,if_pos rfl]
          exact ⟨q,rfl,tupU n1.at'⟩
        · rw [if_neg (key_ne c)]
          have hji:j<i:=by
            by_cases z:j=i
            · subst z
              rw [List.getElem?_eq_getElem hi] at el
              exact absurd (Option.some.inj el).symm c
            · trivial
          obtain ⟨o,v',h'⟩:=vW j l hji el
          exact ⟨o,v',tupU (n1.sm _ _ h')⟩
    rintro H1 kv ⟨eW,lW,vW,s1⟩
    rw [List.length_map] at lW vW
    refine nA1 _ _ ?_
    refine seqH fun DA nA=>?_
    have dw0:DW H1 W ls (fun _=>(1,1)) 10:=⟨kv,eW,by trivial,fun l hl=>by
      obtain ⟨j,hj⟩:=List.getElem?_of_mem hl
      obtain ⟨o,v',h'⟩:=vW j l (List.getElem?_eq_some_iff.mp hj).1 hj
      exact ⟨o,v',h'⟩⟩
    refine ⟨_,rfl,_,rfl,.ref na,W,ls,ts,mx,rfl,hv.mono s1.toE,tc,h24,l10,hmx,emx,dw0,fun m O H3 hm em f3 dw3 g3=>nA _ _ ?_⟩
    have s3:Same H H3:=fun a o h=>f3 a o (fun z=>by rw [z,hW] at h;cases h) (s1 _ _ h)
    obtain ⟨kv3,eW3,lW3,vW3⟩:=dw3
    refine ⟨_,rfl,na,_,_,_,rfl,rfl,SqT.of (s3 _ _ hna),rfl,pa,rfl,⟨_,SqT.of (s3 _ _ hpa)⟩,fun D hD=>comp_over (n:=(ls.map strV).length) (fun i H' zs=>H' D=some (.lst zs)∧zs.length=i∧(∀(j:Nat) l,j<i→ls[j]?=some l→∃o,zs[j]?=some (.ref o)∧H' o=some (fr ((stL ts m).ω l)))∧Same H3 H') (sz_of (by rw [List.length_map];trivial)) ⟨upd_same,rfl,(fun j l h=>by trivial),Same.new hD⟩ ?_ ?_ ?_ ?_ ?_⟩
    · rintro i H' zs ⟨e1,e2,_⟩
      exact ⟨e1,by trivial⟩
    · rintro i H' zs hi ⟨_,_,_,sm⟩
      exact ⟨_,_,SqT.of (sm _ _ (s3 _ _ hpa)),List.getElem?_eq_getElem hi⟩
    · rintro H' zs ⟨_,_,_,sm⟩
      exact ⟨_,SqT.of (sm _ _ (s3 _ _ hpa)),Nat.le_refl _⟩
    · rintro i H' zs x H'' hi ⟨hD',lz,vz,sm⟩ ⟨rfl,ex⟩
      have exi:=ex _ (SqT.of (sm _ _ (s3 _ _ hpa)))
      rw [List.length_map] at hi
      rw [List.getElem?_map,List.getElem?_eq_getElem hi] at exi
      obtain rfl:strV ls[i]=x:=Option.some.inj exi
      obtain ⟨o,vo,ho⟩:=vW3 ls[i] (List.getElem_mem _)
      refine ⟨back1,_,rfl,_,rfl,W,kv3,Sum.inr (S ls[i]),.ref o,rfl,rfl,sm _ _ eW3,vo,hD',upd_same,by simp [lz],fun j l hj el=>?_,same_lst hD sm⟩
      have tupU:∀{a:Addr}{us:List V},H'' a=some (.tup us)→upd H'' D (.lst (zs++[.ref o])) a=some (.tup us):=fun {a us} h=>by
        rw [upd_ne (fun z=>by rw [z,hD'] at h;cases h)];exact h
      by_cases c:j=i
      · subst c
        rw [List.getElem?_eq_getElem hi] at el
        obtain rfl:=Option.some.inj el
        exact ⟨o,by rw [←lz];simp,tupU (sm _ _ ho)⟩
      · obtain ⟨o',v',h'⟩:=vz j l (by trivial) el
        exact ⟨o',by rw [List.getElem?_append_left (by trivial)];exact v',tupU h'⟩
    · rintro H' zs ⟨e1,lz,vz,sm⟩
      rw [List.length_map] at lz
      refine k m D zs H' hm em (s3.trans sm) (s3.free hD) e1 lz (fun j l el=>vz j l (by rw [List.length_map];exact (List.getElem?_eq_some_iff.mp el).1) el) g3
end
end K10
namespace K10
open PySem L2
set_option maxHeartbeats 4000000
theorem tie_at {H:Hp}{ys:List V}{ts:List TieD}{k:Nat}{t:TieD} (ity:IsAll ED H ys (ts.map tieD)) (et:ts[k]?=some t):Ex4 fun o om og op=>ys[k]?=some (.ref o)∧H o=some (.tup [.str (S t.bg),.str (S t.en),.ref om,.ref og,.ref op])∧H om=some (fr t.most)∧H og=some (fr t.gain)∧H op=some (fr t.price):=by
  obtain ⟨y,ey⟩:∃y,ys[k]?=some y:=⟨_,List.getElem?_eq_getElem (by rw [ity.length,List.length_map];exact (List.getElem?_eq_some_iff.mp et).1)⟩
  obtain ⟨dy,edy,gy⟩:=ity.get ey
  rw [List.getElem?_map,et] at edy
  obtain rfl:tieD t=dy:=Option.some.inj edy
  obtain ⟨o,om,og,op,rfl,h1,h2,h3,h4⟩:=tie_inv2 gy
  exact ⟨o,om,og,op,ey,h1,h2,h3,h4⟩
theorem prodG_snoc (us:List TieD) (t:TieD):prodG (us++[t])=prodG us*gR t:=by
  induction us with
  | nil=>show gR t*1=1*gR t;rw [Rat.mul_one,Rat.one_mul]
  | cons u r ih=>show gR u*prodG (r++[t])=gR u*prodG r*gR t;rw [ih,Rat.mul_assoc]
theorem inN {k:Nat}{xs:List Nat} (h:k∈xs):inV (V.int (k:Int)) (natV xs)=true:=by
  unfold inV
  rw [List.any_eq_true]
  exact ⟨_,List.mem_map_of_mem h,by show ((k:Int)==(k:Int))=true;exact beq_self_eq_true _⟩
theorem flatN (xs:List Nat):(natV xs).all flatV=true:=by
  rw [List.all_eq_true]
  intro v hv
  obtain ⟨l,_,rfl⟩:=List.mem_map.mp hv
  rfl
theorem eqv_strs:∀(ls:List (List Nat)),PyData.eqvAll (ls.map fun l=>PyData.str (S l)) (ls.map fun l=>PyData.str (S l))=true
  | []=>by simp [PyData.eqvAll]
  | l :: r=>by simp [PyData.eqvAll,PyData.eqv,eqv_strs r]
theorem rngC {α:Type} (n:Nat) (b:α):(List.range n).map (fun _=>b)=List.replicate n b:=by
  rw [List.map_const',List.length_range]
theorem RndOk.get {ts:List TieD}{R:List Nat}{us:List TieD} (h:R.map (fun k=>ts[k]?)=us.map some) {i k:Nat} (e:R[i]?=some k):∃t,us[i]?=some t∧ts[k]?=some t:=by
  have:=congrArg (fun z=>z[i]?) h
  simp only [List.getElem?_map,e,Option.map_some] at this
  cases hu:us[i]? with
  | none=>rw [hu] at this;cases this
  | some t=>rw [hu] at this;exact ⟨t,rfl,Option.some.inj this⟩
theorem mem_opIx {ls:List (List Nat)}{ts:List TieD}{k:Nat}{t:TieD} (tc:∀t∈ts,TGd ls t) (et:ts[k]?=some t):k∈opIx ts ts.length↔t.most≠(0,1):=by
  unfold opIx
  rw [List.mem_filter]
  have e:opB ts k=decide (0<t.most.1):=by unfold opB;rw [et];rfl
  rw [e,decide_eq_true_iff,open_iff (tc t (List.mem_of_getElem? et))]
  exact ⟨fun h=>h.2,fun h=>⟨List.mem_range.mpr (List.getElem?_eq_some_iff.mp et).1,h⟩⟩
section
variable {P:Program}{w:World}{K:PySem.W.Frag}{mg:Str→Option Value}{base:Heap}
inductive spGOf_ (vs:List V) (H:Hp) (Q:VK):Prop
  | mk (v:V) (a:Addr) (ls:List (List Nat)) (ts:List TieD) (R:List Nat) (us:List TieD) (h0:vs=[v,.ref a]) (h1:IsD ED H v (netD ls ts)) (h2:(∀t∈ts,TGd ls t)) (h3:H a=some (.lst (natV R))) (h4:R.map (fun k=>ts[k]?)=us.map some) (h5:R.length≤12) (h6:∀(g:KM.Fra) (q:Addr) (H':Hp),Gb 80 80 g→KM.vl g=prodG us→Same H H'→H' q=some (fr g)→Q (.ref q) H')
def spGOf:Sp:=fun vs H Q _=>spGOf_  vs H Q
theorem ok_l_gain_of (T:Txt K mg):FnOk P w K mg base CX0 3 T.f_l_gain_of T.d_l_gain_of ["_law_net", "_law_way"] spGOf:=by
  have G_l_product:=ok_l_product (P:=P) (w:=w) (base:=base) T
  refine T.F_l_gain_of.ok sc_l_gain_of (fun vs H Q E h=>?_) (fun cdv A outer s H vs Q E hr h=>?_)
  · obtain ⟨v,a,ls,ts,R,us,rfl,_⟩:=h
    rfl
  · obtain ⟨v,a,ls,ts,R,us,rfl,hv,tc,ha,hR,l12,k⟩:=h
    obtain ⟨na,pa,ta,ys,rfl,hna,hpa,hta,ity⟩:=net_inv2 hv
    have lR:R.length=us.length:=by have:=congrArg List.length hR;simpa using this
    refine ⟨_,(@pss_cons _ _ _ _ _ (@ps_set _ _ (2) _ _ _ _ sc_l_gain_of.nd rfl (Or.inl k_l_gain_of_l_found) (@pe_tupA _ _ _ _ _ (@pa_c _ _ _ _ _ (@pe_int _ _ _ _) (@pa_c _ _ _ _ _ (@pe_int _ _ _ _) (@pa_nil _) rfl) rfl)) (by rfl) (by first | exact .inl rfl | exact .inr rfl | assumption)) (@pss_cons _ _ _ _ _ (@ps_for _ _ _ _ _ _ _ _ PassesOwn.never rfl (@pi_list_k _ (K) _ _ _ (@pw _ 1 _ _ (Or.inl k_l_gain_of_l_way) (by rfl) (by decide) (by decide)) (by rfl)) (@pg_name _ _ (3) _ sc_l_gain_of.nd rfl (Or.inl k_l_gain_of_l_number) (by first | exact .inl rfl | exact .inr rfl | assumption)) (@pss_one _ _ _ (@ps_set _ _ (2) _ _ _ _ sc_l_gain_of.nd rfl (Or.inl k_l_gain_of_l_found) (@pe_call _ _ _ _ _ _ _ _ _ _ _ _ _ _ _ _ G_l_product (hr.mono (by decide)) k_l_gain_of_l_product T.m_l_product T.F_l_product.kp T.B_l_product .nil (@pass0 _) (@pa_c _ _ _ _ _ (@pw _ 2 _ _ (Or.inl k_l_gain_of_l_found) (by rfl) (by decide) (by decide)) (@pa_c _ _ _ _ _ (@pe_ix _ _ _ _ _ _ _ (@ixT_k _ (K) (by rfl)) (@pe_ix _ _ _ _ _ _ _ (@ixT_k _ (K) (by rfl)) (@pe_ix _ _ _ _ _ _ _ (@ixT_k _ (K) (by rfl)) (@pw _ 0 _ _ (Or.inl k_l_gain_of_l_net) (by rfl) (by decide) (by decide)) (@pe_int _ _ _ _) (fun _ _=>rfl)) (@pw _ 3 _ _ (Or.inl k_l_gain_of_l_number) (by rfl) (by decide) (by decide)) (fun _ _=>rfl)) (@pe_int _ _ _ _) (fun _ _=>rfl)) (@pa_nil _) rfl) rfl) (by decide) (by rfl) (by rfl)) (by rfl) (by first | exact .inl rfl | exact .inr rfl | assumption))) (by intro _;rfl)) (@pss_one _ _ _ (@ps_ret _ _ _ _ (@pw _ 2 _ _ (Or.inl k_l_gain_of_l_found) (by rfl) (by decide) (by decide)))))),?_⟩
    refine seqA fun Q1 nA1=>⟨(by show 2≤10000;decide),fun o0 H1 n1=>nA1 _ _ ?_⟩
    refine seqH fun DB nB=>?_
    refine ⟨_,rfl,a,rfl,⟨_,SqL.of (n1.sm _ _ ha)⟩,for_list (xs:=natV R) (fun j σ H'=>Ex3 fun (o:Addr) (v3:Option V) (g:KM.Fra)=>σ=[some (.ref na),some (.ref a),some (.ref o),v3]∧Same H H'∧H' o=some (fr g)∧Gb (1+6*j) (1+6*j) g∧KM.vl g=prodG (us.take j)) ⟨o0,_,(1,1),rfl,n1.sm,n1.at',gb11,by show KM.vl (1,1)=1;decide +kernel⟩ ?_ ?_ ?_⟩
    · rintro j σ H' _ ⟨_,_,_,_,sm,_⟩
      exact SqL.of (sm _ _ ha)
    · rintro j x σ J hx ⟨o,v3,g,rfl,sm,ho,gg,eg⟩
      rw [List.getElem?_map] at hx
      obtain ⟨i,ei,rfl⟩:=Option.map_eq_some_iff.mp hx
      obtain ⟨t,eu,et⟩:=RndOk.get hR ei
      have tt:=tc t (List.mem_of_getElem? et)
      have lj:j<R.length:=(List.getElem?_eq_some_iff.mp ei).1
      obtain ⟨o2,om,og,op,ey,h1,h2,h3,h4⟩:=tie_at ity et
      refine ⟨_,rfl,_,rfl,na,_,_,_,rfl,rfl,SqT.of (sm _ _ hna),rfl,_,rfl,ta,_,_,_,rfl,rfl,SqT.of (sm _ _ hta),atI_nat ey,o2,_,_,_,rfl,rfl,SqT.of (sm _ _ h1),rfl,o,og,g,t.gain,_,_,_,_,rfl,ho,sm _ _ h3,gg,tt.fg,by trivial,by trivial,by decide,by decide,(fun z=>by cases z),fun q J2 n2=>?_⟩
      refine ⟨q,_,KM.lTim g t.gain,rfl,sm.trans n2.sm,n2.at',gg.tim tt.fg (by trivial) (by trivial),?_⟩
      rw [List.take_succ,eu]
      show _=prodG (us.take j++[t])
      rw [prodG_snoc,←eg]
      exact KM.vl_tim (by have:=gg.pos;trivial) (by have:=tt.fg.pos;trivial)
    · rintro σ J ⟨o,v3,g,rfl,sm,ho,gg,eg⟩
      rw [show (natV R).length=us.length by rw [List.length_map];exact lR] at gg eg
      rw [List.take_length] at eg
      exact nB _ _ ⟨_,rfl,k g o J (gg.mono (by trivial) (by trivial)) eg sm ho⟩
end
end K10
namespace K10
open PySem L2
set_option maxHeartbeats 4000000
theorem keysS (ls:List (List Nat)):(ls.map fun l=>(Sum.inr (S l):Key)).map keyV=ls.map strV:=by
  rw [List.map_map];rfl
theorem keysN {ls:List (List Nat)} (h:ls.Nodup):(ls.map fun l=>(Sum.inr (S l):Key)).Nodup:=by
  rw [List.nodup_iff_pairwise_ne,List.pairwise_map]
  refine List.Pairwise.imp (fun {a b} hab z=>?_) (List.nodup_iff_pairwise_ne.mp h)
  injection z with z
  exact hab (S_inj z)
theorem wt_strs {ls:List (List Nat)} (h:∀l∈ls,NameC l):Wt (.list (ls.map fun l=>PyData.str (S l))) (1*ls.length+1) 1:=.list (wtL_map (m:=1) (k:=0) fun l hl=>.str (strT_name (h l hl)))
theorem is_strs {H:Hp}{a:Addr}{ls:List (List Nat)} (h:H a=some (.lst (ls.map strV))):IsD (fun _=>False) H (.ref a) (.list (ls.map fun l=>PyData.str (S l))):=.lst h (fun z=>z) ((isStrs ls).narrow fun _ _=>trivial)
section
variable {P:Program}{w:World}{K:PySem.W.Frag}{mg:Str→Option Value}{base:Heap}
inductive spIsR_ (vs:List V) (H:Hp) (Q:VK):Prop
  | mk (v:V) (a:Addr) (ls:List (List Nat)) (ts:List TieD) (R:List Nat) (us:List TieD) (h0:vs=[v,.ref a]) (h1:IsD ED H v (netD ls ts)) (h2:(∀t∈ts,TGd ls t)) (h3:ts.length≤40) (h4:(∀l∈ls,NameC l)) (h5:H a=some (.lst (natV R))) (h6:RndOk ts R us) (h7:R.length≤10) (h8:∀H':Hp,Same H H'→Q (.bl true) H')
def spIsR:Sp:=fun vs H Q _=>spIsR_  vs H Q
theorem ok_l_is_round (T:Txt K mg):FnOk P w K mg base CX0 4 T.f_l_is_round T.d_l_is_round ["_law_net", "_law_thing"] spIsR:=by
  have G_l_opened:=ok_opened (P:=P) (w:=w) (base:=base) T
  have G_l_gain_of:=ok_l_gain_of (P:=P) (w:=w) (base:=base) T
  have G_l_above:=ok_l_above (P:=P) (w:=w) (base:=base) T
  refine T.F_l_is_round.ok sc_l_is_round (fun vs H Q E h=>?_) (fun cdv A outer s H vs Q E hr h=>?_)
  · obtain ⟨v,a,ls,ts,R,us,rfl,_⟩:=h
    rfl
  · obtain ⟨v,a,ls,ts,R,us,rfl,hv,tc,h40,nc,ha,rk,l10,k⟩:=h
    obtain ⟨na,pa,ta,ys,rfl,hna,hpa,hta,ity⟩:=net_inv2 hv
    have lR:R.length=us.length:=by have:=congrArg List.length rk.at';simpa using this
    have lN:(natV R).length=R.length:=List.length_map ..
    refine ⟨_,(@pss_cons _ _ _ _ _ (@ps_if _ _ _ _ _ _ _ _ (@PW.pt _ _ _ (@pw_or _ _ _ _ _ _ _ (@pt_not _ _ _ _ (@pt_val _ _ _ (@pe_callB _ _ _ _ _ _ _ _ _ (@isinst_k _ (K) (by rfl)) k_l_is_round_isinstance T.b_isinstance (@boot_b_isinstance) (@pa_c _ _ _ _ _ (@pw _ 1 _ _ (Or.inl k_l_is_round_l_thing) (by rfl) (by decide) (by decide)) (@pa_c _ _ _ _ _ (@pe_ty _ _ _ _ k_l_is_round_list T.b_list (@boot_ty_list) (by decide) (by decide)) (@pa_nil _) rfl) rfl) (by decide) (by decide) (by rfl) (by rfl)) (by intro _;rfl))) (@pw_or _ _ _ _ _ _ _ (@pt_cmpR _ _ _ _ _ _ _ _ (@op_lt _) (@pe_callB _ _ _ _ _ _ _ _ _ (@len_k _ (K) (by rfl)) k_l_is_round_len T.b_len (@boot_b_len) (@pa_c _ _ _ _ _ (@pw _ 1 _ _ (Or.inl k_l_is_round_l_thing) (by rfl) (by decide) (by decide)) (@pa_nil _) rfl) (by decide) (by decide) (by rfl) (by rfl)) (@pe_int _ _ _ _) (@nomark _ _ (by decide) (by decide))) (@pw_or1 _ _ _ _ (@pt_not _ _ _ _ (@pt_val _ _ _ (@pe_callB _ _ _ _ _ _ _ _ _ (@all_k _ (K) rfl (by rfl)) k_l_is_round_all T.b_all (@boot_b_all) (@pa_c _ _ _ _ _ (@pe_comp _ _ _ _ _ _ _ (["_law_number", "_law_net"]) (1) ([0]) _ _ _ _ rfl (by kernel_rfl) (@pi_list_k _ (K) _ _ _ (@pw _ 1 _ _ (Or.inl k_l_is_round_l_thing) (by rfl) (by decide) (by decide)) (by rfl)) (fun _ _ _ _ _ _=>(@pg_name _ _ (0) _ (@nodupS _ (by kernel_rfl)) rfl (Or.inl (by kernel_rfl)) (by first | exact .inl rfl | exact .inr rfl | assumption))) (fun _ _ _ _ _ _=>@pifs_nil _) (fun _ _ _ _ _ _=>(@pe_cmpR _ _ _ _ _ _ _ _ (@in_k _ (K) (by rfl)) (@pw _ 0 _ _ (Or.inl (by kernel_rfl)) (by rfl) (by decide) (by decide)) (@pe_call _ _ _ _ _ _ _ _ _ _ _ _ _ _ _ _ G_l_opened (hr.mono (by decide)) (by show _=_;kernel_rfl) T.m_l_opened T.F_l_opened.kp T.B_l_opened .nil (@pass0 _) (@pa_c _ _ _ _ _ (@pw _ 1 _ _ (Or.inr (Or.inl (by kernel_rfl))) (by rfl) (by decide) (by decide)) (@pa_nil _) rfl) (by decide) (by rfl) (by rfl)) rfl)) (by intro _;rfl)) (@pa_nil _) rfl) (by decide) (by decide) (by rfl) (by rfl)) (by intro _;rfl))))))) (@pss_one _ _ _ (@ps_ret _ _ _ _ (@pe_bl _ _ _ _))) (@pss_nil _)) (@pss_cons _ _ _ _ _ (@ps_if _ _ _ _ _ _ _ _ (@pt_val _ _ _ (@pe_callB _ _ _ _ _ _ _ _ _ (@any_k _ (K) rfl (by rfl)) k_l_is_round_any T.b_any (@boot_b_any) (@pa_c _ _ _ _ _ (@pe_comp _ _ _ _ _ _ _ (["_law_number"]) (1) ([]) _ _ _ _ rfl (by kernel_rfl) (@pi_list_k _ (K) _ _ _ (@pw _ 1 _ _ (Or.inl k_l_is_round_l_thing) (by rfl) (by decide) (by decide)) (by rfl)) (fun _ _ _ _ _ _=>(@pg_name _ _ (0) _ (@nodupS _ (by kernel_rfl)) rfl (Or.inl (by kernel_rfl)) (by first | exact .inl rfl | exact .inr rfl | assumption))) (fun _ _ _ _ _ _=>@pifs_nil _) (fun _ _ _ _ _ _=>(@pe_callB _ _ _ _ _ _ _ _ _ (@isinst_k _ (K) (by rfl)) (by show _=_;kernel_rfl) T.b_isinstance (@boot_b_isinstance) (@pa_c _ _ _ _ _ (@pw _ 0 _ _ (Or.inl (by kernel_rfl)) (by rfl) (by decide) (by decide)) (@pa_c _ _ _ _ _ (@pe_ty _ _ _ _ (by show _=_;kernel_rfl) T.b_bool (@boot_ty_bool) (by decide) (by decide)) (@pa_nil _) rfl) rfl) (by decide) (by decide) (by rfl) (by rfl))) (by intro _;rfl)) (@pa_nil _) rfl) (by decide) (by decide) (by rfl) (by rfl)) (by intro _;rfl)) (@pss_one _ _ _ (@ps_ret _ _ _ _ (@pe_bl _ _ _ _))) (@pss_nil _)) (@pss_cons _ _ _ _ _ (@ps_setComp _ _ _ _ _ _ _ (["_law_number", "_law_net"]) (1) ([0]) _ _ _ _ (2) _ _ _ sc_l_is_round.nd rfl k_l_is_round_l_begins (by kernel_rfl) rfl (by kernel_rfl) (@pi_list_k _ (K) _ _ _ (@pw _ 1 _ _ (Or.inl k_l_is_round_l_thing) (by rfl) (by decide) (by decide)) (by rfl)) (fun _ _ _ _ _ _=>(@pg_name _ _ (0) _ (@nodupS _ (by kernel_rfl)) rfl (Or.inl (by kernel_rfl)) (by first | exact .inl rfl | exact .inr rfl | assumption))) (fun _ _ _ _ _ _=>@pifs_nil _) (fun _ _ _ _ _ _=>(@pe_ix _ _ _ _ _ _ _ (@ixT_k _ (K) (by rfl)) (@pe_ix _ _ _ _ _ _ _ (@ixT_k _ (K) (by rfl)) (@pe_ix _ _ _ _ _ _ _ (@ixT_k _ (K) (by rfl)) (@pw _ 1 _ _ (Or.inr (Or.inl (by kernel_rfl))) (by rfl) (by decide) (by decide)) (@pe_int _ _ _ _) (fun _ _=>rfl)) (@pw _ 0 _ _ (Or.inl (by kernel_rfl)) (by rfl) (by decide) (by decide)) (fun _ _=>rfl)) (@pe_int _ _ _ _) (fun _ _=>rfl))) (by intro _;rfl)) (@pss_cons _ _ _ _ _ (@ps_if _ _ _ _ _ _ _ _ (@PW.pt _ _ _ (@pw_or _ _ _ _ _ _ _ (@pt_cmpR _ _ _ _ _ _ _ _ (@op_ne _) (@pe_setLen _ (K) _ _ _ _ _ _ (@pw _ 2 _ _ (Or.inl k_l_is_round_l_begins) (by rfl) (by decide) (by decide)) rfl k_l_is_round_len T.b_len k_l_is_round_set T.b_set (by rfl) (by rfl)) (@pe_callB _ _ _ _ _ _ _ _ _ (@len_k _ (K) (by rfl)) k_l_is_round_len T.b_len (@boot_b_len) (@pa_c _ _ _ _ _ (@pw _ 2 _ _ (Or.inl k_l_is_round_l_begins) (by rfl) (by decide) (by decide)) (@pa_nil _) rfl) (by decide) (by decide) (by rfl) (by rfl)) (@nomark _ _ (by decide) (by decide))) (@pw_or1 _ _ _ _ (@pt_cmpR _ _ _ _ _ _ _ _ (@op_neD _ hr.units) (@pe_comp _ _ _ _ _ _ _ (["_law_number", "_law_net"]) (1) ([0]) _ _ _ _ rfl (by kernel_rfl) (@pi_list_k _ (K) _ _ _ (@pw _ 1 _ _ (Or.inl k_l_is_round_l_thing) (by rfl) (by decide) (by decide)) (by rfl)) (fun _ _ _ _ _ _=>(@pg_name _ _ (0) _ (@nodupS _ (by kernel_rfl)) rfl (Or.inl (by kernel_rfl)) (by first | exact .inl rfl | exact .inr rfl | assumption))) (fun _ _ _ _ _ _=>@pifs_nil _) (fun _ _ _ _ _ _=>(@pe_ix _ _ _ _ _ _ _ (@ixT_k _ (K) (by rfl)) (@pe_ix _ _ _ _ _ _ _ (@ixT_k _ (K) (by rfl)) (@pe_ix _ _ _ _ _ _ _ (@ixT_k _ (K) (by rfl)) (@pw _ 1 _ _ (Or.inr (Or.inl (by kernel_rfl))) (by rfl) (by decide) (by decide)) (@pe_int _ _ _ _) (fun _ _=>rfl)) (@pw _ 0 _ _ (Or.inl (by kernel_rfl)) (by rfl) (by decide) (by decide)) (fun _ _=>rfl)) (@pe_int _ _ _ _) (fun _ _=>rfl))) (by intro _;rfl)) (@pe_op _ _ _ _ _ _ _ _ (@op_catA _) (@pe_slice _ _ _ _ _ _ _ _ _ _ (@sl_listA _ (K) (by rfl)) (@pw _ 2 _ _ (Or.inl k_l_is_round_l_begins) (by rfl) (by decide) (by decide)) (@po_some _ _ _ (@pe_int _ _ _ _)) (@po_none _)) (@pe_slice _ _ _ _ _ _ _ _ _ _ (@sl_listA _ (K) (by rfl)) (@pw _ 2 _ _ (Or.inl k_l_is_round_l_begins) (by rfl) (by decide) (by decide)) (@po_none _) (@po_some _ _ _ (@pe_int _ _ _ _)))) (@nomark _ _ (by decide) (by decide)))))) (@pss_one _ _ _ (@ps_ret _ _ _ _ (@pe_bl _ _ _ _))) (@pss_nil _)) (@pss_one _ _ _ (@ps_ret _ _ _ _ (@pe_cmpR _ _ _ _ _ _ _ _ (@op_gt _) (@pe_call _ _ _ _ _ _ _ _ _ _ _ _ _ _ _ _ G_l_above (hr.mono (by decide)) k_l_is_round_l_above T.m_l_above T.F_l_above.kp T.B_l_above .nil (@pass0 _) (@pa_c _ _ _ _ _ (@pe_call _ _ _ _ _ _ _ _ _ _ _ _ _ _ _ _ G_l_gain_of (hr.mono (by decide)) k_l_is_round_l_gain_of T.m_l_gain_of T.F_l_gain_of.kp T.B_l_gain_of .nil (@pass0 _) (@pa_c _ _ _ _ _ (@pw _ 0 _ _ (Or.inr (Or.inl k_l_is_round_l_net)) (by rfl) (by decide) (by decide)) (@pa_c _ _ _ _ _ (@pw _ 1 _ _ (Or.inl k_l_is_round_l_thing) (by rfl) (by decide) (by decide)) (@pa_nil _) rfl) rfl) (by decide) (by rfl) (by rfl)) (@pa_c _ _ _ _ _ (@pe_tupA _ _ _ _ _ (@pa_c _ _ _ _ _ (@pe_int _ _ _ _) (@pa_c _ _ _ _ _ (@pe_int _ _ _ _) (@pa_nil _) rfl) rfl)) (@pa_nil _) rfl) rfl) (by decide) (by rfl) (by rfl)) (@pe_int _ _ _ _) (@nomark _ _ (by decide) (by decide))))))))),?_⟩
    have ity0:∀{ks:List Nat}{H:Hp},H a=some (.lst (natV ks))→IsD (fun _=>False) H (.ref a) (.list (ks.map fun k:Nat=>PyData.int (k:Int))):=fun {ks H} h=>.lst h (fun z=>z) (by
      clear h
      induction ks with
      | nil=>exact .nil
      | cons k r ih=>exact .cons (.int _) ih)
    refine seqH fun DA nA=>?_
    refine ⟨_,rfl,_,_,_,_,rfl,(ity0 ha).ty,kit_list _,_,rfl,iteF ?_⟩
    refine ⟨_,rfl,a,_,rfl,.inl (SqL.of ha),_,_,rfl,rfl,_,rfl,?_⟩
    rw [show decide (((natV R).length:Int)<2)=false from decide_eq_false (by rw [lN];have:=rk.two;trivial)]
    refine iteF ⟨_,rfl,a,rfl,⟨_,SqL.of ha⟩,fun D hD=>comp_mapL (xs:=natV R) (fun _=>.bl true) (by trivial) hD ha ?_ ?_⟩
    · intro i x H' R' hxi sm kk
      rw [List.getElem?_map] at hxi
      obtain ⟨j,ej,rfl⟩:=Option.map_eq_some_iff.mp hxi
      obtain ⟨t,eu,et⟩:=RndOk.get rk.at' ej
      have mo:=(mem_opIx tc et).mpr (rk.op t (List.mem_of_getElem? eu))
      refine ⟨back1,_,rfl,_,rfl,.ref na,ls,ts,rfl,hv.mono sm.toE,h40,fun D2 H2 s2 fD2 hD2=>⟨D2,_,rfl,.inl (SqL.of hD2),rfl,flatN _,?_⟩⟩
      show R' (.bl (inV _ _)) _
      rw [inN mo]
      exact kk H2 s2
    intro H1 s1 hD1
    rw [rngC,show List.replicate (natV R).length (V.bl true)=(List.replicate (natV R).length true).map V.bl by rw [List.map_replicate]] at hD1
    refine ⟨D,_,rfl,SqL.of hD1,_,rfl,?_⟩
    rw [show (List.replicate (natV R).length true).all id=true by simp]
    refine iteF (nA _ _ ?_)
    refine seqH fun DB nB=>?_
    have ha1:=s1 _ _ ha
    refine ⟨_,rfl,a,rfl,⟨_,SqL.of ha1⟩,fun D2 hD2=>comp_mapL (xs:=natV R) (fun _=>.bl false) (by trivial) hD2 ha1 ?_ ?_⟩
    · intro i x H' R' hxi sm kk
      rw [List.getElem?_map] at hxi
      obtain ⟨j,ej,rfl⟩:=Option.map_eq_some_iff.mp hxi
      exact ⟨back1,_,rfl,_,_,_,_,rfl,(IsD.int (E:=fun _=>False) (H:=H') (j:Int)).ty,kit_bool (.int (j:Int)),kk H' (Same.refl _)⟩
    intro H2 s2 hD2'
    rw [rngC,show List.replicate (natV R).length (V.bl false)=(List.replicate (natV R).length false).map V.bl by rw [List.map_replicate]] at hD2'
    refine ⟨D2,_,rfl,SqL.of hD2',_,rfl,?_⟩
    rw [show (List.replicate (natV R).length false).any id=false by simp]
    refine iteF (nB _ _ ?_)
    have s02:=s1.trans s2
    have ha2:=s02 _ _ ha
    have mapE:∀(f:TieD→List Nat),(List.range (natV R).length).map (fun i=>((us[i]?).map fun t=>strV (f t)).getD .non)=(us.map f).map strV:=fun f=>by
      rw [lN,lR,map_range_get (fun i=>((us[i]?).map fun t=>strV (f t)).getD .non) (fun t=>strV (f t)) us (fun i x e=>by rw [e];rfl),List.map_map]
      rfl
    refine seqA fun Q3 nA3=>⟨_,rfl,a,rfl,⟨_,SqL.of ha2⟩,fun D3 hD3=>comp_mapL (xs:=natV R) (fun i=>((us[i]?).map fun t=>strV t.bg).getD .non) (by trivial) hD3 ha2 ?_ ?_⟩
    · intro i x H' R' hxi sm kk
      rw [List.getElem?_map] at hxi
      obtain ⟨j,ej,rfl⟩:=Option.map_eq_some_iff.mp hxi
      obtain ⟨t,eu,et⟩:=RndOk.get rk.at' ej
      rw [eu] at kk
      obtain ⟨o2,om,og,op,ey,h1,_,_,_⟩:=tie_at ity et
      have sm':=s02.trans sm
      exact ⟨back1,_,rfl,na,_,_,_,rfl,rfl,SqT.of (sm' _ _ hna),rfl,_,rfl,ta,_,_,_,rfl,rfl,SqT.of (sm' _ _ hta),atI_nat ey,o2,_,_,_,rfl,rfl,SqT.of (sm' _ _ h1),rfl,kk H' (Same.refl _)⟩
    intro H3 s3 hB
    rw [mapE] at hB
    refine nA3 _ _ ?_
    have s03:=s02.trans s3
    refine seqH fun DC nC=>?_
    refine ⟨_,rfl,D3,(us.map (·.bg)).map fun l=>(Sum.inr (S l):Key),rfl,.inl (SqL.of (by rw [keysS];exact hB)),by rw [List.length_map,List.length_map];trivial,_,rfl,D3,_,rfl,.inl (SqL.of hB),rfl,_,rfl,?_⟩
    have e1:(once ((us.map (·.bg)).map fun l=>(Sum.inr (S l):Key))).length=((us.map (·.bg)).map strV).length:=by
      rw [(once_nodup _).mpr (keysN rk.nd)];simp
    rw [e1]
    refine iteSame ?_
    have ha3:=s03 _ _ ha
    refine ⟨_,rfl,a,rfl,⟨_,SqL.of ha3⟩,fun D4 hD4=>comp_mapL (xs:=natV R) (fun i=>((us[i]?).map fun t=>strV t.en).getD .non) (by trivial) hD4 ha3 ?_ ?_⟩
    · intro i x H' R' hxi sm kk
      rw [List.getElem?_map] at hxi
      obtain ⟨j,ej,rfl⟩:=Option.map_eq_some_iff.mp hxi
      obtain ⟨t,eu,et⟩:=RndOk.get rk.at' ej
      rw [eu] at kk
      obtain ⟨o2,om,og,op,ey,h1,_,_,_⟩:=tie_at ity et
      have sm':=s03.trans sm
      exact ⟨back1,_,rfl,na,_,_,_,rfl,rfl,SqT.of (sm' _ _ hna),rfl,_,rfl,ta,_,_,_,rfl,rfl,SqT.of (sm' _ _ hta),atI_nat ey,o2,_,_,_,rfl,rfl,SqT.of (sm' _ _ h1),rfl,kk H' (Same.refl _)⟩
    intro H4 s4 hE
    rw [mapE,rk.rot] at hE
    have hB4:=s4 _ _ hB
    refine ⟨_,rfl,_,rfl,D3,_,rfl,SqL.of hB4,fun p1 J1 j1=>⟨_,rfl,_,rfl,D3,_,rfl,SqL.of (j1.sm _ _ hB4),fun p2 J2 j2=>⟨p1,p2,_,_,rfl,rfl,j2.sm _ _ j1.at',j2.at',?_,fun p3 J3 j3=>?_⟩⟩⟩
    · have q1:=cutV_length ((us.map (·.bg)).map strV) (some 1) none
      have q2:=cutV_length ((us.map (·.bg)).map strV) none (some 1)
      rw [List.length_map,List.length_map] at q1 q2
      exact Nat.le_trans (Nat.add_le_add q1 q2) (by trivial)
    have e3:J3 p3=some (.lst (((us.map (·.bg)).drop 1++(us.map (·.bg)).take 1).map strV)):=by
      rw [j3.at',cutV_drop1,cutV_take (by decide),List.map_append,List.map_drop,List.map_take];rfl
    have sJ:Same H4 J3:=(j1.sm.trans j2.sm).trans j3.sm
    have ncb:∀l∈(us.map (·.bg)).drop 1++(us.map (·.bg)).take 1,NameC l:=fun l hl=>by
      have:l∈us.map (·.bg):=by
        rcases List.mem_append.mp hl with z | z
        · exact List.mem_of_mem_drop z
        · exact List.mem_of_mem_take z
      obtain ⟨t,ht,rfl⟩:=List.mem_map.mp this
      have:some t∈R.map (fun k=>ts[k]?):=by rw [rk.at'];exact List.mem_map_of_mem ht
      obtain ⟨j,_,hj⟩:=List.mem_map.mp this
      exact nc _ (tc t (List.mem_of_getElem? hj)).b
    refine ⟨_,_,_,_,_,_,_,_,is_strs (sJ _ _ hE),is_strs e3,wt_strs ncb,wt_strs ncb,by decide,_,rfl,?_⟩
    have e5:PyData.eqv (.list (((us.map (·.bg)).drop 1++(us.map (·.bg)).take 1).map fun l=>PyData.str (S l))) (.list (((us.map (·.bg)).drop 1++(us.map (·.bg)).take 1).map fun l=>PyData.str (S l)))=true:=by
      simp only [PyData.eqv]
      exact eqv_strs _
    rw [e5]
    refine iteF (nC _ _ ?_)
    have s05:=(s03.trans s4).trans sJ
    refine ⟨_,rfl,_,rfl,.ref na,a,ls,ts,R,us,rfl,hv.mono s05.toE,tc,s05 _ _ ha,rk.at',by trivial,fun g q H6 gg eg s6 hq=>⟨(by show 2≤10000;decide),fun q2 H7 n7=>⟨q,q2,g,(1,1),rfl,n7.sm _ _ hq,n7.at',gg.n.mono (by decide),gg.d.mono (by decide),sz1,sz1,_,_,rfl,rfl,?_⟩⟩⟩
    have e6:decide (g.1*1 - 1*g.2 > 0)=true:=by
      apply decide_eq_true
      have:=rk.gain
      rw [←eg,show (1:Rat)=KM.vl (1,1) by decide +kernel,vl_lt_iff (by decide) gg.pos] at this
      show g.1*1 - 1*g.2 > 0
      have t2:(1:Int)*g.2<g.1*1:=this
      trivial
    have k7:=k H7 ((s05.trans s6).trans n7.sm)
    rw [←e6] at k7
    exact k7
end
end K10
namespace K10
open PySem L2
set_option maxHeartbeats 4000000
def Tw:Nat→Nat
  | 0=>1
  | n+1=>24*(Tw n+1)+1
def Tk:Nat→Nat
  | 0=>0
  | n+1=>Tw n+1
theorem tw_eq:∀n,Tw n=24*Tk n+1
  | 0=>rfl
  | n+1=>rfl
theorem tw_le {n:Nat} (h:n≤5):Tw n≤16617649:=by
  obtain rfl | rfl | rfl | rfl | rfl | rfl:n=0∨n=1∨n=2∨n=3∨n=4∨n=5:=by trivial
  all_goals decide
theorem tw_pos (n:Nat):1≤Tw n:=by rw [tw_eq];trivial
def wsum (N:Nat) (ps:List (V×List TieD)):Nat:=(ps.map fun p=>Tw (N - (p.2.length+1))).sum
theorem wsum_snoc (N:Nat) (ps:List (V×List TieD)) (p:V×List TieD):wsum N (ps++[p])=wsum N ps+Tw (N - (p.2.length+1)):=by
  unfold wsum
  rw [List.map_append,List.sum_append]
  simp
theorem wsum_len (N:Nat):∀ps:List (V×List TieD),ps.length≤wsum N ps
  | []=>Nat.le_refl _
  | p :: r=>by
    have:=wsum_len N r
    have:=tw_pos (N - (p.2.length+1))
    show r.length+1≤Tw (N - (p.2.length+1))+wsum N r
    trivial
structure WayOk (ls:List (List Nat)) (ts:List TieD) (l0:List Nat) (R:List Nat) (us:List TieD):Prop where
  at':R.map (fun k=>ts[k]?)=us.map some
  op:∀t∈us,t.most≠(0,1)
  ch:∃c,us.map (·.bg)++[c]=l0 :: us.map (·.en)
  nd:(l0 :: us.map (·.en)).Nodup
  sub:∀l∈l0 :: us.map (·.en),l∈ls
structure Ent (ls:List (List Nat)) (ts:List TieD) (l0:List Nat) (F W:Addr) (H:Hp) (x:V) (us:List TieD):Prop where
  e:Ex4 fun tp wa sa R=>x=.ref tp∧H tp=some (.tup [.ref wa,.ref sa])∧H wa=some (.lst (natV R))∧H sa=some (.lst ((l0 :: us.map (·.en)).map strV))∧wa≠F∧wa≠W∧sa≠F∧sa≠W∧WayOk ls ts l0 R us
def Fnd (ls:List (List Nat)) (ts:List TieD) (l0:List Nat) (F W:Addr) (H:Hp) (x:V):Prop:=Ex3 fun a R us=>x=.ref a∧a≠F∧a≠W∧H a=some (.lst (natV R))∧us≠[]∧WayOk ls ts l0 R us
theorem Ent.mono {ls:List (List Nat)}{ts:List TieD}{l0:List Nat}{F W:Addr}{H H':Hp}{x:V}{us:List TieD}{xs ys:List V} (h:Ent ls ts l0 F W H x us) (hF:H F=some (.lst xs)) (hW:H W=some (.lst ys)) (f:Fr2 F W H H'):Ent ls ts l0 F W H' x us:=by
  obtain ⟨tp,wa,sa,R,rfl,h1,h2,h3,n1,n2,n3,n4,ok⟩:=h.e
  exact ⟨tp,wa,sa,R,rfl,f _ _ (fun z=>by rw [z,hF] at h1;cases h1) (fun z=>by rw [z,hW] at h1;cases h1) h1,f _ _ n1 n2 h2,f _ _ n3 n4 h3,n1,n2,n3,n4,ok⟩
theorem Fnd.mono {ls:List (List Nat)}{ts:List TieD}{l0:List Nat}{F W:Addr}{H H':Hp}{x:V} (h:Fnd ls ts l0 F W H x) (f:Fr2 F W H H'):Fnd ls ts l0 F W H' x:=by
  obtain ⟨a,R,us,rfl,n1,n2,h1,ne,ok⟩:=h
  exact ⟨a,R,us,rfl,n1,n2,f _ _ n1 n2 h1,ne,ok⟩
theorem Fr2.trans {W O:Addr}{H H' H'':Hp} (h:Fr2 W O H H') (k:Fr2 W O H' H''):Fr2 W O H H'':=fun a o h1 h2 e=>k a o h1 h2 (h a o h1 h2 e)
theorem Fr2.sm {W O:Addr}{H H':Hp} (h:Same H H'):Fr2 W O H H':=fun a o _ _ e=>h a o e
theorem Fr2.ch1 {W O:Addr}{H H':Hp}{xs:List V} (h:Ch H W xs H'):Fr2 W O H H':=fun a o h1 _ e=>h.ol a o h1 e
theorem Fr2.ch2 {W O:Addr}{H H':Hp}{xs:List V} (h:Ch H O xs H'):Fr2 W O H H':=fun a o _ h2 e=>h.ol a o h2 e
theorem WayOk.more {ls:List (List Nat)}{ts:List TieD}{l0:List Nat}{R:List Nat}{us:List TieD}{k:Nat}{t:TieD}{c:List Nat} (h:WayOk ls ts l0 R us) (hc:us.map (·.bg)++[c]=l0 :: us.map (·.en)) (et:ts[k]?=some t) (op:t.most≠(0,1)) (eb:t.bg=c) (nw:t.en∉l0 :: us.map (·.en)) (hl:t.en∈ls):WayOk ls ts l0 (R++[k]) (us++[t]):=by
  refine ⟨by rw [List.map_append,List.map_append,h.at'];simp [et],fun x hx=>?_,⟨t.en,?_⟩,?_,fun l hl'=>?_⟩
  · rcases List.mem_append.mp hx with z | z
    · exact h.op x z
    · rw [List.mem_singleton.mp z];exact op
  · rw [List.map_append,List.map_append]
    show (us.map (·.bg)++[t.bg])++[t.en]=_
    rw [eb,hc]
    rfl
  · rw [List.map_append]
    show ((l0 :: us.map (·.en))++[t.en]).Nodup
    exact List.nodup_append.mpr ⟨h.nd,by simp,fun a ha b hb=>by
      rw [List.mem_singleton.mp hb]
      exact fun z=>nw (z▸ha)⟩
  · rw [List.map_append] at hl'
    rcases List.mem_append.mp (show l∈(l0 :: us.map (·.en))++[t.en] from hl') with z | z
    · exact h.sub l z
    · rw [List.mem_singleton.mp z];exact hl
section
variable {P:Program}{w:World}{K:PySem.W.Frag}{mg:Str→Option Value}{base:Heap}
inductive spAW_ (vs:List V) (H:Hp) (Q:VK):Prop
  | mk (v:V) (ls:List (List Nat)) (ts:List TieD) (l0:List Nat) (h0:vs=[v,strV l0]) (h1:IsD ED H v (netD ls ts)) (h2:(∀t∈ts,TGd ls t)) (h3:ts.length≤24) (h4:ls.length≤6) (h5:l0∈ls) (h6:∀(F W:Addr) (xs:List V) (H':Hp),Same H H'→H F=none→H' F=some (.lst xs)→(∀x∈xs,Fnd ls ts l0 F W H' x)→Q (.ref F) H')
def spAW:Sp:=fun vs H Q _=>spAW_  vs H Q
theorem ok_l_all_ways (T:Txt K mg):FnOk P w K mg base CX0 2 T.f_l_all_ways T.d_l_all_ways ["_law_net", "_law_begin"] spAW:=by
  have G_l_opened:=ok_opened (P:=P) (w:=w) (base:=base) T
  refine T.F_l_all_ways.ok sc_l_all_ways (fun vs H Q E h=>?_) (fun cdv A outer s H vs Q E hr h=>?_)
  · obtain ⟨v,ls,ts,l0,rfl,_⟩:=h
    rfl
  · obtain ⟨v,ls,ts,l0,rfl,hv,tc,h24,l6,hl0,k⟩:=h
    obtain ⟨na,pa,ta,ys,rfl,hna,hpa,hta,ity⟩:=net_inv2 hv
    have l1:1≤ls.length:=List.length_pos_of_mem hl0
    have CT:=tw_le (n:=ls.length - 1) (by trivial)
    refine ⟨_,(@pss_cons _ _ _ _ _ (@ps_par _ _ (2) (3) _ _ _ _ _ _ _ _ _ _ _ rfl sc_l_all_ways.nd rfl rfl (by decide) k_l_all_ways_l_found k_l_all_ways_l_waiting (@pa_c _ _ _ _ _ (@pe_lstA _ _ _ _ (@pa_nil _)) (@pa_c _ _ _ _ _ (@pe_lstA _ _ _ _ (@pa_c _ _ _ _ _ (@pe_tupA _ _ _ _ _ (@pa_c _ _ _ _ _ (@pe_lstA _ _ _ _ (@pa_nil _)) (@pa_c _ _ _ _ _ (@pe_lstA _ _ _ _ (@pa_c _ _ _ _ _ (@pw _ 1 _ _ (Or.inl k_l_all_ways_l_begin) (by rfl) (by decide) (by decide)) (@pa_nil _) rfl)) (@pa_nil _) rfl) rfl)) (@pa_nil _) rfl)) (@pa_nil _) rfl) rfl) (by kernel_rfl) (by rfl)) (@pss_cons _ _ _ _ _ (@ps_while _ _ _ _ _ _ PassesOwn.never (@pt_cmpR _ _ _ _ _ _ _ _ (@op_neNil _ hr.units) (@pw _ 3 _ _ (Or.inl k_l_all_ways_l_waiting) (by rfl) (by decide) (by decide)) (@pe_lstA _ _ _ _ (@pa_nil _)) (@nomark _ _ (by decide) (by decide))) (@pss_cons _ _ _ _ _ (@ps_asg _ _ _ _ _ _ (@pe_bm0 _ _ _ _ _ _ _ _ _ PySem.F.plainAttrs_list PySem.F.slot_list_pop PySem.F.type_list_pop (@mt_popL _) (@pw _ 3 _ _ (Or.inl k_l_all_ways_l_waiting) (by rfl) (by decide) (by decide)) (by rfl) (by rfl)) (@pg_tup_k _ (K) _ _ _ _ (2) rfl (@pgs_cons _ _ _ _ _ (@pg_name _ _ (4) _ sc_l_all_ways.nd rfl (Or.inl k_l_all_ways_l_way) (by first | exact .inl rfl | exact .inr rfl | assumption)) (@pgs_cons _ _ _ _ _ (@pg_name _ _ (5) _ sc_l_all_ways.nd rfl (Or.inl k_l_all_ways_l_spots) (by first | exact .inl rfl | exact .inr rfl | assumption)) (@pgs_nil _) (by rfl)) (by rfl)) (by rfl) (by rfl) (by rfl)) (by rfl) (by rfl) (by rfl)) (@pss_one _ _ _ (@ps_for _ _ _ _ _ _ _ _ PassesOwn.never rfl (@pi_list_k _ (K) _ _ _ (@pe_call _ _ _ _ _ _ _ _ _ _ _ _ _ _ _ _ G_l_opened (hr.mono (by decide)) k_l_all_ways_l_opened T.m_l_opened T.F_l_opened.kp T.B_l_opened .nil (@pass0 _) (@pa_c _ _ _ _ _ (@pw _ 0 _ _ (Or.inl k_l_all_ways_l_net) (by rfl) (by decide) (by decide)) (@pa_nil _) rfl) (by decide) (by rfl) (by rfl)) (by rfl)) (@pg_name _ _ (6) _ sc_l_all_ways.nd rfl (Or.inl k_l_all_ways_l_number) (by first | exact .inl rfl | exact .inr rfl | assumption)) (@pss_one _ _ _ (@ps_if _ _ _ _ _ _ _ _ (@PW.pt _ _ _ (@pw_and _ _ _ _ _ _ _ (@pt_cmpR _ _ _ _ _ _ _ _ (@op_eq _) (@pe_ix _ _ _ _ _ _ _ (@ixT_k _ (K) (by rfl)) (@pe_ix _ _ _ _ _ _ _ (@ixT_k _ (K) (by rfl)) (@pe_ix _ _ _ _ _ _ _ (@ixT_k _ (K) (by rfl)) (@pw _ 0 _ _ (Or.inl k_l_all_ways_l_net) (by rfl) (by decide) (by decide)) (@pe_int _ _ _ _) (fun _ _=>rfl)) (@pw _ 6 _ _ (Or.inl k_l_all_ways_l_number) (by rfl) (by decide) (by decide)) (fun _ _=>rfl)) (@pe_int _ _ _ _) (fun _ _=>rfl)) (@pe_ix _ _ _ _ _ _ _ (@ixL_k _ (K) (by rfl)) (@pw _ 5 _ _ (Or.inl k_l_all_ways_l_spots) (by rfl) (by decide) (by decide)) (@pe_un _ _ _ _ _ _ (@un_neg _) (@pe_int _ _ _ _)) (fun _ _=>rfl)) (@nomark _ _ (by decide) (by decide))) (@pw_and1 _ _ _ _ (@pt_cmpR _ _ _ _ _ _ _ _ (@notIn_k _ (K) (by rfl)) (@pe_ix _ _ _ _ _ _ _ (@ixT_k _ (K) (by rfl)) (@pe_ix _ _ _ _ _ _ _ (@ixT_k _ (K) (by rfl)) (@pe_ix _ _ _ _ _ _ _ (@ixT_k _ (K) (by rfl)) (@pw _ 0 _ _ (Or.inl k_l_all_ways_l_net) (by rfl) (by decide) (by decide)) (@pe_int _ _ _ _) (fun _ _=>rfl)) (@pw _ 6 _ _ (Or.inl k_l_all_ways_l_number) (by rfl) (by decide) (by decide)) (fun _ _=>rfl)) (@pe_int _ _ _ _) (fun _ _=>rfl)) (@pw _ 5 _ _ (Or.inl k_l_all_ways_l_spots) (by rfl) (by decide) (by decide)) rfl)))) (@pss_cons _ _ _ _ _ (@ps_expr _ _ _ _ (@pe_bm_k _ (K) _ _ _ _ _ _ _ _ _ _ _ PySem.F.plainAttrs_list PySem.F.slot_list_append PySem.F.type_list_append (@mt_appendB _) (@pw _ 2 _ _ (Or.inl k_l_all_ways_l_found) (by rfl) (by decide) (by decide)) (@pa_c _ _ _ _ _ (@pe_op _ _ _ _ _ _ _ _ (@op_catA _) (@pw _ 4 _ _ (Or.inl k_l_all_ways_l_way) (by rfl) (by decide) (by decide)) (@pe_lstA _ _ _ _ (@pa_c _ _ _ _ _ (@pw _ 6 _ _ (Or.inl k_l_all_ways_l_number) (by rfl) (by decide) (by decide)) (@pa_nil _) rfl))) (@pa_nil _) rfl) (by rfl) (by rfl) (by rfl) (by rfl) (by rfl) (by rfl)) (by rfl)) (@pss_one _ _ _ (@ps_expr _ _ _ _ (@pe_bm_k _ (K) _ _ _ _ _ _ _ _ _ _ _ PySem.F.plainAttrs_list PySem.F.slot_list_append PySem.F.type_list_append (@mt_appendB _) (@pw _ 3 _ _ (Or.inl k_l_all_ways_l_waiting) (by rfl) (by decide) (by decide)) (@pa_c _ _ _ _ _ (@pe_tupA _ _ _ _ _ (@pa_c _ _ _ _ _ (@pe_op _ _ _ _ _ _ _ _ (@op_catA _) (@pw _ 4 _ _ (Or.inl k_l_all_ways_l_way) (by rfl) (by decide) (by decide)) (@pe_lstA _ _ _ _ (@pa_c _ _ _ _ _ (@pw _ 6 _ _ (Or.inl k_l_all_ways_l_number) (by rfl) (by decide) (by decide)) (@pa_nil _) rfl))) (@pa_c _ _ _ _ _ (@pe_op _ _ _ _ _ _ _ _ (@op_catA _) (@pw _ 5 _ _ (Or.inl k_l_all_ways_l_spots) (by rfl) (by decide) (by decide)) (@pe_lstA _ _ _ _ (@pa_c _ _ _ _ _ (@pe_ix _ _ _ _ _ _ _ (@ixT_k _ (K) (by rfl)) (@pe_ix _ _ _ _ _ _ _ (@ixT_k _ (K) (by rfl)) (@pe_ix _ _ _ _ _ _ _ (@ixT_k _ (K) (by rfl)) (@pw _ 0 _ _ (Or.inl k_l_all_ways_l_net) (by rfl) (by decide) (by decide)) (@pe_int _ _ _ _) (fun _ _=>rfl)) (@pw _ 6 _ _ (Or.inl k_l_all_ways_l_number) (by rfl) (by decide) (by decide)) (fun _ _=>rfl)) (@pe_int _ _ _ _) (fun _ _=>rfl)) (@pa_nil _) rfl))) (@pa_nil _) rfl) rfl)) (@pa_nil _) rfl) (by rfl) (by rfl) (by rfl) (by rfl) (by rfl) (by rfl)) (by rfl)))) (@pss_nil _))) (by intro _;rfl))))) (@pss_one _ _ _ (@ps_ret _ _ _ _ (@pw _ 2 _ _ (Or.inl k_l_all_ways_l_found) (by rfl) (by decide) (by decide)))))),?_⟩
    refine seqP fun Q1 nP=>⟨Nat.zero_le _,fun F H1 n1=>⟨Nat.zero_le _,fun wa0 H2 n2=>⟨_,rfl,(by show 1≤10000;decide),fun sa0 H3 n3=>⟨(by show 2≤10000;decide),fun tp0 H4 n4=>⟨(by show 1≤10000;decide),fun W H5 n5=>nP _ _ _ ?_⟩⟩⟩⟩⟩
    have hF5:H5 F=some (.lst []):=n5.sm _ _ (n4.sm _ _ (n3.sm _ _ (n2.sm _ _ n1.at')))
    have hwa5:H5 wa0=some (.lst []):=n5.sm _ _ (n4.sm _ _ (n3.sm _ _ n2.at'))
    have hsa5:H5 sa0=some (.lst [strV l0]):=n5.sm _ _ (n4.sm _ _ n3.at')
    have htp5:H5 tp0=some (.tup [.ref wa0,.ref sa0]):=n5.sm _ _ n4.at'
    have s5:Same H H5:=(((n1.sm.trans n2.sm).trans n3.sm).trans n4.sm).trans n5.sm
    have fF:H F=none:=n1.fr
    have fW:H W=none:=(((n1.sm.trans n2.sm).trans n3.sm).trans n4.sm).free n5.fr
    have a1:wa0≠F:=fun z=>by have:=n2.fr;rw [z,n1.at'] at this;cases this
    have a2:sa0≠F:=fun z=>by have:=n3.fr;rw [z,n2.sm _ _ n1.at'] at this;cases this
    have a3:wa0≠W:=fun z=>by have:=n5.fr;rw [←z,n4.sm _ _ (n3.sm _ _ n2.at')] at this;cases this
    have a4:sa0≠W:=fun z=>by have:=n5.fr;rw [←z,n4.sm _ _ n3.at'] at this;cases this
    have nFW:¬F=W:=fun z=>by have:=n5.fr;rw [←z,n4.sm _ _ (n3.sm _ _ (n2.sm _ _ n1.at'))] at this;cases this
    have ent0:Ent ls ts l0 F W H5 (.ref tp0) []:=⟨tp0,wa0,sa0,[],rfl,htp5,hwa5,hsa5,a1,a3,a2,a4,⟨rfl,(fun t h=>by cases h),⟨l0,rfl⟩,by simp,fun l hl=>by rw [List.mem_singleton.mp hl];exact hl0⟩⟩
    refine seqH fun DA nA=>?_
    refine while_inv (fun m σ H'=>Ex5 fun (ps:List (V×List TieD)) (fs:List V) (v4 v5 v6:Option V)=>σ=[some (.ref na),some (strV l0),some (.ref F),some (.ref W),v4,v5,v6]∧m=wsum ls.length ps∧H' W=some (.lst (ps.map (·.1)))∧H' F=some (.lst fs)∧wsum ls.length ps+fs.length≤16617649∧(∀p∈ps,Ent ls ts l0 F W H' p.1 p.2)∧(∀x∈fs,Fnd ls ts l0 F W H' x)∧Same H H') _ ⟨[(.ref tp0,[])],[],_,_,_,rfl,rfl,n5.at',hF5,by
      show Tw (ls.length - 1)+0+0≤_
      trivial,(fun p hp=>by rw [List.mem_singleton.mp hp];exact ent0),(fun x hx=>by cases hx),s5⟩ ?_
    rintro m σ J ⟨ps,fs,v4,v5,v6,rfl,rfl,hW,hF,hC,hE,hfs,sm⟩ Q D' nD rD qT qF
    refine ⟨_,rfl,Nat.zero_le _,fun c0 J1 j1=>⟨W,c0,_,rfl,rfl,j1.sm _ _ hW,j1.at',_,rfl,?_⟩⟩
    have sm1:=sm.trans j1.sm
    have hW1:=j1.sm _ _ hW
    have hF1:=j1.sm _ _ hF
    have hE1:∀p∈ps,Ent ls ts l0 F W J1 p.1 p.2:=fun p hp=>(hE p hp).mono hF hW (Fr2.sm j1.sm)
    have hfs1:∀x∈fs,Fnd ls ts l0 F W J1 x:=fun x hx=>(hfs x hx).mono (Fr2.sm j1.sm)
    rcases List.eq_nil_or_concat ps with rfl | ⟨qs,p,rfl⟩
    · exact qF _ (nA _ _ ⟨_,rfl,k F W fs J1 sm1 fF hF1 hfs1⟩)
    have ene:(!((qs.concat p).map (·.1)).isEmpty)=true:=by simp
    rw [ene]
    refine qT _ ?_
    rw [List.concat_eq_append] at hW1 hC hE1
    obtain ⟨x,us⟩:=p
    rw [wsum_snoc] at hC
    rw [List.map_append] at hW1
    obtain ⟨tp,wa,sa,R,rfl,htp,hwa,hsa,b1,b2,b3,b4,ok⟩:=(hE1 (x,us) (by simp)).e
    have hC':wsum ls.length qs+Tw (ls.length - (us.length+1))+fs.length≤16617649:=hC
    refine seqH fun DC nC=>⟨_,rfl,.inl ⟨rfl,_,SqL.of hW1⟩,W,qs.map (·.1),.ref tp,rfl,rfl,hW1,fun J2 c2=>?_⟩
    have htp2:=c2.tup htp hW1
    refine ⟨tp,_,rfl,SqT.of htp2,rfl,_,_,rfl,_,_,rfl,rfl,nC _ _ ?_⟩
    have sm2:Same H J2:=fun a o h=>c2.ol a o (fun z=>by rw [z,fW] at h;cases h) (sm1 _ _ h)
    have f12:Fr2 F W J1 J2:=Fr2.ch2 c2
    refine ⟨_,rfl,.ref na,ls,ts,rfl,hv.mono sm2.toE,by trivial,fun D2 J3 s3 fD2 hD2=>⟨D2,rfl,⟨_,SqL.of hD2⟩,?_⟩⟩
    have f13:Fr2 F W J1 J3:=f12.trans (Fr2.sm s3)
    have hF2:=c2.ol F _ nFW hF1
    have hF3:=s3 _ _ hF2
    have hW3:=s3 _ _ c2.at'
    have nDF:¬D2=F:=fun z=>by rw [z,hF2] at fD2;cases fD2
    have nDW:¬D2=W:=fun z=>by rw [z,c2.at'] at fD2;cases fD2
    have hwa3:=f13 _ _ b1 b2 hwa
    have hsa3:=f13 _ _ b3 b4 hsa
    have hE3:∀p∈qs,Ent ls ts l0 F W J3 p.1 p.2:=fun p hp=>(hE1 p (List.mem_append_left _ hp)).mono hF1 hW1 f13
    have hfs3:∀x∈fs,Fnd ls ts l0 F W J3 x:=fun x hx=>(hfs1 x hx).mono f13
    obtain ⟨c,hc⟩:=ok.ch
    have lus:us.length+1≤ls.length:=by
      have:=nodup_le (xs:=l0 :: us.map (·.en)) (ys:=ls) ok.nd ok.sub
      simpa using this
    have lRu:R.length=us.length:=by have:=congrArg List.length ok.at';simpa using this
    have tw:=tw_eq (ls.length - (us.length+1))
    refine for_list (xs:=natV (opIx ts ts.length)) (fun i σ H'=>Ex3 fun (ps:List (V×List TieD)) (gs:List V) (v6:Option V)=>σ=[some (.ref na),some (strV l0),some (.ref F),some (.ref W),some (.ref wa),some (.ref sa),v6]∧H' W=some (.lst (ps.map (·.1)))∧H' F=some (.lst gs)∧wsum ls.length ps≤wsum ls.length qs+i*Tk (ls.length - (us.length+1))∧wsum ls.length ps+gs.length≤wsum ls.length qs+fs.length+i*Tk (ls.length - (us.length+1))∧(∀p∈ps,Ent ls ts l0 F W H' p.1 p.2)∧(∀x∈gs,Fnd ls ts l0 F W H' x)∧Fr2 F W J3 H'∧Same H H') ⟨qs,fs,_,rfl,hW3,hF3,by trivial,by trivial,hE3,hfs3,(fun _ _ _ _ h=>h),sm2.trans s3⟩ ?_ ?_ ?_
    · rintro i σ H' _ ⟨_,_,_,_,_,_,_,_,_,_,f,_⟩
      exact SqL.of (f _ _ nDF nDW hD2)
    · rintro i x σ J4 hx ⟨ps,gs,v6',rfl,hW4,hF4,hm4,hC4,hE4,hfs4,f4,sm4⟩
      have li:i<ts.length:=by
        have h1:=(List.getElem?_eq_some_iff.mp hx).1
        rw [List.length_map] at h1
        exact Nat.lt_of_lt_of_le h1 (opIx_len _ _)
      rw [List.getElem?_map] at hx
      obtain ⟨j,ej,rfl⟩:=Option.map_eq_some_iff.mp hx
      have mj:=List.mem_of_getElem? ej
      have jlt:j<ts.length:=List.mem_range.mp (List.mem_filter.mp mj).1
      obtain ⟨t,et⟩:∃t,ts[j]?=some t:=⟨_,List.getElem?_eq_getElem jlt⟩
      have tt:=tc t (List.mem_of_getElem? et)
      have op:=(mem_opIx tc et).mp mj
      obtain ⟨o2,om,og,op',ey,h1,_,_,_⟩:=tie_at ity et
      have hwa4:=f4 _ _ b1 b2 hwa3
      have hsa4:=f4 _ _ b3 b4 hsa3
      have elast:atI ((l0 :: us.map (·.en)).map strV) (-1)=some (strV c):=by
        rw [←hc,List.map_append]
        exact atI_last _ _
      have mi:i*Tk (ls.length - (us.length+1))≤24*Tk (ls.length - (us.length+1)):=Nat.mul_le_mul_right _ (by trivial)
      have mi1:(i+1)*Tk (ls.length - (us.length+1))=i*Tk (ls.length - (us.length+1))+Tk (ls.length - (us.length+1)):=Nat.succ_mul _ _
      refine ⟨_,rfl,na,_,_,_,rfl,rfl,SqT.of (sm4 _ _ hna),rfl,_,rfl,ta,_,_,_,rfl,rfl,SqT.of (sm4 _ _ hta),atI_nat ey,o2,_,_,_,rfl,rfl,SqT.of (sm4 _ _ h1),rfl,_,rfl,1,rfl,sa,_,_,_,rfl,rfl,SqL.of hsa4,elast,rfl,_,rfl,?_⟩
      have keep:Ex3 fun (ps:List (V×List TieD)) (gs:List V) (v6:Option V)=>[some (V.ref na),some (strV l0),some (.ref F),some (.ref W),some (.ref wa),some (.ref sa),some (.int (j:Int))]=[some (.ref na),some (strV l0),some (.ref F),some (.ref W),some (.ref wa),some (.ref sa),v6]∧J4 W=some (.lst (ps.map (·.1)))∧J4 F=some (.lst gs)∧wsum ls.length ps≤wsum ls.length qs+(i+1)*Tk (ls.length - (us.length+1))∧wsum ls.length ps+gs.length≤wsum ls.length qs+fs.length+(i+1)*Tk (ls.length - (us.length+1))∧(∀p∈ps,Ent ls ts l0 F W J4 p.1 p.2)∧(∀x∈gs,Fnd ls ts l0 F W J4 x)∧Fr2 F W J3 J4∧Same H J4:=⟨ps,gs,_,rfl,hW4,hF4,by trivial,by trivial,hE4,hfs4,f4,sm4⟩
      have einS:inV (V.str (S t.en)) ((l0 :: us.map (·.en)).map strV)=(l0 :: us.map (·.en)).contains t.en:=inS _ _
      by_cases hb:t.bg=c
      rotate_left
      · dsimp only
        rw [show decide (V.str (S t.bg)=strV c)=false from decide_eq_false (fun z=>hb (S_inj (V.str.inj z)))]
        exact iteF (iteF keep)
      dsimp only
      rw [show decide (V.str (S t.bg)=strV c)=true from decide_eq_true (by rw [hb])]
      refine iteT ⟨_,rfl,na,_,_,_,rfl,rfl,SqT.of (sm4 _ _ hna),rfl,_,rfl,ta,_,_,_,rfl,rfl,SqT.of (sm4 _ _ hta),atI_nat ey,o2,_,_,_,rfl,rfl,SqT.of (sm4 _ _ h1),rfl,_,rfl,sa,_,rfl,.inl (SqL.of hsa4),rfl,flatS _,_,rfl,?_⟩
      rw [einS]
      by_cases he:t.en∈l0 :: us.map (·.en)
      · rw [show (l0 :: us.map (·.en)).contains t.en=true from List.contains_iff_mem.mpr he]
        exact iteF keep
      rw [show (l0 :: us.map (·.en)).contains t.en=false from Bool.eq_false_iff.mpr fun z=>he (List.contains_iff_mem.mp z)]
      refine iteT ?_
      have ok':=ok.more hc et op hb he tt.e
      have lus':us.length+2≤ls.length:=by
        have:=nodup_le (xs:=l0 :: (us++[t]).map (·.en)) (ys:=ls) ok'.nd ok'.sub
        simpa using this
      obtain ⟨r,er⟩:∃r,ls.length - (us.length+1)=r+1:=⟨ls.length - (us.length+2),by trivial⟩
      have tkr:Tk (ls.length - (us.length+1))=Tw (ls.length - ((us++[t]).length+1))+1:=by
        rw [er,show ls.length - ((us++[t]).length+1)=r by simp;trivial]
        rfl
      refine seqH fun DE nE=>⟨_,rfl,.inl ⟨rfl,_,SqL.of hF4⟩,_,rfl,_,rfl,(by show 1≤10000;decide),fun q1 G1 g1=>⟨wa,q1,_,_,rfl,rfl,g1.sm _ _ hwa4,g1.at',by simp;trivial,fun q2 G2 g2=>⟨F,gs,.ref q2,rfl,rfl,g2.sm _ _ (g1.sm _ _ hF4),by trivial,fun G3 c3=>nE _ _ ?_⟩⟩⟩
      have sg2:=g1.sm.trans g2.sm
      have nq2F:q2≠F:=fun z=>by have:=g2.fr;rw [z,g1.sm _ _ hF4] at this;cases this
      have nq2W:q2≠W:=fun z=>by have:=g2.fr;rw [z,g1.sm _ _ hW4] at this;cases this
      have fg3:Fr2 F W J4 G3:=(Fr2.sm sg2).trans (Fr2.ch1 c3)
      have hW5':=c3.ol W _ (fun z=>nFW z.symm) (sg2 _ _ hW4)
      have hwa5':=fg3 _ _ b1 b2 hwa4
      have hsa5':=fg3 _ _ b3 b4 hsa4
      have smg3:Same H G3:=fun a o h=>c3.ol a o (fun z=>by rw [z,fF] at h;cases h) (sg2 _ _ (sm4 _ _ h))
      refine ⟨_,rfl,.inl ⟨rfl,_,SqL.of hW5'⟩,_,rfl,_,rfl,(by show 1≤10000;decide),fun q3 G4 g4=>⟨wa,q3,_,_,rfl,rfl,g4.sm _ _ hwa5',g4.at',by simp;trivial,fun q4 G5 g5=>?_⟩⟩
      have sg5:=g4.sm.trans g5.sm
      have sm5':=smg3.trans sg5
      refine ⟨_,rfl,_,rfl,na,_,_,_,rfl,rfl,SqT.of (sm5' _ _ hna),rfl,_,rfl,ta,_,_,_,rfl,rfl,SqT.of (sm5' _ _ hta),atI_nat ey,o2,_,_,_,rfl,rfl,SqT.of (sm5' _ _ h1),rfl,(by show 1≤10000;decide),fun q5 G6 g6=>⟨sa,q5,_,_,rfl,rfl,g6.sm _ _ (sg5 _ _ hsa5'),g6.at',by simp;trivial,fun q6 G7 g7=>⟨(by show 2≤10000;decide),fun q7 G8 g8=>⟨W,_,.ref q7,rfl,rfl,g8.sm _ _ (g7.sm _ _ (g6.sm _ _ (sg5 _ _ hW5'))),?_,fun G9 c9=>?_⟩⟩⟩⟩
      · have:=wsum_len ls.length ps
        rw [List.length_map]
        trivial
      have sg8:=((sg5.trans g6.sm).trans g7.sm).trans g8.sm
      have fg9:Fr2 F W G3 G9:=(Fr2.sm sg8).trans (Fr2.ch2 c9)
      have hF9:=c9.ol F _ nFW (sg8 _ _ c3.at')
      have hW8:=sg8 _ _ hW5'
      have w4:∀{a:Addr}{G:Hp},G a=none→Same G3 G→a≠F∧a≠W:=fun {a G} h s=>⟨(fun z=>by rw [z,s _ _ c3.at'] at h;cases h),(fun z=>by rw [z,s _ _ hW5'] at h;cases h)⟩
      obtain ⟨d1,d2⟩:=w4 g5.fr g4.sm
      obtain ⟨d3,d4⟩:=w4 g7.fr (sg5.trans g6.sm)
      have hq4:G9 q4=some (.lst (natV (R++[j]))):=by
        have:=c9.ol q4 _ d2 (g8.sm _ _ (g7.sm _ _ (g6.sm _ _ g5.at')))
        rw [this]
        simp [natV]
      have hq6:G9 q6=some (.lst ((l0 :: (us++[t]).map (·.en)).map strV)):=by
        have:=c9.ol q6 _ d4 (g8.sm _ _ g7.at')
        rw [this]
        simp
      have hq7:G9 q7=some (.tup [.ref q4,.ref q6]):=c9.tup g8.at' hW8
      have hq2:G9 q2=some (.lst (natV (R++[j]))):=by
        have:=fg9 _ _ nq2F nq2W (c3.ol q2 _ nq2F g2.at')
        rw [this]
        simp [natV]
      have fall:Fr2 F W J4 G9:=fg3.trans fg9
      refine ⟨ps++[(.ref q7,us++[t])],gs++[.ref q2],_,rfl,?_,hF9,?_,?_,fun p hp=>?_,fun x hx=>?_,f4.trans fall,?_⟩
      · rw [c9.at',List.map_append];rfl
      · rw [wsum_snoc]
        show _+Tw (ls.length - ((us++[t]).length+1))≤_
        trivial
      · rw [wsum_snoc,show (gs++[V.ref q2]).length=gs.length+1 by simp]
        show _+Tw (ls.length - ((us++[t]).length+1))+(_+1)≤_
        trivial
      · rcases List.mem_append.mp hp with z | z
        · exact (hE4 p z).mono hF4 hW4 fall
        · rw [List.mem_singleton.mp z]
          exact ⟨q7,q4,q6,R++[j],rfl,hq7,hq4,hq6,d1,d2,d3,d4,ok'⟩
      · rcases List.mem_append.mp hx with z | z
        · exact (hfs4 x z).mono fall
        · rw [List.mem_singleton.mp z]
          exact ⟨q2,R++[j],us++[t],rfl,nq2F,nq2W,hq2,by simp,ok'⟩
      · exact fun a o h=>fall a o (fun z=>by rw [z,fF] at h;cases h) (fun z=>by rw [z,fW] at h;cases h) (sm4 _ _ h)
    · rintro σ J4 ⟨ps,gs,v6',rfl,hW4,hF4,hm4,hC4,hE4,hfs4,f4,sm4⟩
      have lo:(natV (opIx ts ts.length)).length≤24:=by
        rw [List.length_map]
        exact Nat.le_trans (opIx_len _ _) h24
      have mi:(natV (opIx ts ts.length)).length*Tk (ls.length - (us.length+1))≤24*Tk (ls.length - (us.length+1)):=Nat.mul_le_mul_right _ lo
      refine nD (wsum ls.length ps) _ _ ?_ ⟨ps,gs,_,_,_,rfl,rfl,hW4,hF4,?_,hE4,hfs4,sm4⟩
      · rw [List.concat_eq_append,wsum_snoc]
        show _<_+Tw (ls.length - (us.length+1))
        trivial
      · have:Tw (ls.length - ((V.ref tp,us).2.length+1))=Tw (ls.length - (us.length+1)):=rfl
        trivial
end
end K10
namespace K10
open PySem L2
set_option maxHeartbeats 4000000
theorem eqv_two (a b c d:List Nat):PyData.eqv (.tuple [.str (S a),.str (S b)]) (.tuple [.str (S c),.str (S d)])=true→a=c∧b=d:=by
  simp only [PyData.eqv,PyData.eqvAll,Bool.and_true,Bool.and_eq_true]
  intro h
  obtain ⟨h1,h2⟩:=h
  simp at h1 h2
  exact ⟨S_inj h1,S_inj h2⟩
theorem wt_two {a b:List Nat} (h:NameC a) (k:NameC b):Wt (.tuple [.str (S a),.str (S b)]) 3 1:=.tuple (.cons (.str (strT_name h)) (.cons (.str (strT_name k)) .nil))
section
variable {P:Program}{w:World}{K:PySem.W.Frag}{mg:Str→Option Value}{base:Heap}
inductive spSG_ (vs:List V) (H:Hp) (Q:VK):Prop
  | mk (v:V) (ls:List (List Nat)) (ts:List TieD) (u:List Nat→Rat) (h0:vs=[v]) (h1:IsD ED H v (netD ls ts)) (h2:(∀t∈ts,TGd ls t)) (h3:ts.length≤24) (h4:ls.length≤6) (h5:(∀l∈ls,NameC l)) (h6:(∀l∈ls,0<u l)) (h7:(∀t∈ts,t.most≠(0,1)→gR t*u t.en≤u t.bg)) (h8:∀H':Hp,Same H H'→Q (.bl false) H')
def spSG:Sp:=fun vs H Q _=>spSG_  vs H Q
theorem ok_l_some_gains (T:Txt K mg):FnOk P w K mg base CX0 4 T.f_l_some_gains T.d_l_some_gains ["_law_net"] spSG:=by
  have G_l_opened:=ok_opened (P:=P) (w:=w) (base:=base) T
  have G_l_gain_of:=ok_l_gain_of (P:=P) (w:=w) (base:=base) T
  have G_l_above:=ok_l_above (P:=P) (w:=w) (base:=base) T
  have G_l_all_ways:=ok_l_all_ways (P:=P) (w:=w) (base:=base) T
  refine T.F_l_some_gains.ok sc_l_some_gains (fun vs H Q E h=>?_) (fun cdv A outer s H vs Q E hr h=>?_)
  · obtain ⟨v,ls,ts,u,rfl,_⟩:=h
    rfl
  · obtain ⟨v,ls,ts,u,rfl,hv,tc,h24,l6,nc,up,hold,k⟩:=h
    obtain ⟨na,pa,ta,ys,rfl,hna,hpa,hta,ity⟩:=net_inv2 hv
    refine ⟨_,(@pss_cons _ _ _ _ _ (@ps_for _ _ _ _ _ _ _ _ PassesOwn.never rfl (@pi_tup_k _ (K) _ _ _ (@pe_ix _ _ _ _ _ _ _ (@ixT_k _ (K) (by rfl)) (@pw _ 0 _ _ (Or.inl k_l_some_gains_l_net) (by rfl) (by decide) (by decide)) (@pe_int _ _ _ _) (fun _ _=>rfl)) (by rfl)) (@pg_name _ _ (1) _ sc_l_some_gains.nd rfl (Or.inl k_l_some_gains_l_place) (by first | exact .inl rfl | exact .inr rfl | assumption)) (@pss_one _ _ _ (@ps_for _ _ _ _ _ _ _ _ PassesOwn.never rfl (@pi_list_k _ (K) _ _ _ (@pe_call _ _ _ _ _ _ _ _ _ _ _ _ _ _ _ _ G_l_all_ways (hr.mono (by decide)) k_l_some_gains_l_all_ways T.m_l_all_ways T.F_l_all_ways.kp T.B_l_all_ways .nil (@pass0 _) (@pa_c _ _ _ _ _ (@pw _ 0 _ _ (Or.inl k_l_some_gains_l_net) (by rfl) (by decide) (by decide)) (@pa_c _ _ _ _ _ (@pw _ 1 _ _ (Or.inl k_l_some_gains_l_place) (by rfl) (by decide) (by decide)) (@pa_nil _) rfl) rfl) (by decide) (by rfl) (by rfl)) (by rfl)) (@pg_name _ _ (2) _ sc_l_some_gains.nd rfl (Or.inl k_l_some_gains_l_way) (by first | exact .inl rfl | exact .inr rfl | assumption)) (@pss_one _ _ _ (@ps_for _ _ _ _ _ _ _ _ PassesOwn.never rfl (@pi_list_k _ (K) _ _ _ (@pe_call _ _ _ _ _ _ _ _ _ _ _ _ _ _ _ _ G_l_opened (hr.mono (by decide)) k_l_some_gains_l_opened T.m_l_opened T.F_l_opened.kp T.B_l_opened .nil (@pass0 _) (@pa_c _ _ _ _ _ (@pw _ 0 _ _ (Or.inl k_l_some_gains_l_net) (by rfl) (by decide) (by decide)) (@pa_nil _) rfl) (by decide) (by rfl) (by rfl)) (by rfl)) (@pg_name _ _ (3) _ sc_l_some_gains.nd rfl (Or.inl k_l_some_gains_l_number) (by first | exact .inl rfl | exact .inr rfl | assumption)) (@pss_one _ _ _ (@ps_if _ _ _ _ _ _ _ _ (@pt_cmpR _ _ _ _ _ _ _ _ (@op_eqD _ hr.units) (@pe_slice _ _ _ _ _ _ _ _ _ _ (@sl_tupA _ (K) (by rfl)) (@pe_ix _ _ _ _ _ _ _ (@ixT_k _ (K) (by rfl)) (@pe_ix _ _ _ _ _ _ _ (@ixT_k _ (K) (by rfl)) (@pw _ 0 _ _ (Or.inl k_l_some_gains_l_net) (by rfl) (by decide) (by decide)) (@pe_int _ _ _ _) (fun _ _=>rfl)) (@pw _ 3 _ _ (Or.inl k_l_some_gains_l_number) (by rfl) (by decide) (by decide)) (fun _ _=>rfl)) (@po_none _) (@po_some _ _ _ (@pe_int _ _ _ _))) (@pe_tupA _ _ _ _ _ (@pa_c _ _ _ _ _ (@pe_ix _ _ _ _ _ _ _ (@ixT_k _ (K) (by rfl)) (@pe_ix _ _ _ _ _ _ _ (@ixT_k _ (K) (by rfl)) (@pe_ix _ _ _ _ _ _ _ (@ixT_k _ (K) (by rfl)) (@pw _ 0 _ _ (Or.inl k_l_some_gains_l_net) (by rfl) (by decide) (by decide)) (@pe_int _ _ _ _) (fun _ _=>rfl)) (@pe_ix _ _ _ _ _ _ _ (@ixL_k _ (K) (by rfl)) (@pw _ 2 _ _ (Or.inl k_l_some_gains_l_way) (by rfl) (by decide) (by decide)) (@pe_un _ _ _ _ _ _ (@un_neg _) (@pe_int _ _ _ _)) (fun _ _=>rfl)) (fun _ _=>rfl)) (@pe_int _ _ _ _) (fun _ _=>rfl)) (@pa_c _ _ _ _ _ (@pw _ 1 _ _ (Or.inl k_l_some_gains_l_place) (by rfl) (by decide) (by decide)) (@pa_nil _) rfl) rfl)) (@nomark _ _ (by decide) (by decide))) (@pss_one _ _ _ (@ps_if _ _ _ _ _ _ _ _ (@pt_cmpR _ _ _ _ _ _ _ _ (@op_gt _) (@pe_call _ _ _ _ _ _ _ _ _ _ _ _ _ _ _ _ G_l_above (hr.mono (by decide)) k_l_some_gains_l_above T.m_l_above T.F_l_above.kp T.B_l_above .nil (@pass0 _) (@pa_c _ _ _ _ _ (@pe_call _ _ _ _ _ _ _ _ _ _ _ _ _ _ _ _ G_l_gain_of (hr.mono (by decide)) k_l_some_gains_l_gain_of T.m_l_gain_of T.F_l_gain_of.kp T.B_l_gain_of .nil (@pass0 _) (@pa_c _ _ _ _ _ (@pw _ 0 _ _ (Or.inl k_l_some_gains_l_net) (by rfl) (by decide) (by decide)) (@pa_c _ _ _ _ _ (@pe_op _ _ _ _ _ _ _ _ (@op_catA _) (@pw _ 2 _ _ (Or.inl k_l_some_gains_l_way) (by rfl) (by decide) (by decide)) (@pe_lstA _ _ _ _ (@pa_c _ _ _ _ _ (@pw _ 3 _ _ (Or.inl k_l_some_gains_l_number) (by rfl) (by decide) (by decide)) (@pa_nil _) rfl))) (@pa_nil _) rfl) rfl) (by decide) (by rfl) (by rfl)) (@pa_c _ _ _ _ _ (@pe_tupA _ _ _ _ _ (@pa_c _ _ _ _ _ (@pe_int _ _ _ _) (@pa_c _ _ _ _ _ (@pe_int _ _ _ _) (@pa_nil _) rfl) rfl)) (@pa_nil _) rfl) rfl) (by decide) (by rfl) (by rfl)) (@pe_int _ _ _ _) (@nomark _ _ (by decide) (by decide))) (@pss_one _ _ _ (@ps_ret _ _ _ _ (@pe_bl _ _ _ _))) (@pss_nil _))) (@pss_nil _))) (by intro _;rfl))) (by intro _;rfl))) (by intro _;rfl)) (@pss_one _ _ _ (@ps_ret _ _ _ _ (@pe_bl _ _ _ _)))),?_⟩
    refine seqH fun DA nA=>?_
    refine ⟨_,rfl,na,_,_,_,rfl,rfl,SqT.of hna,rfl,pa,rfl,⟨_,SqT.of hpa⟩,for_tup (xs:=ls.map strV) (fun i σ H'=>Ex3 fun (v1 v2 v3:Option V)=>σ=[some (.ref na),v1,v2,v3]∧Same H H') ⟨_,_,_,rfl,Same.refl _⟩ ?_ ?_ ?_⟩
    · rintro i σ H' _ ⟨_,_,_,_,sm⟩
      exact SqT.of (sm _ _ hpa)
    rotate_left
    · rintro σ H' ⟨_,_,_,rfl,sm⟩
      exact nA _ _ (k _ sm)
    rintro i x σ J hx ⟨v1,v2,v3,rfl,sm⟩
    rw [List.getElem?_map] at hx
    obtain ⟨l0,el,rfl⟩:=Option.map_eq_some_iff.mp hx
    have hl0:=List.mem_of_getElem? el
    refine bodyH (t:=tFor _ _ _) fun DB nB=>?_
    refine ⟨_,rfl,_,rfl,.ref na,ls,ts,l0,rfl,hv.mono sm.toE,tc,h24,l6,hl0,fun F W xs J1 s1 fF hF hfs=>⟨F,rfl,⟨_,SqL.of hF⟩,?_⟩⟩
    have sm1:=sm.trans s1
    refine for_list (xs:=xs) (fun i σ H'=>Ex2 fun (v2 v3:Option V)=>σ=[some (.ref na),some (strV l0),v2,v3]∧Same J1 H') ⟨_,_,rfl,Same.refl _⟩ ?_ ?_ ?_
    · rintro i σ H' _ ⟨_,_,_,sm'⟩
      exact SqL.of (sm' _ _ hF)
    rotate_left
    · rintro σ H' ⟨_,_,rfl,sm'⟩
      exact nB _ _ ⟨_,_,_,rfl,sm1.trans sm'⟩
    rintro i2 x σ J2 hx2 ⟨v2,v3,rfl,sm2⟩
    obtain ⟨wa,R,us,rfl,_,_,hwa,une,ok⟩:=hfs x (List.mem_of_getElem? hx2)
    have hwa2:=sm2 _ _ hwa
    have smH2:=sm1.trans sm2
    have lRu:R.length=us.length:=by have:=congrArg List.length ok.at';simpa using this
    have lus:us.length+1≤ls.length:=by
      have:=nodup_le (xs:=l0 :: us.map (·.en)) (ys:=ls) ok.nd ok.sub
      simpa using this
    refine bodyH (t:=tFor _ _ _) fun DC nC=>?_
    refine ⟨_,rfl,.ref na,ls,ts,rfl,hv.mono smH2.toE,by trivial,fun D2 J3 s3 fD2 hD2=>⟨D2,rfl,⟨_,SqL.of hD2⟩,?_⟩⟩
    refine for_list (xs:=natV (opIx ts ts.length)) (fun i σ H'=>∃(v3:Option V),σ=[some (.ref na),some (strV l0),some (.ref wa),v3]∧Same J3 H') ⟨_,rfl,Same.refl _⟩ ?_ ?_ ?_
    · rintro i σ H' _ ⟨_,_,sm'⟩
      exact SqL.of (sm' _ _ hD2)
    rotate_left
    · rintro σ H' ⟨_,rfl,sm'⟩
      exact nC _ _ ⟨_,_,rfl,(sm2.trans s3).trans sm'⟩
    rintro i3 x σ J4 hx3 ⟨v3',rfl,sm4⟩
    rw [List.getElem?_map] at hx3
    obtain ⟨j,ej,rfl⟩:=Option.map_eq_some_iff.mp hx3
    have mj:=List.mem_of_getElem? ej
    have jlt:j<ts.length:=List.mem_range.mp (List.mem_filter.mp mj).1
    obtain ⟨t,et⟩:∃t,ts[j]?=some t:=⟨_,List.getElem?_eq_getElem jlt⟩
    have tt:=tc t (List.mem_of_getElem? et)
    have op:=(mem_opIx tc et).mp mj
    obtain ⟨o2,om,og,op',ey,h1,_,_,_⟩:=tie_at ity et
    have smH4:=(smH2.trans s3).trans sm4
    obtain ⟨us',t',eus⟩:Ex2 fun us' t'=>us=us'++[t']:=by
      rcases List.eq_nil_or_concat us with e | ⟨us',t',e⟩
      · exact absurd e une
      · exact ⟨us',t',by rw [e,List.concat_eq_append]⟩
    obtain ⟨R',j',eR⟩:Ex2 fun R' j'=>R=R'++[j']:=by
      rcases List.eq_nil_or_concat R with e | ⟨us',t',e⟩
      · rw [e,eus] at lRu;simp at lRu
      · exact ⟨us',t',by rw [e,List.concat_eq_append]⟩
    subst eus eR
    have et':ts[j']?=some t':=by
      have:=ok.at'
      rw [List.map_append,List.map_append] at this
      have:=(List.append_inj_right' this rfl)
      simpa using this
    obtain ⟨o3,om3,og3,op3,ey3,h13,_,_,_⟩:=tie_at ity et'
    have tt':=tc t' (List.mem_of_getElem? et')
    have hwa4:=sm4 _ _ (s3 _ _ hwa2)
    have elast:atI (natV (R'++[j'])) (-1)=some (V.int (j':Int)):=by
      rw [show natV (R'++[j'])=natV R'++[V.int (j':Int)] by simp [natV]]
      exact atI_last _ _
    have h14:=smH4 _ _ h1
    have lR6:R'.length≤5:=by
      have h9:(R'++[j']).length≤6:=by rw [lRu];trivial
      simp at h9
      trivial
    refine ⟨_,rfl,na,_,_,_,rfl,rfl,SqT.of (smH4 _ _ hna),rfl,_,rfl,ta,_,_,_,rfl,rfl,SqT.of (smH4 _ _ hta),atI_nat ey,_,rfl,o2,_,rfl,SqT.of h14,h14,fun p1 J5 s5 hp1=>?_⟩
    have smH5:=smH4.trans s5
    refine ⟨_,rfl,na,_,_,_,rfl,rfl,SqT.of (smH5 _ _ hna),rfl,_,rfl,1,rfl,wa,_,_,_,rfl,rfl,SqL.of (s5 _ _ hwa4),elast,ta,_,_,_,rfl,rfl,SqT.of (smH5 _ _ hta),atI_nat ey3,o3,_,_,_,rfl,rfl,SqT.of (smH5 _ _ h13),rfl,_,rfl,(by show 2≤10000;decide),fun p2 J6 n6=>?_⟩
    have hp1':J6 p1=some (.tup [.str (S t.bg),.str (S t.en)]):=by
      rw [n6.sm _ _ hp1,cutV_take (by decide)];rfl
    have nct:=nc _ tt.b
    refine ⟨_,_,ED,ED,_,_,_,_,.tup hp1' (.cons (.str _) (.cons (.str _) .nil)),.tup (ds:=[.str (S t'.en),.str (S l0)]) n6.at' (.cons (.str _) (.cons (.str _) .nil)),wt_two (nc _ tt.b) (nc _ tt.e),wt_two (nc _ tt'.e) (nc _ hl0),by decide,_,rfl,?_⟩
    have smH6:=smH5.trans n6.sm
    have s36:=(sm4.trans s5).trans n6.sm
    refine ite2 (fun cnd=>?_) (fun cnd=>⟨_,rfl,s36⟩)
    obtain ⟨eb,ee⟩:=eqv_two _ _ _ _ cnd
    refine ⟨_,rfl,_,rfl,_,rfl,(by show 1≤10000;decide),fun q1 G1 g1=>⟨wa,q1,_,_,rfl,rfl,g1.sm _ _ (n6.sm _ _ (s5 _ _ hwa4)),g1.at',by simp;trivial,fun q2 G2 g2=>?_⟩⟩
    have sg2:=g1.sm.trans g2.sm
    have hR2:(R'++[j']++[j]).map (fun k=>ts[k]?)=(us'++[t']++[t]).map some:=by
      rw [List.map_append,ok.at',List.map_append (l₁:=us'++[t'])]
      simp [et]
    refine ⟨.ref na,q2,ls,ts,R'++[j']++[j],us'++[t']++[t],rfl,hv.mono (smH6.trans sg2).toE,tc,by rw [g2.at'];simp [natV],hR2,by simp;trivial,fun g q H6 gg eg s6 hq=>⟨(by show 2≤10000;decide),fun q3 H7 n7=>⟨q,q3,g,(1,1),rfl,n7.sm _ _ hq,n7.at',gg.n.mono (by decide),gg.d.mono (by decide),sz1,sz1,_,_,rfl,rfl,_,rfl,?_⟩⟩⟩
    obtain ⟨c,hc⟩:=ok.ch
    have ec:t'.en=c:=by
      have e2:(l0 :: (us'++[t']).map (·.en))=(l0 :: us'.map (·.en))++[t'.en]:=by simp
      rw [e2] at hc
      have:=List.append_inj_right' hc rfl
      simp at this
      exact this.symm
    have ch2:(us'++[t']++[t]).map (·.bg)++[l0]=l0 :: (us'++[t']++[t]).map (·.en):=by
      rw [List.map_append,List.map_append (l₁:=us'++[t'])]
      show ((us'++[t']).map (·.bg)++[t.bg])++[l0]=(l0 :: (us'++[t']).map (·.en))++[t.en]
      rw [eb,ec,hc,ee]
    have memT:∀x∈us'++[t'],x∈ts:=fun x hx=>by
      have:some x∈(R'++[j']).map (fun k=>ts[k]?):=by rw [ok.at'];exact List.mem_map_of_mem hx
      obtain ⟨j,_,hj⟩:=List.mem_map.mp this
      exact List.mem_of_getElem? hj
    have le:=closed_le up ch2 fun x hx=>by
      rcases List.mem_append.mp hx with z | z
      · exact ⟨(tc x (memT x z)).tok,hold x (memT x z) (ok.op x z)⟩
      · rw [List.mem_singleton.mp z]
        exact ⟨tt.tok,hold t (List.mem_of_getElem? et) op⟩
    have le1:prodG (us'++[t']++[t])≤1:=by
      have u0:=up l0 hl0
      apply Rat.not_lt.mp
      intro z
      have:=Rat.mul_lt_mul_of_pos_right z u0
      rw [Rat.one_mul] at this
      exact absurd this (Rat.not_lt.mpr le)
    have e6:decide (g.1*1 - 1*g.2 > 0)=false:=by
      apply decide_eq_false
      rw [←eg,show (1:Rat)=KM.vl (1,1) by decide +kernel,vl_le_iff gg.pos (by decide)] at le1
      have t2:g.1*1≤(1:Int)*g.2:=le1
      trivial
    show if decide (g.1*1 - 1*g.2 > 0)=true then _ else _
    rw [e6]
    exact iteF ⟨_,rfl,((s36.trans sg2).trans s6).trans n7.sm⟩
end
end K10
namespace K10
open PySem L2
set_option maxHeartbeats 4000000
theorem isAll_of {E:Addr→Prop}{H:Hp}:∀{xs:List V}{ds:List PyData},xs.length=ds.length→(∀(j:Nat) x d,xs[j]?=some x→ds[j]?=some d→IsD E H x d)→IsAll E H xs ds
  | [],[],_,_=>.nil
  | [],_ :: _,h,_=>by simp at h
  | _ :: _,[],h,_=>by simp at h
  | x :: xs,d :: ds,h,k=>.cons (k 0 x d rfl rfl) (isAll_of (by simpa using h) fun j y e h1 h2=>k (j+1) y e (by simpa using h1) (by simpa using h2))
section
variable {P:Program}{w:World}{K:PySem.W.Frag}{mg:Str→Option Value}{base:Heap}
inductive spHeld_ (vs:List V) (H:Hp) (Q:VK):Prop
  | mk (v:V) (a:Addr) (ls:List (List Nat)) (ts:List TieD) (xs:List V) (ω:Wof) (h0:vs=[v,.ref a]) (h1:IsD ED H v (netD ls ts)) (h2:(∀t∈ts,TGd ls t)) (h3:ts.length≤24) (h4:1≤ls.length) (h5:ls.length≤10) (h6:ls.Nodup) (h7:H a=some (.lst xs)) (h8:xs.length=ls.length) (h9:(∀(j:Nat) l,ls[j]?=some l→∃o,xs[j]?=some (.ref o)∧H o=some (fr (ω l)))) (h10:(∀l∈ls,Gb 1500 1500 (ω l)∧1≤(ω l).1)) (h11:(∀t∈ts,lifts ω t=false)) (h12:∀H':Hp,Same H H'→Q (.bl true) H')
def spHeld:Sp:=fun vs H Q _=>spHeld_  vs H Q
theorem ok_l_held (T:Txt K mg):FnOk P w K mg base CX0 3 T.f_l_held T.d_l_held ["_law_net", "_law_worths"] spHeld:=by
  have G_l_opened:=ok_opened (P:=P) (w:=w) (base:=base) T
  have G_l_product:=ok_l_product (P:=P) (w:=w) (base:=base) T
  have G_l_above:=ok_l_above (P:=P) (w:=w) (base:=base) T
  refine T.F_l_held.ok sc_l_held (fun vs H Q E h=>?_) (fun cdv A outer s H vs Q E hr h=>?_)
  · obtain ⟨v,a,ls,ts,xs,ω,rfl,_⟩:=h
    rfl
  · obtain ⟨v,a,ls,ts,xs,ω,rfl,hv,tc,h24,l1,l10,nd,ha,lx,vx,gω,hh,k⟩:=h
    obtain ⟨na,pa,ta,ys,rfl,hna,hpa,hta,ity⟩:=net_inv2 hv
    refine ⟨_,(@pss_cons _ _ _ _ _ (@ps_if _ _ _ _ _ _ _ _ (@PW.pt _ _ _ (@pw_or _ _ _ _ _ _ _ (@pt_not _ _ _ _ (@pt_val _ _ _ (@pe_callB _ _ _ _ _ _ _ _ _ (@isinst_k _ (K) (by rfl)) k_l_held_isinstance T.b_isinstance (@boot_b_isinstance) (@pa_c _ _ _ _ _ (@pw _ 1 _ _ (Or.inl k_l_held_l_worths) (by rfl) (by decide) (by decide)) (@pa_c _ _ _ _ _ (@pe_ty _ _ _ _ k_l_held_list T.b_list (@boot_ty_list) (by decide) (by decide)) (@pa_nil _) rfl) rfl) (by decide) (by decide) (by rfl) (by rfl)) (by intro _;rfl))) (@pw_or _ _ _ _ _ _ _ (@pt_cmpR _ _ _ _ _ _ _ _ (@op_ne _) (@pe_callB _ _ _ _ _ _ _ _ _ (@len_k _ (K) (by rfl)) k_l_held_len T.b_len (@boot_b_len) (@pa_c _ _ _ _ _ (@pw _ 1 _ _ (Or.inl k_l_held_l_worths) (by rfl) (by decide) (by decide)) (@pa_nil _) rfl) (by decide) (by decide) (by rfl) (by rfl)) (@pe_callB _ _ _ _ _ _ _ _ _ (@len_k _ (K) (by rfl)) k_l_held_len T.b_len (@boot_b_len) (@pa_c _ _ _ _ _ (@pe_ix _ _ _ _ _ _ _ (@ixT_k _ (K) (by rfl)) (@pw _ 0 _ _ (Or.inl k_l_held_l_net) (by rfl) (by decide) (by decide)) (@pe_int _ _ _ _) (fun _ _=>rfl)) (@pa_nil _) rfl) (by decide) (by decide) (by rfl) (by rfl)) (@nomark _ _ (by decide) (by decide))) (@pw_or1 _ _ _ _ (@pt_cmpR _ _ _ _ _ _ _ _ (@op_le _) (@pe_callB _ _ _ _ _ _ _ _ _ (@call_minL _ rfl) k_l_held_min T.b_min (@boot_b_min) (@pa_c _ _ _ _ _ (@pe_comp _ _ _ _ _ _ _ (["_law_worth"]) (1) ([]) _ _ _ _ rfl (by kernel_rfl) (@pi_list_k _ (K) _ _ _ (@pw _ 1 _ _ (Or.inl k_l_held_l_worths) (by rfl) (by decide) (by decide)) (by rfl)) (fun _ _ _ _ _ _=>(@pg_name _ _ (0) _ (@nodupS _ (by kernel_rfl)) rfl (Or.inl (by kernel_rfl)) (by first | exact .inl rfl | exact .inr rfl | assumption))) (fun _ _ _ _ _ _=>@pifs_nil _) (fun _ _ _ _ _ _=>(@pe_ix _ _ _ _ _ _ _ (@ixT_k _ (K) (by rfl)) (@pw _ 0 _ _ (Or.inl (by kernel_rfl)) (by rfl) (by decide) (by decide)) (@pe_int _ _ _ _) (fun _ _=>rfl))) (by intro _;rfl)) (@pa_nil _) rfl) (by decide) (by decide) (by rfl) (by rfl)) (@pe_int _ _ _ _) (@nomark _ _ (by decide) (by decide))))))) (@pss_one _ _ _ (@ps_ret _ _ _ _ (@pe_bl _ _ _ _))) (@pss_nil _)) (@pss_cons _ _ _ _ _ (@ps_set _ _ (2) _ _ _ _ sc_l_held.nd rfl (Or.inl k_l_held_l_known) (@pe_dictZip _ (K) _ _ _ _ _ _ _ rfl k_l_held_dict T.b_dict k_l_held_zip T.b_zip (@pa_c _ _ _ _ _ (@pe_ix _ _ _ _ _ _ _ (@ixT_k _ (K) (by rfl)) (@pw _ 0 _ _ (Or.inl k_l_held_l_net) (by rfl) (by decide) (by decide)) (@pe_int _ _ _ _) (fun _ _=>rfl)) (@pa_c _ _ _ _ _ (@pw _ 1 _ _ (Or.inl k_l_held_l_worths) (by rfl) (by decide) (by decide)) (@pa_nil _) rfl) rfl) (by rfl) (by rfl) (by rfl) (by rfl)) (by rfl) (by first | exact .inl rfl | exact .inr rfl | assumption)) (@pss_cons _ _ _ _ _ (@ps_for _ _ _ _ _ _ _ _ PassesOwn.never rfl (@pi_list_k _ (K) _ _ _ (@pe_call _ _ _ _ _ _ _ _ _ _ _ _ _ _ _ _ G_l_opened (hr.mono (by decide)) k_l_held_l_opened T.m_l_opened T.F_l_opened.kp T.B_l_opened .nil (@pass0 _) (@pa_c _ _ _ _ _ (@pw _ 0 _ _ (Or.inl k_l_held_l_net) (by rfl) (by decide) (by decide)) (@pa_nil _) rfl) (by decide) (by rfl) (by rfl)) (by rfl)) (@pg_name _ _ (3) _ sc_l_held.nd rfl (Or.inl k_l_held_l_number) (by first | exact .inl rfl | exact .inr rfl | assumption)) (@pss_cons _ _ _ _ _ (@ps_asg _ _ _ _ _ _ (@pe_ix _ _ _ _ _ _ _ (@ixT_k _ (K) (by rfl)) (@pe_ix _ _ _ _ _ _ _ (@ixT_k _ (K) (by rfl)) (@pw _ 0 _ _ (Or.inl k_l_held_l_net) (by rfl) (by decide) (by decide)) (@pe_int _ _ _ _) (fun _ _=>rfl)) (@pw _ 3 _ _ (Or.inl k_l_held_l_number) (by rfl) (by decide) (by decide)) (fun _ _=>rfl)) (@pg_tup_k _ (K) _ _ _ _ (5) rfl (@pgs_cons _ _ _ _ _ (@pg_name _ _ (4) _ sc_l_held.nd rfl (Or.inl k_l_held_l_begin) (by first | exact .inl rfl | exact .inr rfl | assumption)) (@pgs_cons _ _ _ _ _ (@pg_name _ _ (5) _ sc_l_held.nd rfl (Or.inl k_l_held_l_end) (by first | exact .inl rfl | exact .inr rfl | assumption)) (@pgs_cons _ _ _ _ _ (@pg_name _ _ (6) _ sc_l_held.nd rfl (Or.inl k_l_held_l_top) (by first | exact .inl rfl | exact .inr rfl | assumption)) (@pgs_cons _ _ _ _ _ (@pg_name _ _ (7) _ sc_l_held.nd rfl (Or.inl k_l_held_l_gain) (by first | exact .inl rfl | exact .inr rfl | assumption)) (@pgs_cons _ _ _ _ _ (@pg_name _ _ (8) _ sc_l_held.nd rfl (Or.inl k_l_held_l_price) (by first | exact .inl rfl | exact .inr rfl | assumption)) (@pgs_nil _) (by rfl)) (by rfl)) (by rfl)) (by rfl)) (by rfl)) (by rfl) (by rfl) (by rfl)) (by rfl) (by rfl) (by rfl)) (@pss_one _ _ _ (@ps_if _ _ _ _ _ _ _ _ (@pt_cmpR _ _ _ _ _ _ _ _ (@op_gt _) (@pe_call _ _ _ _ _ _ _ _ _ _ _ _ _ _ _ _ G_l_above (hr.mono (by decide)) k_l_held_l_above T.m_l_above T.F_l_above.kp T.B_l_above .nil (@pass0 _) (@pa_c _ _ _ _ _ (@pe_call _ _ _ _ _ _ _ _ _ _ _ _ _ _ _ _ G_l_product (hr.mono (by decide)) k_l_held_l_product T.m_l_product T.F_l_product.kp T.B_l_product .nil (@pass0 _) (@pa_c _ _ _ _ _ (@pw _ 7 _ _ (Or.inl k_l_held_l_gain) (by rfl) (by decide) (by decide)) (@pa_c _ _ _ _ _ (@pe_ix _ _ _ _ _ _ _ (@ix_dict _) (@pw _ 2 _ _ (Or.inl k_l_held_l_known) (by rfl) (by decide) (by decide)) (@pw _ 5 _ _ (Or.inl k_l_held_l_end) (by rfl) (by decide) (by decide)) (fun _ _=>rfl)) (@pa_nil _) rfl) rfl) (by decide) (by rfl) (by rfl)) (@pa_c _ _ _ _ _ (@pe_ix _ _ _ _ _ _ _ (@ix_dict _) (@pw _ 2 _ _ (Or.inl k_l_held_l_known) (by rfl) (by decide) (by decide)) (@pw _ 4 _ _ (Or.inl k_l_held_l_begin) (by rfl) (by decide) (by decide)) (fun _ _=>rfl)) (@pa_nil _) rfl) rfl) (by decide) (by rfl) (by rfl)) (@pe_int _ _ _ _) (@nomark _ _ (by decide) (by decide))) (@pss_one _ _ _ (@ps_ret _ _ _ _ (@pe_bl _ _ _ _))) (@pss_nil _)))) (by intro _;rfl)) (@pss_one _ _ _ (@ps_ret _ _ _ _ (@pe_bl _ _ _ _)))))),?_⟩
    have isx:IsD (fun _=>False) H (.ref a) (.list (ls.map fun l=>frD (ω l))):=.lst ha (fun z=>z) (isAll_of (by rw [List.length_map];exact lx) fun j x d h1 h2=>by
      rw [List.getElem?_map] at h2
      obtain ⟨l,el,rfl⟩:=Option.map_eq_some_iff.mp h2
      obtain ⟨o,e1,e2⟩:=vx j l el
      rw [h1] at e1
      obtain rfl:=Option.some.inj e1
      exact (isF (p:=ω l) e2).narrow fun _ _=>trivial)
    refine seqH fun DA nA=>?_
    refine ⟨_,rfl,_,_,_,_,rfl,isx.ty,kit_list _,_,rfl,iteF ?_⟩
    refine ⟨_,rfl,a,xs,rfl,.inl (SqL.of ha),_,rfl,na,_,_,_,rfl,rfl,SqT.of hna,rfl,pa,_,rfl,.inr (SqT.of hpa),rfl,_,rfl,?_⟩
    rw [show xs.length=(ls.map strV).length by rw [List.length_map];exact lx]
    refine iteSame ?_
    refine ⟨_,rfl,a,rfl,⟨_,SqL.of ha⟩,fun D hD=>comp_mapL (xs:=xs) (fun i=>((ls[i]?).map fun l=>V.int (ω l).1).getD .non) (by trivial) hD ha ?_ ?_⟩
    · intro i x H' R' hxi sm kk
      have li:i<ls.length:=by rw [←lx];exact (List.getElem?_eq_some_iff.mp hxi).1
      obtain ⟨o,e1,e2⟩:=vx i ls[i] (List.getElem?_eq_getElem li)
      rw [hxi] at e1
      obtain rfl:=Option.some.inj e1
      rw [List.getElem?_eq_getElem li] at kk
      exact ⟨back1,_,rfl,o,_,_,_,rfl,rfl,SqT.of (sm _ _ e2),rfl,kk H' (Same.refl _)⟩
    intro H1 s1 hD1
    have e3:(List.range xs.length).map (fun i=>((ls[i]?).map fun l=>V.int (ω l).1).getD .non)=(ls.map fun l=>(ω l).1).map V.int:=by
      rw [lx,map_range_get (fun i=>((ls[i]?).map fun l=>V.int (ω l).1).getD .non) (fun l=>V.int (ω l).1) ls (fun i x e=>by rw [e];rfl),List.map_map]
      rfl
    rw [e3] at hD1
    refine ⟨D,_,rfl,hD1,fun z=>?_,fun n hn=>⟨_,_,rfl,rfl,_,rfl,?_⟩⟩
    · have:=congrArg List.length z
      simp at this
      rw [this] at l1
      simp at l1
    obtain ⟨l,hl,rfl⟩:=List.mem_map.mp hn
    have p1:=(gω l hl).2
    rw [show decide ((ω l).1≤0)=false from decide_eq_false (by trivial)]
    refine iteF (nA _ _ ?_)
    have ha1:=s1 _ _ ha
    refine seqA fun Q2 nA2=>⟨_,rfl,na,_,_,_,rfl,rfl,SqT.of (s1 _ _ hna),rfl,_,rfl,pa,a,false,true,ls.map fun l=>(Sum.inr (S l):Key),xs,rfl,(by rw [keysS];exact SqT.of (s1 _ _ hpa)),SqL.of ha1,by rw [List.length_map];trivial,keysN nd,by rw [List.length_map];trivial,fun W H2 n2=>nA2 _ _ ?_⟩
    have s2:=s1.trans n2.sm
    have vW:∀l∈ls,∃o,valD ((ls.map fun l=>(Sum.inr (S l):Key)).zip xs) (Sum.inr (S l))=some (.ref o)∧H2 o=some (fr (ω l)):=fun l hl=>by
      obtain ⟨j,hj⟩:=List.getElem?_of_mem hl
      obtain ⟨o,e1,e2⟩:=vx j l hj
      exact ⟨o,valD_zip (i:=j) (keysN nd) (by rw [List.getElem?_map,hj];rfl) e1,s2 _ _ e2⟩
    refine seqH fun DB nB=>?_
    refine ⟨_,rfl,.ref na,ls,ts,rfl,hv.sm s2,by trivial,fun D2 H3 s3 fD2 hD2=>⟨D2,rfl,⟨_,SqL.of hD2⟩,for_list (xs:=natV (opIx ts ts.length)) (fun i σ H'=>Ex6 fun (v3 v4 v5 v6 v7 v8:Option V)=>σ=[some (.ref na),some (.ref a),some (.ref W),v3,v4,v5,v6,v7,v8]∧Same H3 H') ⟨_,_,_,_,_,_,rfl,Same.refl _⟩ ?_ ?_ ?_⟩⟩
    · rintro i σ H' _ ⟨_,_,_,_,_,_,_,sm⟩
      exact SqL.of (sm _ _ hD2)
    · rintro i x σ J hx ⟨v3,v4,v5,v6,v7,v8,rfl,sm⟩
      rw [List.getElem?_map] at hx
      obtain ⟨j,hj,rfl⟩:=Option.map_eq_some_iff.mp hx
      have mj:=List.mem_of_getElem? hj
      have jlt:j<ts.length:=List.mem_range.mp (List.mem_filter.mp mj).1
      obtain ⟨t,et⟩:∃t,ts[j]?=some t:=⟨_,List.getElem?_eq_getElem jlt⟩
      have mt:=List.mem_of_getElem? et
      have tt:=tc t mt
      have op:=(mem_opIx tc et).mp mj
      obtain ⟨o,om,og,op',ey,ho,hom,hog,hop⟩:=tie_at ity et
      have s23:=s3.trans sm
      have sJ:=s2.trans s23
      obtain ⟨oe,ve,hoe⟩:=vW t.en tt.e
      obtain ⟨ob,vb,hob⟩:=vW t.bg tt.b
      obtain ⟨ge,pe1⟩:=gω t.en tt.e
      obtain ⟨gb,pb1⟩:=gω t.bg tt.b
      have hW:=s23 _ _ n2.at'
      refine ⟨_,rfl,na,_,_,_,rfl,rfl,SqT.of (sJ _ _ hna),rfl,_,rfl,ta,_,_,_,rfl,rfl,SqT.of (sJ _ _ hta),atI_nat ey,o,_,rfl,SqT.of (sJ _ _ ho),rfl,_,_,rfl,_,_,rfl,_,_,rfl,_,_,rfl,_,_,rfl,rfl,?_⟩
      refine ⟨_,rfl,_,rfl,_,rfl,W,_,Sum.inr (S t.en),.ref oe,rfl,rfl,hW,ve,og,oe,t.gain,ω t.en,_,_,_,_,rfl,sJ _ _ hog,s23 _ _ hoe,tt.fg,ge,by decide,by decide,by decide,by decide,(fun z=>by cases z),fun q J2 n2'=>?_⟩
      have gq:Gb 1506 1506 (KM.lTim t.gain (ω t.en)):=tt.fg.tim ge (by decide) (by decide)
      refine ⟨_,rfl,_,rfl,W,_,Sum.inr (S t.bg),.ref ob,rfl,rfl,n2'.sm _ _ hW,vb,q,ob,_,ω t.bg,rfl,n2'.at',n2'.sm _ _ (s23 _ _ hob),gq.n.mono (by decide),gq.d.mono (by decide),gb.n.mono (by decide),gb.d.mono (by decide),_,_,rfl,rfl,_,rfl,?_⟩
      have hl:=hh t mt
      unfold lifts at hl
      rw [decide_eq_true op,Bool.true_and] at hl
      have hl':=of_decide_eq_false hl
      rw [show decide (0<(KM.lTim t.gain (ω t.en)).1*(ω t.bg).2 - (ω t.bg).1*(KM.lTim t.gain (ω t.en)).2)=false from decide_eq_false (by trivial)]
      exact iteF ⟨_,_,_,_,_,_,rfl,sm.trans n2'.sm⟩
    · rintro σ J ⟨v3,v4,v5,v6,v7,v8,rfl,sm⟩
      exact nB _ _ (k J (s2.trans (s3.trans sm)))
inductive spRight_ (vs:List V) (H:Hp) (Q:VK):Prop
  | mk (v:V) (ls:List (List Nat)) (ts:List TieD) (h0:vs=[v]) (h1:IsD ED H v (netD ls ts)) (h2:(∀t∈ts,TGd ls t)) (h3:ts.length≤24) (h4:1≤ls.length) (h5:ls.length≤10) (h6:ls.Nodup) (h7:(∀l∈ls,NameC l)) (h8:∀H':Hp,Same H H'→Q (.bl true) H')
def spRight:Sp:=fun vs H Q _=>spRight_  vs H Q
theorem ok_l_right (T:Txt K mg):FnOk P w K mg base CX0 8 T.f_l_right T.d_l_right ["_law_net"] spRight:=by
  have G_gaining_round:=ok_gaining_round (P:=P) (w:=w) (base:=base) T
  have G_holding_worths:=ok_holding_worths (P:=P) (w:=w) (base:=base) T
  have G_l_is_round:=ok_l_is_round (P:=P) (w:=w) (base:=base) T
  have G_l_held:=ok_l_held (P:=P) (w:=w) (base:=base) T
  have G_l_some_gains:=ok_l_some_gains (P:=P) (w:=w) (base:=base) T
  refine T.F_l_right.ok sc_l_right (fun vs H Q E h=>?_) (fun cdv A outer s H vs Q E hr h=>?_)
  · obtain ⟨v,ls,ts,rfl,_⟩:=h
    rfl
  · obtain ⟨v,ls,ts,rfl,hv,tc,h24,l1,l10,nd,nc,k⟩:=h
    obtain ⟨na,pa,ta,ys,rfl,hna,hpa,hta,ity⟩:=net_inv2 hv
    have tk:∀t∈ts,TOk ls t:=fun t ht=>(tc t ht).tok
    refine ⟨_,(@pss_cons _ _ _ _ _ (@ps_set _ _ (1) _ _ _ _ sc_l_right.nd rfl (Or.inl k_l_right_l_found) (@pe_call _ _ _ _ _ _ _ _ _ _ _ _ _ _ _ _ G_gaining_round (hr.mono (by decide)) k_l_right_gaining_round T.m_gaining_round T.F_gaining_round.kp T.B_gaining_round .nil (@pass0 _) (@pa_c _ _ _ _ _ (@pw _ 0 _ _ (Or.inl k_l_right_l_net) (by rfl) (by decide) (by decide)) (@pa_nil _) rfl) (by decide) (by rfl) (by rfl)) (by rfl) (by first | exact .inl rfl | exact .inr rfl | assumption)) (@pss_cons _ _ _ _ _ (@ps_if _ _ _ _ _ _ _ _ (@pt_cmpR _ _ _ _ _ _ _ _ (@op_notN _) (@pw _ 1 _ _ (Or.inl k_l_right_l_found) (by rfl) (by decide) (by decide)) (@pe_non _ _ _) (@nomark _ _ (by decide) (by decide))) (@pss_one _ _ _ (@ps_ret _ _ _ _ (@pe_call _ _ _ _ _ _ _ _ _ _ _ _ _ _ _ _ G_l_is_round (hr.mono (by decide)) k_l_right_l_is_round T.m_l_is_round T.F_l_is_round.kp T.B_l_is_round .nil (@pass0 _) (@pa_c _ _ _ _ _ (@pw _ 0 _ _ (Or.inl k_l_right_l_net) (by rfl) (by decide) (by decide)) (@pa_c _ _ _ _ _ (@pw _ 1 _ _ (Or.inl k_l_right_l_found) (by rfl) (by decide) (by decide)) (@pa_nil _) rfl) rfl) (by decide) (by rfl) (by rfl)))) (@pss_nil _)) (@pss_cons _ _ _ _ _ (@ps_if _ _ _ _ _ _ _ _ (@pt_cmpR _ _ _ _ _ _ _ _ (@op_gt _) (@pe_callB _ _ _ _ _ _ _ _ _ (@len_k _ (K) (by rfl)) k_l_right_len T.b_len (@boot_b_len) (@pa_c _ _ _ _ _ (@pe_ix _ _ _ _ _ _ _ (@ixT_k _ (K) (by rfl)) (@pw _ 0 _ _ (Or.inl k_l_right_l_net) (by rfl) (by decide) (by decide)) (@pe_int _ _ _ _) (fun _ _=>rfl)) (@pa_nil _) rfl) (by decide) (by decide) (by rfl) (by rfl)) (@pe_int _ _ _ _) (@nomark _ _ (by decide) (by decide))) (@pss_one _ _ _ (@ps_ret _ _ _ _ (@pe_call _ _ _ _ _ _ _ _ _ _ _ _ _ _ _ _ G_l_held (hr.mono (by decide)) k_l_right_l_held T.m_l_held T.F_l_held.kp T.B_l_held .nil (@pass0 _) (@pa_c _ _ _ _ _ (@pw _ 0 _ _ (Or.inl k_l_right_l_net) (by rfl) (by decide) (by decide)) (@pa_c _ _ _ _ _ (@pe_call _ _ _ _ _ _ _ _ _ _ _ _ _ _ _ _ G_holding_worths (hr.mono (by decide)) k_l_right_holding_worths T.m_holding_worths T.F_holding_worths.kp T.B_holding_worths .nil (@pass0 _) (@pa_c _ _ _ _ _ (@pw _ 0 _ _ (Or.inl k_l_right_l_net) (by rfl) (by decide) (by decide)) (@pa_nil _) rfl) (by decide) (by rfl) (by rfl)) (@pa_nil _) rfl) rfl) (by decide) (by rfl) (by rfl)))) (@pss_nil _)) (@pss_one _ _ _ (@ps_ret _ _ _ _ (@pe_not _ _ _ _ (@pe_call _ _ _ _ _ _ _ _ _ _ _ _ _ _ _ _ G_l_some_gains (hr.mono (by decide)) k_l_right_l_some_gains T.m_l_some_gains T.F_l_some_gains.kp T.B_l_some_gains .nil (@pass0 _) (@pa_c _ _ _ _ _ (@pw _ 0 _ _ (Or.inl k_l_right_l_net) (by rfl) (by decide) (by decide)) (@pa_nil _) rfl) (by decide) (by rfl) (by rfl)))))))),?_⟩
    by_cases hm:∃m,m<ls.length∧(stL ts (m+1)).lf=none
    · obtain ⟨mx,hmx,emx⟩:=hm
      refine seqA fun Q1 nA1=>⟨_,rfl,.ref na,ls,ts,rfl,hv,tc,h24,l1,l10,.inl ⟨mx,hmx,emx,fun H1 s1=>nA1 _ _ ?_⟩⟩
      refine seqR fun DA nA rA=>?_
      refine ⟨_,rfl,rfl,_,rfl,iteF (nA _ _ ?_)⟩
      refine seqR fun DB nB rB=>?_
      refine ⟨_,rfl,na,_,_,_,rfl,rfl,SqT.of (s1 _ _ hna),rfl,pa,_,rfl,.inr (SqT.of (s1 _ _ hpa)),_,_,rfl,rfl,_,rfl,?_⟩
      rw [List.length_map]
      refine ite2 (fun cnd=>?_) (fun cnd=>?_)
      · refine ⟨_,rfl,_,rfl,.ref na,ls,ts,mx,rfl,hv.sm s1,tc,h24,l10,hmx,emx,fun m r xs H2 hm em s2 fr' hr' lx vx gx=>?_⟩
        refine ⟨.ref na,r,ls,ts,xs,(stL ts m).ω,rfl,(hv.sm s1).sm s2,tc,h24,l1,l10,nd,hr',lx,vx,gx,(pass_none (s:=stL ts m) em).2,fun H3 s3=>?_⟩
        exact rB _ _ (k H3 ((s1.trans s2).trans s3))
      · have l6:ls.length≤6:=by
          have:¬((ls.length:Int) > 6):=fun z=>cnd (decide_eq_true z)
          trivial
        have bi:=BI.st tk mx
        refine nB _ _ ?_
        refine ⟨_,rfl,.ref na,ls,ts,fun l=>KM.vl ((stL ts mx).ω l),rfl,hv.sm s1,tc,h24,l6,nc,(fun l hl=>vl_pos1 (bi.pos l hl).1 (bi.pos l hl).2),fun t ht op=>?_,fun H2 s2=>⟨_,rfl,k H2 (s1.trans s2)⟩⟩
        have no:=(pass_none (s:=stL ts mx) emx).2 t ht
        apply Rat.not_lt.mp
        intro z
        have:=(lifts_iff (tk t ht) bi.pos).mpr ⟨op,z⟩
        rw [no] at this
        cases this
    · have hall:∀m,m<ls.length→(stL ts (m+1)).lf≠none:=fun m h e=>hm ⟨m,h,e⟩
      refine seqA fun Q1 nA1=>⟨_,rfl,.ref na,ls,ts,rfl,hv,tc,h24,l1,l10,.inr ⟨hall,fun R us r H1 rk lR s1 fr' hr'=>nA1 _ _ ?_⟩⟩
      refine seqR fun DA nA rA=>?_
      refine ⟨_,rfl,rfl,_,rfl,iteT ?_⟩
      refine ⟨_,rfl,_,rfl,.ref na,r,ls,ts,R,us,rfl,hv.sm s1,tc,by trivial,nc,hr',rk,lR,fun H2 s2=>?_⟩
      exact rA _ _ (k H2 (s1.trans s2))
end
end K10
namespace K10
open PySem L2
set_option maxHeartbeats 8000000
theorem wt_tieG {ls:List (List Nat)}{t:TieD} (hl:∀l∈ls,NameC l) (h:TGd ls t):Wt (tieD t) 12 2:=
  .tuple (.cons (.str (strT_name (hl _ h.b))) (.cons (.str (strT_name (hl _ h.e))) (.cons (wt_g h.fm (by decide) (by decide)) (.cons (wt_g h.fg (by decide) (by decide)) (.cons (wt_g h.fp (by decide) (by decide)) .nil)))))
theorem wt_netG {ls:List (List Nat)}{ts:List TieD} (hl:∀l∈ls,NameC l) (ht:∀t∈ts,TGd ls t):Wt (netD ls ts) (1*ls.length+1+(12*ts.length+1+0)+1) 4:=
  .tuple (.cons (.deep (.tuple (wtL_map (m:=1) (k:=0) fun l h=>.str (strT_name (hl l h)))) (by decide)) (.cons (.tuple (wtL_map fun t h=>wt_tieG hl (ht t h))) .nil))
section
variable {P:Program}{w:World}{K:PySem.W.Frag}{mg:Str→Option Value}{base:Heap}
inductive spLaw_ (K:PySem.W.Frag) (vs:List V) (H:Hp) (Q:VK):Prop
  | mk (a:Addr) (ns:List Int) (h0:vs=[.ref a]) (h1:SqL K H a (ns.map V.int)) (h2:ns.length≤63) (h3:∀H',Q (.bl true) H')
def spLaw (K:PySem.W.Frag):Sp:=fun vs H Q _=>spLaw_ K vs H Q
theorem law_start {H:Hp}{a:Addr}{ns:List Int} (hl:ns.length≤63) (_:Only H) (hS:SqL K H a (ns.map V.int)):spLaw K [.ref a] H (fun v _=>v=.bl true) fun _ _ _=>False:=
  ⟨a,ns,rfl,hS,hl,fun _=>rfl⟩
theorem law_ok (T:Txt K mg):FnOk P w K mg base CX0 40 T.f_law T.d_law ["_law_script"] (spLaw K):=by
  have G_l_folded:=ok_folded (P:=P) (w:=w) (base:=base) T
  have G_l_box:=ok_box (P:=P) (w:=w) (base:=base) T
  have G_l_net_by:=ok_net_by (P:=P) (w:=w) (base:=base) T
  have G_l_right:=ok_l_right (P:=P) (w:=w) (base:=base) T
  have G_gaining_round:=ok_gaining_round (P:=P) (w:=w) (base:=base) T
  refine T.F_law.ok sc_law (fun vs H Q E h=>?_) (fun cdv A outer s H vs Q E hr h=>?_)
  · obtain ⟨a,ns,rfl,_⟩:=h
    rfl
  · obtain ⟨a,ns,rfl,hS,hn,k⟩:=h
    refine ⟨_,(@pss_cons _ _ _ _ _ (@ps_set _ _ (1) _ _ _ _ sc_law.nd rfl (Or.inl k_law_l_cells) (@pe_call _ _ _ _ _ _ _ _ _ _ _ _ _ _ _ _ G_l_folded (hr.mono (by decide)) k_law_l_folded T.m_l_folded T.F_l_folded.kp T.B_l_folded .nil (@pass0 _) (@pa_c _ _ _ _ _ (@pw _ 0 _ _ (Or.inl k_law_l_script) (by rfl) (by decide) (by decide)) (@pa_c _ _ _ _ _ (@pe_int _ _ _ _) (@pa_nil _) rfl) rfl) (by decide) (by rfl) (by rfl)) (by rfl) (by first | exact .inl rfl | exact .inr rfl | assumption)) (@pss_cons _ _ _ _ _ (@ps_for _ _ _ _ _ _ _ _ PassesOwn.never rfl (@pi_range1 _ _ _ _ _ _ k_law_range T.b_range (@pa_c _ _ _ _ _ (@pe_callB _ _ _ _ _ _ _ _ _ (@call_max2 _ rfl) k_law_max T.b_max (@boot_b_max) (@pa_c _ _ _ _ _ (@pe_int _ _ _ _) (@pa_c _ _ _ _ _ (@pe_callB _ _ _ _ _ _ _ _ _ (@len_k _ (K) (by rfl)) k_law_len T.b_len (@boot_b_len) (@pa_c _ _ _ _ _ (@pw _ 1 _ _ (Or.inl k_law_l_cells) (by rfl) (by decide) (by decide)) (@pa_nil _) rfl) (by decide) (by decide) (by rfl) (by rfl)) (@pa_nil _) rfl) rfl) (by decide) (by decide) (by rfl) (by rfl)) (@pa_nil _) rfl) (by rfl)) (@pg_name _ _ (2) _ sc_law.nd rfl (Or.inl k_law_l_k) (by first | exact .inl rfl | exact .inr rfl | assumption)) (@pss_cons _ _ _ _ _ (@ps_set _ _ (3) _ _ _ _ sc_law.nd rfl (Or.inl k_law_l_box_here) (@pe_call _ _ _ _ _ _ _ _ _ _ _ _ _ _ _ _ G_l_box (hr.mono (by decide)) k_law_l_box T.m_l_box T.F_l_box.kp T.B_l_box .nil (@pass0 _) (@pa_c _ _ _ _ _ (@pw _ 1 _ _ (Or.inl k_law_l_cells) (by rfl) (by decide) (by decide)) (@pa_c _ _ _ _ _ (@pw _ 2 _ _ (Or.inl k_law_l_k) (by rfl) (by decide) (by decide)) (@pa_nil _) rfl) rfl) (by decide) (by rfl) (by rfl)) (by rfl) (by first | exact .inl rfl | exact .inr rfl | assumption)) (@pss_one _ _ _ (@ps_for _ _ _ _ _ _ _ _ PassesOwn.never rfl (@pi_range1 _ _ _ _ _ _ k_law_range T.b_range (@pa_c _ _ _ _ _ (@pe_int _ _ _ _) (@pa_nil _) rfl) (by rfl)) (@pg_name _ _ (4) _ sc_law.nd rfl (Or.inl k_law_l_turn) (by first | exact .inl rfl | exact .inr rfl | assumption)) (@pss_cons _ _ _ _ _ (@ps_set _ _ (5) _ _ _ _ sc_law.nd rfl (Or.inl k_law_l_net) (@pe_call _ _ _ _ _ _ _ _ _ _ _ _ _ _ _ _ G_l_net_by (hr.mono (by decide)) k_law_l_net_by T.m_l_net_by T.F_l_net_by.kp T.B_l_net_by .nil (@pass0 _) (@pa_c _ _ _ _ _ (@pw _ 3 _ _ (Or.inl k_law_l_box_here) (by rfl) (by decide) (by decide)) (@pa_c _ _ _ _ _ (@pe_int _ _ _ _) (@pa_c _ _ _ _ _ (@pe_int _ _ _ _) (@pa_nil _) rfl) rfl) rfl) (by decide) (by rfl) (by rfl)) (by rfl) (by first | exact .inl rfl | exact .inr rfl | assumption)) (@pss_cons _ _ _ _ _ (@ps_set _ _ (6) _ _ _ _ sc_law.nd rfl (Or.inl k_law_l_written) (@pe_callTy _ _ _ _ _ _ _ _ _ (@call_strW _ _ hr) k_law_str T.b_str (@boot_ty_str) (@pa_c _ _ _ _ _ (@pw _ 5 _ _ (Or.inl k_law_l_net) (by rfl) (by decide) (by decide)) (@pa_nil _) rfl) (by decide) (by decide) (by rfl) (by rfl)) (by rfl) (by first | exact .inl rfl | exact .inr rfl | assumption)) (@pss_one _ _ _ (@ps_for _ _ _ _ _ _ _ _ PassesOwn.never rfl (@pi_range1 _ _ _ _ _ _ k_law_range T.b_range (@pa_c _ _ _ _ _ (@pe_int _ _ _ _) (@pa_nil _) rfl) (by rfl)) (@pg_name _ _ (7) _ sc_law.nd rfl (Or.inl k_law_l_again) (by first | exact .inl rfl | exact .inr rfl | assumption)) (@pss_cons _ _ _ _ _ (@ps_if _ _ _ _ _ _ _ _ (@PW.pt _ _ _ (@pw_or _ _ _ _ _ _ _ (@pt_not _ _ _ _ (@pt_val _ _ _ (@pe_call _ _ _ _ _ _ _ _ _ _ _ _ _ _ _ _ G_l_right (hr.mono (by decide)) k_law_l_right T.m_l_right T.F_l_right.kp T.B_l_right .nil (@pass0 _) (@pa_c _ _ _ _ _ (@pw _ 5 _ _ (Or.inl k_law_l_net) (by rfl) (by decide) (by decide)) (@pa_nil _) rfl) (by decide) (by rfl) (by rfl)) (by intro _;rfl))) (@pw_or1 _ _ _ _ (@pt_cmpR _ _ _ _ _ _ _ _ (@op_ne _) (@pe_callTy _ _ _ _ _ _ _ _ _ (@call_strW _ _ hr) k_law_str T.b_str (@boot_ty_str) (@pa_c _ _ _ _ _ (@pw _ 5 _ _ (Or.inl k_law_l_net) (by rfl) (by decide) (by decide)) (@pa_nil _) rfl) (by decide) (by decide) (by rfl) (by rfl)) (@pw _ 6 _ _ (Or.inl k_law_l_written) (by rfl) (by decide) (by decide)) (@nomark _ _ (by decide) (by decide)))))) (@pss_one _ _ _ (@ps_ret _ _ _ _ (@pe_bl _ _ _ _))) (@pss_nil _)) (@pss_cons _ _ _ _ _ (@ps_set _ _ (8) _ _ _ _ sc_law.nd rfl (Or.inl k_law_l_found) (@pe_call _ _ _ _ _ _ _ _ _ _ _ _ _ _ _ _ G_gaining_round (hr.mono (by decide)) k_law_gaining_round T.m_gaining_round T.F_gaining_round.kp T.B_gaining_round .nil (@pass0 _) (@pa_c _ _ _ _ _ (@pw _ 5 _ _ (Or.inl k_law_l_net) (by rfl) (by decide) (by decide)) (@pa_nil _) rfl) (by decide) (by rfl) (by rfl)) (by rfl) (by first | exact .inl rfl | exact .inr rfl | assumption)) (@pss_one _ _ _ (@ps_if _ _ _ _ _ _ _ _ (@pt_cmpR _ _ _ _ _ _ _ _ (@op_notN _) (@pw _ 8 _ _ (Or.inl k_law_l_found) (by rfl) (by decide) (by decide)) (@pe_non _ _ _) (@nomark _ _ (by decide) (by decide))) (@pss_cons _ _ _ _ _ (@ps_expr _ _ _ _ (@pe_bm0 _ _ _ _ _ _ _ _ _ PySem.F.plainAttrs_list PySem.F.slot_list_reverse PySem.F.type_list_reverse (@mt_reverseA _) (@pw _ 8 _ _ (Or.inl k_law_l_found) (by rfl) (by decide) (by decide)) (by rfl) (by rfl)) (by rfl)) (@pss_one _ _ _ (@ps_expr _ _ _ _ (@pe_bm_k _ (K) _ _ _ _ _ _ _ _ _ _ _ PySem.F.plainAttrs_list PySem.F.slot_list_append PySem.F.type_list_append (@mt_appendA _) (@pw _ 8 _ _ (Or.inl k_law_l_found) (by rfl) (by decide) (by decide)) (@pa_c _ _ _ _ _ (@pe_int _ _ _ _) (@pa_nil _) rfl) (by rfl) (by rfl) (by rfl) (by rfl) (by rfl) (by rfl)) (by rfl)))) (@pss_nil _))))) (by intro _;rfl))))) (by intro _;rfl)))) (by intro _;rfl)) (@pss_one _ _ _ (@ps_ret _ _ _ _ (@pe_bl _ _ _ _))))),?_⟩
    refine seqH fun DA nA=>?_
    refine ⟨_,rfl,a,ns,4,rfl,hS,hn,by decide,by decide,fun p ms H1 hp s1 hp1 hm4=>?_⟩
    refine nA _ _ ?_
    have hmx:0≤(if ((ms.map V.int).length:Int) > 2 then ((ms.map V.int).length:Int) else 2)∧(if ((ms.map V.int).length:Int) > 2 then ((ms.map V.int).length:Int) else 2)≤4:=by
      rw [List.length_map]
      split <;> trivial
    refine ⟨_,rfl,p,_,rfl,.inl (SqL.of hp1),_,_,rfl,_,rfl,by trivial,by trivial,?_⟩
    generalize (if ((ms.map V.int).length:Int) > 2 then ((ms.map V.int).length:Int) else 2)=mx at hmx
    refine for_range (fun i σ H'=>Ex7 fun v2 v3 v4 v5 v6 v7 v8=>σ=[some (.ref a),some (.ref p),v2,v3,v4,v5,v6,v7,v8]∧H' p=some (.lst (ms.map V.int))) ⟨_,_,_,_,_,_,_,rfl,hp1⟩ ?_ ?_
    case refine_2=>
      rintro σ H' ⟨v2,v3,v4,v5,v6,v7,v8,rfl,_⟩
      exact k _
    rintro i σ H2 hi ⟨v2,v3,v4,v5,v6,v7,v8,rfl,hp2⟩
    refine bodyH (t:=tSeq _ _) fun DB nB=>?_
    refine seqH fun DC nC=>?_
    refine ⟨_,rfl,_,rfl,p,ms,_,rfl,SqL.of hp2,by trivial,by trivial,fun b H3 hb s3 B3=>?_⟩
    refine nC _ _ ?_
    have npb:¬p=b:=fun z=>by rw [z,hb] at hp2;cases hp2
    have hp3:=s3 _ _ hp2
    refine ⟨2,rfl,by decide,by decide,for_range (fun i' σ H'=>Ex6 fun (v4 v5 v6 v7 v8:Option V) (t':Int)=>σ=[some (.ref a),some (.ref p),some (.int (0+(i:Int))),some (.ref b),v4,v5,v6,v7,v8]∧Bx H' b t'∧0≤t'∧t'≤2000*i'∧SameE (Eb b) H3 H') ⟨_,_,_,_,_,0,rfl,B3,by trivial,by trivial,SameE.refl _⟩ ?_ ?_⟩
    case refine_2=>
      rintro σ H' ⟨v4,v5,v6,v7,v8,t',rfl,_,_,_,sE⟩
      exact nB _ _ ⟨_,_,_,_,_,_,_,rfl,sE.old p _ npb hp3⟩
    rintro i' σ H4 hi' ⟨v4,v5,v6,v7,v8,t4,rfl,B4,h40,h41,sE4⟩
    refine bodyH (t:=tSeq _ _) fun DD nD=>?_
    refine seqA fun Q5 nA5=>⟨_,rfl,b,5,8,t4,rfl,B4,by trivial,by trivial,by decide,by decide,by decide,by decide,fun nv ls ts t5 H5 s5 iN l2 l10 nd nc l1 l24 tc B5 h5a h5b=>nA5 _ _ ?_⟩
    have wt:=(wt_netG nc tc).deep (show 4≤20 by decide)
    have sh:∀{J:Hp},Same H5 J→∃na,nv=.ref na∧IsD ED J (.ref na) (netD ls ts):=fun {J} sJ=>by
      obtain ⟨na,pa,ta,ys,rfl,_⟩:=net_inv2 iN
      exact ⟨na,rfl,iN.sm sJ⟩
    obtain ⟨na,rfl,iN0⟩:=sh (Same.refl _)
    refine seqA fun Q6 nA6=>⟨_,rfl,na,_,ED,_,_,rfl,iN,wt,by trivial,by decide,nA6 _ _ ?_⟩
    refine ⟨2,rfl,by decide,by decide,for_range (fun j σ H'=>Ex2 fun (v7 v8:Option V)=>σ=[some (.ref a),some (.ref p),some (.int (0+(i:Int))),some (.ref b),some (.int (0+(i':Int))),some (.ref na),some (.str (PyData.shown (netD ls ts))),v7,v8]∧Same H5 H') ⟨_,_,rfl,Same.refl _⟩ ?_ ?_⟩
    case refine_2=>
      rintro σ H' ⟨v7,v8,rfl,sm⟩
      exact nD _ _ ⟨_,_,_,_,_,t5,rfl,B5.same sm,by trivial,by trivial,(sE4.trans s5).trans sm.toE⟩
    rintro j σ H6 hj ⟨v7,v8,rfl,sm6⟩
    refine bodyH (t:=tSeq _ _) fun DE nE=>?_
    refine seqH fun DF nF=>?_
    refine ⟨_,rfl,.ref na,ls,ts,rfl,iN.sm sm6,tc,l24,by trivial,l10,nd,nc,fun H7 s7=>⟨_,rfl,iteF ?_⟩⟩
    have sm7:=sm6.trans s7
    refine ⟨_,rfl,na,_,ED,_,_,rfl,iN.sm sm7,wt,by trivial,by decide,_,rfl,rfl,_,rfl,?_⟩
    refine iteSame (nF _ _ ?_)
    by_cases hm:∃m,m<ls.length∧(stL ts (m+1)).lf=none
    · obtain ⟨mx,hmx',emx⟩:=hm
      refine seqA fun Q8 nA8=>⟨_,rfl,.ref na,ls,ts,rfl,iN.sm sm7,tc,l24,by trivial,l10,.inl ⟨mx,hmx',emx,fun H8 s8=>nA8 _ _ ?_⟩⟩
      exact ⟨_,rfl,rfl,_,rfl,iteF (nE _ _ ⟨_,_,rfl,sm7.trans s8⟩)⟩
    · have hall:∀m,m<ls.length→(stL ts (m+1)).lf≠none:=fun m h e=>hm ⟨m,h,e⟩
      refine seqA fun Q8 nA8=>⟨_,rfl,.ref na,ls,ts,rfl,iN.sm sm7,tc,l24,by trivial,l10,.inr ⟨hall,fun R us r H8 rk lR s8 fr' hr'=>nA8 _ _ ?_⟩⟩
      refine ⟨_,rfl,rfl,_,rfl,iteT ?_⟩
      have sm8:=sm7.trans s8
      have f5:H5 r=none:=sm7.free fr'
      refine seqH fun DG nG=>⟨_,rfl,.inl ⟨rfl,_,SqL.of hr'⟩,r,_,rfl,rfl,hr',fun H9 c9=>nG _ _ ?_⟩
      refine ⟨_,rfl,.inl ⟨rfl,_,SqL.of c9.at'⟩,r,_,_,rfl,rfl,c9.at',by simp;trivial,fun H10 c10=>nE _ _ ⟨_,_,rfl,fun a o h=>c10.ol a o (fun z=>by rw [z,f5] at h;cases h) (c9.ol a o (fun z=>by rw [z,f5] at h;cases h) (sm8 _ _ h))⟩⟩
end
end K10
open PySem PySem.W PyProof.Rows
set_option maxRecDepth 100000 in
set_option maxHeartbeats 0 in
theorem PySem.Challenge.cw_gainroads_k10_rounds_that_gain_holds : PySem.Challenge.rw_gainroads_k10_rounds_that_gain.Holds := by
  w_on;o_law;k_head;(case hw=>w_witness2)
  k_fill
  refine L2.walk_ofK (l:=PySem.Challenge.rw_gainroads_k10_rounds_that_gain) (n:=63) (k:=40) (x := "_law_script") (CX:=L2.CX0) (sp:=K10.spLaw) rfl (by decide) rfl ⟨rfl,by decide,by decide,rfl⟩ (fun w h Y=>PySem.W.kIn_of Y) ?F ?S ?C
  case F=>
    intro w mg fa h KX G hmg
    have T:∃T:K10.Txt (L2.KOf KX) mg,∃f,T.f_law=f∧(∀(s:Shared) (u:Value),BindsTo s T.d_law ⟨[u],[]⟩ [("_law_script",u)]):=by
      dsimp only [L2.KOf]
      refine' (fun z=>Exists.elim z fun T y=>⟨T,_,y.1,y.2⟩) (K10.txt_mk KX G ?a0 ?l0 ?c0 ?k0 ?a1 ?l1 ?c1 ?k1 ?a2 ?l2 ?c2 ?k2 ?a3 ?l3 ?c3 ?k3 ?a4 ?l4 ?c4 ?k4 ?a5 ?l5 ?c5 ?k5 ?a6 ?l6 ?c6 ?k6 ?a7 ?l7 ?c7 ?k7 ?a8 ?l8 ?c8 ?k8 ?a9 ?l9 ?c9 ?k9 ?a10 ?l10 ?c10 ?k10 ?a11 ?l11 ?c11 ?k11 ?a12 ?l12 ?c12 ?k12 ?a13 ?l13 ?c13 ?k13 ?a14 ?l14 ?c14 ?k14 ?a15 ?l15 ?c15 ?k15 ?a16 ?l16 ?c16 ?k16 ?a17 ?l17 ?c17 ?k17 ?a18 ?l18 ?c18 ?k18 ?a19 ?l19 ?c19 ?k19 ?a20 ?l20 ?c20 ?k20 ?a21 ?l21 ?c21 ?k21 ?a22 ?l22 ?c22 ?k22 ?a23 ?l23 ?c23 ?k23 ?a24 ?l24 ?c24 ?k24 ?a25 ?l25 ?c25 ?k25 ?a26 ?l26 ?c26 ?k26 ?a27 ?l27 ?c27 ?k27 ?a28 ?l28 ?c28 ?k28 ?a29 ?l29 ?c29 ?k29 ?a30 ?l30 ?c30 ?k30 ?z0 ?z1 ?z2 ?z3 ?z4 ?z5 ?z6 ?z7 ?z8 ?z9 ?z10 ?z11 ?z12 ?z13 ?z14 ?z15 ?z16 ?z17)
      (case a0=>k_is)
      (case l0=>k_is)
      (case c0=>k_is)
      (case k0=>k_is)
      (case a1=>k_is)
      (case l1=>k_is)
      (case c1=>k_is)
      (case k1=>k_is)
      (case a2=>k_is)
      (case l2=>k_is)
      (case c2=>k_is)
      (case k2=>k_is)
      (case a3=>k_is)
      (case l3=>k_is)
      (case c3=>k_is)
      (case k3=>k_is)
      (case a4=>k_is)
      (case l4=>k_is)
      (case c4=>k_is)
      (case k4=>k_is)
      (case a5=>k_is)
      (case l5=>k_is)
      (case c5=>k_is)
      (case k5=>k_is)
      (case a6=>k_is)
      (case l6=>k_is)
      (case c6=>k_is)
      (case k6=>k_is)
      (case a7=>k_is)
      (case l7=>k_is)
      (case c7=>k_is)
      (case k7=>k_is)
      (case a8=>k_is)
      (case l8=>k_is)
      (case c8=>k_is)
      (case k8=>k_is)
      (case a9=>k_is)
      (case l9=>k_is)
      (case c9=>k_is)
      (case k9=>k_is)
      (case a10=>k_is)
      (case l10=>k_is)
      (case c10=>k_is)
      (case k10=>k_is)
      (case a11=>k_is)
      (case l11=>k_is)
      (case c11=>k_is)
      (case k11=>k_is)
      (case a12=>k_is)
      (case l12=>k_is)
      (case c12=>k_is)
      (case k12=>k_is)
      (case a13=>k_is)
      (case l13=>k_is)
      (case c13=>k_is)
      (case k13=>k_is)
      (case a14=>k_is)
      (case l14=>k_is)
      (case c14=>k_is)
      (case k14=>k_is)
      (case a15=>k_is)
      (case l15=>k_is)
      (case c15=>k_is)
      (case k15=>k_is)
      (case a16=>k_is)
      (case l16=>k_is)
      (case c16=>k_is)
      (case k16=>k_is)
      (case a17=>k_is)
      (case l17=>k_is)
      (case c17=>k_is)
      (case k17=>k_is)
      (case a18=>k_is)
      (case l18=>k_is)
      (case c18=>k_is)
      (case k18=>k_is)
      (case a19=>k_is)
      (case l19=>k_is)
      (case c19=>k_is)
      (case k19=>k_is)
      (case a20=>k_is)
      (case l20=>k_is)
      (case c20=>k_is)
      (case k20=>k_is)
      (case a21=>k_is)
      (case l21=>k_is)
      (case c21=>k_is)
      (case k21=>k_is)
      (case a22=>k_is)
      (case l22=>k_is)
      (case c22=>k_is)
      (case k22=>k_is)
      (case a23=>k_is)
      (case l23=>k_is)
      (case c23=>k_is)
      (case k23=>k_is)
      (case a24=>k_is)
      (case l24=>k_is)
      (case c24=>k_is)
      (case k24=>k_is)
      (case a25=>k_is)
      (case l25=>k_is)
      (case c25=>k_is)
      (case k25=>k_is)
      (case a26=>k_is)
      (case l26=>k_is)
      (case c26=>k_is)
      (case k26=>k_is)
      (case a27=>k_is)
      (case l27=>k_is)
      (case c27=>k_is)
      (case k27=>k_is)
      (case a28=>k_is)
      (case l28=>k_is)
      (case c28=>k_is)
      (case k28=>k_is)
      (case a29=>k_is)
      (case l29=>k_is)
      (case c29=>k_is)
      (case k29=>k_is)
      (case a30=>k_is)
      (case l30=>k_is)
      (case c30=>k_is)
      (case k30=>k_is)
      (case z0=>k_is)
      (case z1=>k_is)
      (case z2=>k_is)
      (case z3=>k_is)
      (case z4=>k_is)
      (case z5=>k_is)
      (case z6=>k_is)
      (case z7=>k_is)
      (case z8=>k_is)
      (case z9=>k_is)
      (case z10=>k_is)
      (case z11=>k_is)
      (case z12=>k_is)
      (case z13=>k_is)
      (case z14=>k_is)
      (case z15=>k_is)
      (case z16=>k_is)
      (case z17=>k_is)
    obtain ⟨T,f,rfl,hb⟩:=T
    have e0:=hmg.symm.trans T.m_law
    cases e0
    exact ⟨T.d_law,hb,fun base kb nb=>K10.law_ok T⟩
  case S=>exact fun K H a ns hl hO hS=>K10.law_start hl hO hS
  case C=>exact fun _ _ _ _ z=>z
