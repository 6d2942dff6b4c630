import PyProof.Rows.All
import Wide.All
import OpenK.AllK
import Wide.FinOn
import Lean
import PyProof.EqAt
import PyProof.EqKinds
import PyProof.TupleCall
import PyProof.CompFree
import PyProof.CompMap
import KE.LcSums
import PyProof.ZipIter
import PyProof.Draws
import KE.KRevSl
import KE.KListMore
import PyProof.Rows.StrJoin2
import PyProof.Rows.StrFin3
import PyProof.StrOps2
import PyProof.NeData
import PyProof.P3Eq
import PyProof.StrLawsRepr
import PyProof.ReprLen
import PyProof.Rows.IntBool
import PyProof.SliceStr2
import PyProof.P3In
import PyProof.Rows.StrLen
import KE.KStrOpen
import PyProof.FitsInt
import PyProof.Rows.ReprOcc
import PyProof.ListRange
import PyProof.AttrMissHeap
import PyProof.FactsAll.zip
import PyProof.FactsAll.tuple_3
import KE.KDictOf
import PyProof.SeqRoads2
import PyProof.DictCompW
import PyProof.Rows.StrInSeq3
import OpenK.KOwn
import KE.KIsAll
import PySem.Challenge.RW_gainroads_k81_whole_refusals_made_by_han
set_option Elab.async false
set_option linter.all false
set_option maxRecDepth 100000
set_option genSizeOf false
set_option genInjectivity false
namespace L2
inductive Ex2 {α0 α1:Type} (p:α0→α1→Prop):Prop
  | mk (a0:α0) (a1:α1) (h:p a0 a1)
inductive Ex3 {α0 α1 α2:Type} (p:α0→α1→α2→Prop):Prop
  | mk (a0:α0) (a1:α1) (a2:α2) (h:p a0 a1 a2)
inductive Ex4 {α0 α1 α2 α3:Type} (p:α0→α1→α2→α3→Prop):Prop
  | mk (a0:α0) (a1:α1) (a2:α2) (a3:α3) (h:p a0 a1 a2 a3)
inductive Ex5 {α0 α1 α2 α3 α4:Type} (p:α0→α1→α2→α3→α4→Prop):Prop
  | mk (a0:α0) (a1:α1) (a2:α2) (a3:α3) (a4:α4) (h:p a0 a1 a2 a3 a4)
inductive Ex9 {α0 α1 α2 α3 α4 α5 α6 α7 α8:Type} (p:α0→α1→α2→α3→α4→α5→α6→α7→α8→Prop):Prop
  | mk (a0:α0) (a1:α1) (a2:α2) (a3:α3) (a4:α4) (a5:α5) (a6:α6) (a7:α7) (a8:α8) (h:p a0 a1 a2 a3 a4 a5 a6 a7 a8)
inductive Ex10 {α0 α1 α2 α3 α4 α5 α6 α7 α8 α9:Type} (p:α0→α1→α2→α3→α4→α5→α6→α7→α8→α9→Prop):Prop
  | mk (a0:α0) (a1:α1) (a2:α2) (a3:α3) (a4:α4) (a5:α5) (a6:α6) (a7:α7) (a8:α8) (a9:α9) (h:p a0 a1 a2 a3 a4 a5 a6 a7 a8 a9)
end L2
set_option genSizeOf true
set_option genInjectivity true
local macro_rules | `(tactic| trivial)=>`(tactic| first | lia | omega)
namespace L2
open PySem PySem.Spec PyProof.Rows
abbrev Key:=Sum Int Str
def keyIs:Key→Value→Bool
  | .inl k,v=>Value.isInt k v
  | .inr x,v=>Value.isStrOf x v
def keyH (w:World):Key→Int
  | .inl k=>hashInt k
  | .inr x=>hashStr w x
theorem keyIs_shape:∀{k:Key}{v:Value},keyIs k v=true→(Ex2 fun i t=>k=Sum.inl i∧v=Value.int i t)∨(Ex2 fun x t=>k=Sum.inr x∧v=Value.str x t)
  | .inl i,v,h=>by
    obtain ⟨t,e⟩:=Value.isInt_shape (k:=i) (v:=v) h
    exact .inl ⟨i,t,rfl,e⟩
  | .inr x,v,h=>by
    obtain ⟨t,e⟩:=Value.isStrOf_shape (x:=x) (v:=v) h
    exact .inr ⟨x,t,rfl,e⟩
theorem key_ll (a b:Int):decide ((Sum.inl a:Key)=Sum.inl b)=(a==b):=by
  by_cases e:a=b
  · subst e;simp
  · have h:¬(Sum.inl a:Key)=Sum.inl b:=fun q=>e (Sum.inl.inj q)
    rw [decide_eq_false h]
    exact (beq_eq_false_iff_ne.mpr e).symm
theorem key_rr (a b:Str):decide ((Sum.inr a:Key)=Sum.inr b)=decide (a=b):=by
  by_cases e:a=b
  · subst e;simp
  · have h:¬(Sum.inr a:Key)=Sum.inr b:=fun q=>e (Sum.inr.inj q)
    rw [decide_eq_false h,decide_eq_false e]
theorem key_lr (a:Int) (b:Str):decide ((Sum.inl a:Key)=Sum.inr b)=false:=decide_eq_false (fun q=>nomatch q)
theorem key_rl (a:Str) (b:Int):decide ((Sum.inr a:Key)=Sum.inl b)=false:=decide_eq_false (fun q=>nomatch q)
def mixKind (prog:Program) (w:World):PySem.KeyKind prog w Key where
  is:=keyIs
  hash:=keyH w
  inj:=fun v a b ha hb=>by
    rcases keyIs_shape ha with ⟨i,t,rfl,rfl⟩ | ⟨x,t,rfl,rfl⟩
    · rcases keyIs_shape hb with ⟨j,u,rfl,e⟩ | ⟨y,u,rfl,e⟩
      · injection e with e1 _;rw [e1]
      · exact nomatch e
    · rcases keyIs_shape hb with ⟨j,u,rfl,e⟩ | ⟨y,u,rfl,e⟩
      · exact nomatch e
      · injection e with e1 _;rw [e1]
  byValue:=fun k v h=>by
    rcases keyIs_shape h with ⟨i,t,rfl,rfl⟩ | ⟨x,t,rfl,rfl⟩ <;> rfl
  pyHash:=fun hv h=>by
    rcases keyIs_shape hv with ⟨i,t,rfl,rfl⟩ | ⟨x,t,rfl,rfl⟩
    · exact wpAny_pyHash_int h
    · exact wpAny_pyHash_str h
  eqBool:=fun hu hv h=>by
    rcases keyIs_shape hu with ⟨i,t,rfl,rfl⟩ | ⟨x,t,rfl,rfl⟩
    · rcases keyIs_shape hv with ⟨j,u,rfl,rfl⟩ | ⟨y,u,rfl,rfl⟩
      · rw [key_ll] at h;exact wpAny_eqBool_int h
      · rw [key_lr] at h;exact SeqAt.EqAt.int_str i t y u _ _ _ _ h
    · rcases keyIs_shape hv with ⟨j,u,rfl,rfl⟩ | ⟨y,u,rfl,rfl⟩
      · rw [key_rl] at h;exact SeqAt.EqAt.str_int x t j u _ _ _ _ h
      · rw [key_rr] at h;exact wpAny_eqBool_str h
  «strs»:=fun k x t v h=>by
    rcases keyIs_shape h with ⟨i,u,rfl,e⟩ | ⟨y,u,rfl,e⟩
    · exact nomatch e
    · injection e with e1 _
      subst e1
      cases v <;> rfl
end L2
namespace L2
open PySem PySem.Spec PyProof.Rows
inductive V where
  | non | bl (b:Bool) | int (i:Int) | str (x:Str) | byt (b:Array UInt8) | flt (b:UInt64) | ref (a:Addr) | ty (n:String)
  deriving DecidableEq
def RelV:V→Value→Prop
  | .non,u=>u=Value.none
  | .bl b,u=>u=Value.bool b
  | .int i,u=>∃t,u=Value.int i t
  | .str x,u=>∃t,u=Value.str x t
  | .byt b,u=>∃t,u=Value.bytes b t
  | .flt b,u=>∃t,u=Value.float b t
  | .ref a,u=>u=Value.ref a
  | .ty n,u=>u=Value.type n
abbrev Vals:List V→List Value→Prop:=Paired RelV
theorem Vals.length {xs:List V}{us:List Value} (r:Vals xs us):xs.length=us.length:=Paired.length r
theorem Vals.get:∀{xs:List V}{us:List Value}{i:Nat}{x:V},Vals xs us→xs[i]?=some x→∃u,us[i]?=some u∧RelV x u
  | _,_,_,_,.nil,e=>by simp at e
  | _,_,0,_,.cons r _,e=>by simp at e;subst e;exact ⟨_,rfl,r⟩
  | _,_,i+1,x,.cons _ t,e=>by
    obtain ⟨u,h1,h2⟩:=Vals.get (i:=i) (x:=x) t (by simpa using e)
    exact ⟨u,by simpa using h1,h2⟩
theorem Vals.set {x:V}{u:Value} (r:RelV x u):∀{xs:List V}{us:List Value} (i:Nat),Vals xs us→Vals (xs.set i x) (us.set i u)
  | _,_,_,.nil=>.nil
  | _,_,0,.cons _ t=>.cons r t
  | _,_,i+1,.cons q t=>.cons q (Vals.set r i t)
theorem Vals.append:∀{xs ys:List V}{us ws:List Value},Vals xs us→Vals ys ws→Vals (xs++ys) (us++ws)
  | _,_,_,_,.nil,s=>s
  | _,_,_,_,.cons r t,s=>.cons r (Vals.append t s)
theorem Vals.take:∀{xs:List V}{us:List Value} (n:Nat),Vals xs us→Vals (xs.take n) (us.take n)
  | _,_,0,_=>.nil
  | _,_,_+1,.nil=>.nil
  | _,_,n+1,.cons r t=>.cons r (Vals.take n t)
theorem Vals.drop:∀{xs:List V}{us:List Value} (n:Nat),Vals xs us→Vals (xs.drop n) (us.drop n)
  | _,_,0,r=>r
  | _,_,_+1,.nil=>.nil
  | _,_,n+1,.cons _ t=>Vals.drop n t
def RelO:Option V→Option Value→Prop
  | some v,some u=>RelV v u
  | none,none=>True
  | _,_=>False
def KV {κ:Type}:List (κ×V)→List (κ×Value)→Prop:=Paired fun (p:κ×V) (q:κ×Value)=>p.1=q.1∧RelV p.2 q.2
def kV:Key→V
  | .inl i=>.int i
  | .inr x=>.str x
inductive HO where
    | lst (xs:List V)
    | tup (xs:List V)
    | dK (kvs:List (Key×V)) | dT (kvs:List (List Key×V))
    | set (S:Int→Bool) (n:Nat)
    | ins (C dx:Addr) (fs:List (Str×V))
    | own (x:Addr)
    | xd (fs:List (Str×V))
    | met (f x:Addr)
    | rng (lo hi:Int)
    | frz (o:Obj) (u:HO)
    | tbl (ps:Array Value)
    | ext (φ:Heap→Prop)
abbrev Hp:=Addr→Option HO
def upd (H:Hp) (a:Addr) (o:HO):Hp:=fun b=>if b=a then some o else H b
theorem upd_same {H:Hp}{a:Addr}{o:HO}:upd H a o a=some o:=by unfold upd;rw [if_pos rfl]
theorem upd_ne {H:Hp}{a b:Addr}{o:HO} (h:b≠a):upd H a o b=H b:=by unfold upd;rw [if_neg h]
theorem ne_of {H:Hp}{a b:Addr}{o u:HO} (h:H a=some o) (h':H b=some u) (d:o≠u):a≠b:=by
  intro e;subst e;rw [h] at h';exact d (Option.some.inj h')
theorem ne_of_none {H:Hp}{a b:Addr}{o:HO} (h:H a=some o) (h':H b=none):a≠b:=by
  intro e;subst e;rw [h] at h';cases h'
section
variable (P:Program) (w:World)
def ObjOk (H:Hp) (h:Heap) (a:Addr):HO→Prop
  | .lst xs=>xs.length≤sizeLine∧Ex2 fun (its:List Value) (n:Nat)=>Vals xs its∧h.get? a=some { cls:=.type "list",data:=.seq its.toArray n }
  | .tup xs=>xs.length≤sizeLine∧∃its:List Value,Vals xs its∧IsTup h a its.toArray∧∃o,h.get? a=some o∧o.dict=none
  | .dK kvs=>kvs.length≤sizeLine∧(a==sysModules)=false∧∃vs,KV kvs vs∧h.DictOf (mixKind P w) a vs
  | .dT kvs=>kvs.length≤sizeLine∧(a==sysModules)=false∧∃xs:List (List Key×Addr×Value),
      Paired (fun (p:List Key×V) (q:List Key×Addr×Value)=>p.1=q.1∧H q.2.1=some (.tup (p.1.map kV))∧RelV p.2 q.2.2) kvs xs∧
      Ex3 fun o es ep=>h.get? a=some o∧o.ExactDict∧o.data=.dict es ep∧es.toList=xs.map (entryOfKey (tupleKind (mixKind P w)))∧(xs.map (·.1)).Nodup
  | .set S n=>h.SetOf (intKind P w) a S n
  | .ins C dx fs=>H dx=some (.own a)∧fs.length≤1000∧dx≠a∧h.get? a=some (PySem.W.instObj C dx)∧
      ∃mA,h.Ns1 dx mA∧(∀f,RelO (fs.lookup f) (mA f))∧PySem.Within mA (fs.map (·.1))
  | .own _=>∃o,h.get? a=some o
  | .xd fs=>∃mA,h.Ns1 a mA∧∀f,RelO (fs.lookup f) (mA f)
  | .rng lo hi=>Ex3 fun t u v=>h.get? a=some { cls:=.type "range",data:=.fields #[.int lo t,.int hi u,.int 1 v] }
  | .frz o u=>h.get? a=some o∧ObjOk H h a u
  | .tbl ps=>h.get? a=some { cls:=.none,data:=.fields ps }
  | .met f x=>h.get? a=some (PySem.W.methodObj (.ref f) (.ref x))
  | .ext φ=>φ h∧(∃o,h.get? a=some o)∧∀h1 h2:Heap,φ h1→(∀o,h1.get? a=some o→h2.get? a=some o)→φ h2
def HOk (H:Hp) (h:Heap):Prop:=∀a o,H a=some o→ObjOk P w H h a o
end
section
variable {P:Program}{w:World}{H H':Hp}{h h':Heap}{a:Addr}{o:HO}
theorem ObjOk.lt (x:ObjOk P w H h a o):a<h.objs.size:=by
  cases o with
  | lst xs=>obtain ⟨_,_,_,_,e⟩:=x;exact Heap.lt_size e
  | tup xs=>obtain ⟨_,_,_,p,_⟩:=x;exact p.lt
  | dK kvs=>obtain ⟨_,_,_,_,o,_,_,e,_⟩:=x;exact Heap.lt_size e
  | dT kvs=>obtain ⟨_,_,_,_,o,_,_,e,_⟩:=x;exact Heap.lt_size e
  | set S n=>obtain ⟨o,_,_,_,e,_⟩:=x;exact Heap.lt_size e
  | ins C dx fs=>obtain ⟨_,_,_,e,_⟩:=x;exact Heap.lt_size e
  | own y=>obtain ⟨_,e⟩:=x;exact Heap.lt_size e
  | xd fs=>obtain ⟨_,⟨_,_,_,e,_⟩,_⟩:=x;exact Heap.lt_size e
  | rng lo hi=>obtain ⟨_,_,_,e⟩:=x;exact Heap.lt_size e
  | frz ob u=>obtain ⟨e,_⟩:=x;exact Heap.lt_size e
  | tbl ps=>exact Heap.lt_size (show h.get? a=some _ from x)
  | met f y=>exact Heap.lt_size (show h.get? a=some _ from x)
  | ext φ=>obtain ⟨_,⟨_,e⟩,_⟩:=x;exact Heap.lt_size e
theorem Paired.mapP {α β:Type}{F G:α→β→Prop}:∀{l₁:List α}{l₂:List β},Paired F l₁ l₂→(∀a b,F a b→G a b)→Paired G l₁ l₂
  | _,_,.nil,_=>.nil
  | _,_,.cons r t,f=>.cons (f _ _ r) (Paired.mapP t f)
theorem ObjOk.stay (x:ObjOk P w H h a o) (k:∀b u,(b=a∨H b=some (.own a))→h.get? b=some u→h'.get? b=some u)
    (ho:∀b,H b=some (.own a)→H' b=some (.own a)) (ht:∀b xs,H b=some (.tup xs)→H' b=some (.tup xs)):ObjOk P w H' h' a o:=by
  induction o with
  | lst xs=>obtain ⟨z,its,n,r,e⟩:=x;exact ⟨z,its,n,r,k _ _ (.inl rfl) e⟩
  | tup xs=>obtain ⟨z,its,r,⟨ob,e,c⟩,od,e',c'⟩:=x;exact ⟨z,its,r,⟨ob,k _ _ (.inl rfl) e,c⟩,od,k _ _ (.inl rfl) e',c'⟩
  | dK kvs=>obtain ⟨z,y,vs,r,ob,es,ep,e,c⟩:=x;exact ⟨z,y,vs,r,ob,es,ep,k _ _ (.inl rfl) e,c⟩
  | dT kvs=>
    obtain ⟨z,y,xs,r,ob,es,ep,e,c⟩:=x
    exact ⟨z,y,xs,Paired.mapP r fun p q z=>⟨z.1,ht _ _ z.2.1,z.2.2⟩,ob,es,ep,k _ _ (.inl rfl) e,c⟩
  | set S n=>obtain ⟨ob,es,ep,t,e,c⟩:=x;exact ⟨ob,es,ep,t,k _ _ (.inl rfl) e,c⟩
  | ins C dx fs=>
    obtain ⟨d,z,ne,e,mA,⟨od,es,ep,e2,c⟩,r⟩:=x
    exact ⟨ho _ d,z,ne,k _ _ (.inl rfl) e,mA,⟨od,es,ep,k _ _ (.inr d) e2,c⟩,r⟩
  | own y=>obtain ⟨ob,e⟩:=x;exact ⟨ob,k _ _ (.inl rfl) e⟩
  | xd fs=>obtain ⟨mA,⟨od,es,ep,e,c⟩,r⟩:=x;exact ⟨mA,⟨od,es,ep,k _ _ (.inl rfl) e,c⟩,r⟩
  | rng lo hi=>obtain ⟨t,u,v,e⟩:=x;exact ⟨t,u,v,k _ _ (.inl rfl) e⟩
  | frz ob u ih=>obtain ⟨e,q⟩:=x;exact ⟨k _ _ (.inl rfl) e,ih q⟩
  | tbl ps=>
    have e:h.get? a=some { cls:=.none,data:=.fields ps }:=x
    show h'.get? a=some { cls:=.none,data:=.fields ps }
    exact k a _ (.inl rfl) e
  | met f y=>
    have e:h.get? a=some (PySem.W.methodObj (.ref f) (.ref y)):=x
    show h'.get? a=some (PySem.W.methodObj (.ref f) (.ref y))
    exact k a _ (.inl rfl) e
  | ext φ=>obtain ⟨p,⟨o,e⟩,st⟩:=x;exact ⟨st _ _ p fun o q=>k _ _ (.inl rfl) q,⟨o,k _ _ (.inl rfl) e⟩,st⟩
theorem HOk.lt (x:HOk P w H h) (e:H a=some o):a<h.objs.size:=(x a o e).lt
theorem HOk.fresh (x:HOk P w H h) (e:h.objs.size≤a):H a=none:=by
  cases q:H a with
  | none=>rfl
  | some u=>exact absurd (Nat.lt_of_lt_of_le (x.lt q) e) (Nat.lt_irrefl _)
theorem HOk.kept (x:HOk P w H h) (k:∀b u,h.get? b=some u→h'.get? b=some u):HOk P w H h':=fun a o e=>
  (x a o e).stay (fun b u _ q=>k b u q) (fun _ q=>q) fun _ _ q=>q
theorem HOk.laid (x:HOk P w H h) (k:∀b u,h.get? b=some u→h'.get? b=some u) (hp:h.objs.size≤a) (new:ObjOk P w (upd H a o) h' a o):HOk P w (upd H a o) h':=fun b u e=>by
  have hn:=x.fresh hp
  by_cases hb:b=a
  · subst hb;rw [upd_same] at e;cases e;exact new
  · rw [upd_ne hb] at e
    exact (x b u e).stay (fun c v _ q=>k c v q) (fun c q=>by rw [upd_ne (ne_of_none q hn)];exact q) fun c xs q=>by rw [upd_ne (ne_of_none q hn)];exact q
end
def Rd (H:Hp) (a:Addr) (u:HO):Prop:=H a=some u∨∃o,H a=some (.frz o u)
theorem Rd.ok {P:Program}{w:World}{H:Hp}{h:Heap}{a:Addr}{u:HO} (r:Rd H a u) (x:HOk P w H h):ObjOk P w H h a u:=by
  rcases r with r | ⟨o,r⟩
  · exact x a u r
  · obtain ⟨_,q⟩:=x a _ r
    exact q
def Mut:Option HO→Prop
  | some (.lst _)=>True
  | some (.dK _)=>True
  | some (.dT _)=>True
  | some (.set _ _)=>True
  | some (.ins _ _ _)=>True
  | some (.ext _)=>True
  | _=>False
section
variable {P:Program}{w:World}{H:Hp}{h h':Heap}{x e:Addr}{o':HO}
theorem HOk.write (ok:HOk P w H h) (mu:Mut (H x)) (he:e=x∨H e=some (.own x)) (k:∀b u,b≠e→h.get? b=some u→h'.get? b=some u) (heo:∃u,h'.get? e=some u)
    (new:ObjOk P w (upd H x o') h' x o'):HOk P w (upd H x o') h':=fun b u q=>by
  have nown:∀c y,H c=some (.own y)→c≠x:=fun c y r z=>by subst z;rw [r] at mu;exact mu
  have ntup:∀c xs,H c=some (.tup xs)→c≠x:=fun c xs r z=>by subst z;rw [r] at mu;exact mu
  by_cases hb:b=x
  · subst hb;rw [upd_same] at q;cases q;exact new
  · rw [upd_ne hb] at q
    by_cases hbe:b=e
    · have q':H b=some (.own x):=by
        rcases he with z | z
        · exact absurd (hbe.trans z) hb
        · rw [hbe];exact z
      rw [q] at q';cases q'
      obtain ⟨v,hv⟩:=heo
      exact ⟨v,by rw [hbe];exact hv⟩
    · refine (ok b u q).stay (fun c v hc r=>k c v ?_ r) (fun c r=>by rw [upd_ne (nown c b r)];exact r) fun c xs r=>by rw [upd_ne (ntup c xs r)];exact r
      rcases hc with rfl | hc
      · exact hbe
      · rintro rfl
        rcases he with z | z
        · exact nown c b hc z
        · rw [hc] at z;cases z;exact hb rfl
end
structure Un (fs ex:List Addr) (H H':Hp) (h h':Heap):Prop where
  keep:∀b o,h.get? b=some o→H b=none→b∉fs→b∉ex→h'.get? b=some o
  slot:∀b o,h.get? b=some o→H b=none→b∈fs→b∉ex→∃sl,h'.get? b=some { o with slots:=sl }
  free:∀b o,h.get? b=some o→H b=none→b∉ex→H' b=none
  there:∀b o,h.get? b=some o→b∉ex→∃o',h'.get? b=some o'
  tups:∀b xs,H b=some (.tup xs)→H' b=some (.tup xs)
  frzs:∀b o u,H b=some (.frz o u)→H' b=some (.frz o u)
  tbls:∀b ps,H b=some (.tbl ps)→∃more,H' b=some (.tbl (ps++more))
section
variable {fs fs' ex ex':List Addr}{H H1 H2:Hp}{h h1 h2 h':Heap}{a x e:Addr}{o:HO}
theorem Un.any (u:Un fs ex H H1 h h1) {b:Addr}{ob:Obj} (q:h.get? b=some ob) (n:H b=none) (hx:b∉ex):∃sl,h1.get? b=some { ob with slots:=sl }:=by
  by_cases hb:b∈fs
  · exact u.slot b ob q n hb hx
  · exact ⟨ob.slots,u.keep b ob q n hb hx⟩
theorem Un.kept (k:∀b u,h.get? b=some u→h'.get? b=some u):Un fs ex H H h h':=
  ⟨fun b ob q _ _ _=>k b ob q,fun b ob q _ _ _=>⟨ob.slots,k b ob q⟩,fun _ _ _ n _=>n,fun b ob q _=>⟨ob,k b ob q⟩,fun _ _ q=>q,fun _ _ _ q=>q,fun _ ps q=>⟨#[],by rw [q];simp⟩⟩
theorem Un.refl:Un fs ex H H h h:=Un.kept fun _ _ q=>q
theorem Un.laid (k:∀b u,h.get? b=some u→h'.get? b=some u) (hp:h.objs.size≤a) (hn:H a=none):Un fs ex H (upd H a o) h h' where
  keep:=fun b u q _ _ _=>k b u q
  slot:=fun b u q _ _ _=>⟨u.slots,k b u q⟩
  free:=fun b u q n _=>by rw [upd_ne (Nat.ne_of_lt (Nat.lt_of_lt_of_le (Heap.lt_size q) hp))];exact n
  there:=fun b u q _=>⟨u,k b u q⟩
  tups:=fun b xs q=>by rw [upd_ne (ne_of_none q hn)];exact q
  frzs:=fun b u xs q=>by rw [upd_ne (ne_of_none q hn)];exact q
  tbls:=fun b ps q=>⟨#[],by rw [upd_ne (ne_of_none q hn),q];simp⟩
theorem Un.write (mu:Mut (H x)) (he:e=x∨H e=some (.own x)) (k:∀b u,b≠e→h.get? b=some u→h'.get? b=some u) (heo:∃u,h'.get? e=some u):Un fs ex H (upd H x o) h h':=by
  have hx:∀b,H b=none→b≠x:=fun b n z=>by subst z;rw [n] at mu;exact mu
  have hb:∀b,H b=none→b≠e:=fun b n z=>by
    subst z
    rcases he with r | r
    · exact hx b n r
    · rw [n] at r;cases r
  have hm:∀b u,H b=some u→¬Mut (some u)→b≠x:=fun b u q nm z=>by subst z;rw [q] at mu;exact nm mu
  refine ⟨fun b u q n _ _=>k b u (hb b n) q,fun b u q n _ _=>⟨u.slots,k b u (hb b n) q⟩,fun b u q n _=>by rw [upd_ne (hx b n)];exact n,fun b u q _=>?_,
    fun b xs q=>by rw [upd_ne (hm b _ q fun z=>z)];exact q,fun b u xs q=>by rw [upd_ne (hm b _ q fun z=>z)];exact q,fun b ps q=>⟨#[],by rw [upd_ne (hm b _ q fun z=>z),q];simp⟩⟩
  by_cases hbe:b=e
  · subst hbe;exact heo
  · exact ⟨u,k b u hbe q⟩
end
def trk (h:Heap) (H:Hp):List Addr:=(List.range h.objs.size).filter fun a=>(H a).isSome
def hidT (h:Heap) (H:Hp):Heap:=PySem.W.hideAll h (trk h H)
theorem hidT_size (h:Heap) (H:Hp):(hidT h H).objs.size=h.objs.size:=PySem.W.hideAll_size _ _
theorem hidT_get {h:Heap}{H:Hp}{b:Addr}{o:Obj} (e:h.get? b=some o) (n:H b=none):(hidT h H).get? b=some o:=
  PySem.W.hideAll_get _ e fun hm=>by
    have q:(H b).isSome=true:=(List.mem_filter.mp hm).2
    rw [n] at q;simp at q
theorem of_hidT {h:Heap}{H:Hp}{b:Addr}{o:Obj} (e:(hidT h H).get? b=some o):h.get? b=some o∧H b=none:=by
  have e':h.get? b=some o:=PySem.W.of_hideAll (trk h H) e
  refine ⟨e',?_⟩
  cases q:H b with
  | none=>rfl
  | some x=>
    have hm:b∈trk h H:=List.mem_filter.mpr ⟨List.mem_range.mpr (Heap.lt_size e'),by simp [q]⟩
    have z:(hidT h H).get? b=none:=PySem.W.hideAll_none (trk h H) hm
    rw [z] at e;cases e
end L2
namespace L2
open PySem PySem.Spec PyProof.Rows
structure Mod (K:PySem.W.Frag) (mg:Str→Option Value) (base:Heap):Prop where
  kin:K.In base
  glob:base.Ns mainGlobals mg
  blt:∃mb,base.Ns builtinsNs mb∧∀x:Str,x≠"__name__"→mb x=bootBuiltins x
  nolimit:base.NoLimit
structure Cx where
  prog:Program
  w:World
  K:PySem.W.Frag
  mg:Str→Option Value
  base:Heap
  A:Around
  N:List Str
  s₀:Shared
  H₀:Hp
  env:Env
  outer:List Env
  stack:List Env
  ex:List Addr
  fn:Str→Bool
  calm:Bool
  pn:List (Addr×Obj)
  xe:Value→Shared→Prop
def frs (l:List Env):List Addr:=l.filterMap (·.frame)
abbrev Cx.fs (X:Cx):List Addr:=frs X.outer
def Vis (sc:Scope) (x:Str):Prop:=sc.names.lookup x=some .local∨sc.names.lookup x=some .cell∨sc.names.lookup x=some .free
def Loc (sc:Scope) (x:Str):Prop:=sc.names.lookup x=some .local∨sc.names.lookup x=some .cell
def Look (env:Env) (h:Heap) (m:Str→Option Value) (x:Str) (u:Value):Prop:=
  (env.kindOf x=some .local∧m x=some u)∨((env.kindOf x=some .cell∨env.kindOf x=some .free)∧∃c,env.cells.lookup x=some c∧h.IsCell c (some u))
structure Cx.Ok (X:Cx):Prop where
  mod:Mod X.K X.mg X.base
  kind:X.env.scope.kind=.function
  glob:X.env.globals=mainGlobals
  blt:X.env.builtins=builtinsNs
  above:X.s₀.heap.objs.size≤X.env.locals
  inj:∀x y c,X.env.cells.lookup x=some c→X.env.cells.lookup y=some c→x=y
  has:∀x,(X.env.kindOf x=some .cell∨X.env.kindOf x=some .free)→∃c,X.env.cells.lookup x=some c
  cab:∀x c,X.fn x=true→X.env.cells.lookup x=some c→X.s₀.heap.objs.size≤c
  hd:X.calm=true→X.A.handled=none
  frames:X.A.frames=some X.stack
  stk:X.stack=X.outer∨(X.stack=X.env :: X.outer∧X.env.frame=some X.env.locals)
  exf:∀b∈X.ex,b≠X.env.locals∧∀x c,X.env.cells.lookup x=some c→c≠b
  bs:∀b o,X.base.get? b=some o→X.s₀.heap.get? b=some o∧X.H₀ b=none
  bsz:X.base.objs.size≤X.s₀.heap.objs.size
  noex:∀b o,X.base.get? b=some o→b∉X.ex
  exfs:∀b∈X.ex,b∉X.fs
  funs:X.s₀.heap.FunFrames X.base X.outer
  frf:∀b∈X.fs,X.H₀ b=none
structure Inv (X:Cx) (pins:List (Addr×Obj)) (σ:List (Option V)) (H:Hp) (s:Shared):Prop where
  ok:X.Ok
  os:s.os=X.s₀.os
  bare:AllBare s.gens
  base:Un X.fs X.ex X.H₀ H X.s₀.heap s.heap
  loc:∃m,s.heap.Ns X.env.locals m∧∀(i:Nat) (x:Str) (v:V),X.N[i]?=some x→σ[i]?=some (some v)→Vis X.env.scope x→∃u,RelV v u∧Look X.env s.heap m x u
  cell:∀x c,X.env.cells.lookup x=some c→∃v,s.heap.IsCell c v
  free:H X.env.locals=none
  freeC:∀x c,X.env.cells.lookup x=some c→H c=none
  pin:∀p∈X.pn++pins,s.heap.get? p.1=some p.2∧H p.1=none∧p.1≠X.env.locals∧p.1∉X.fs∧∀v,p.2.data≠.cell v
  hok:HOk X.prog X.w H s.heap
  len:σ.length=X.N.length
section
variable {X:Cx}{pins:List (Addr×Obj)}{σ:List (Option V)}{H H':Hp}{s:Shared}{h':Heap}
theorem Cx.Ok.nofr (ok:X.Ok) {b:Addr}{o:Obj} (e:X.base.get? b=some o):b∉X.fs:=fun hb=>by
  have:=(ok.funs.mem hb).1
  rw [e] at this;cases this
theorem Inv.bs (I:Inv X pins σ H s):∀b o,X.base.get? b=some o→s.heap.get? b=some o∧H b=none:=fun b o e=>
  ⟨I.base.keep b o (I.ok.bs b o e).1 (I.ok.bs b o e).2 (I.ok.nofr e) (I.ok.noex b o e),I.base.free b o (I.ok.bs b o e).1 (I.ok.bs b o e).2 (I.ok.noex b o e)⟩
theorem Inv.bk (I:Inv X pins σ H s):∀b o,X.base.get? b=some o→s.heap.get? b=some o:=fun b o e=>(I.bs b o e).1
theorem Inv.mod (I:Inv X pins σ H s):Mod X.K X.mg X.base:=I.ok.mod
theorem Inv.kIn (I:Inv X pins σ H s):X.K.In s.heap:=I.ok.mod.kin.keeps I.bk
theorem Inv.lt (I:Inv X pins σ H s):X.env.locals<s.heap.objs.size:=let ⟨_,hn,_⟩:=I.loc;hn.lt
theorem Inv.sz (I:Inv X pins σ H s):X.s₀.heap.objs.size≤s.heap.objs.size:=Nat.le_trans I.ok.above (Nat.le_of_lt I.lt)
theorem Inv.nofs (I:Inv X pins σ H s) {a:Addr} (h:s.heap.objs.size≤a):a∉X.fs:=fun hb=>by
  obtain ⟨_,o,ho,_⟩:=I.ok.funs.mem hb
  exact absurd (Nat.lt_of_lt_of_le (Heap.lt_size ho) (Nat.le_trans I.sz h)) (Nat.lt_irrefl _)
theorem Inv.cne (I:Inv X pins σ H s):∀x c,X.env.cells.lookup x=some c→c≠X.env.locals:=fun x c e z=>by
  obtain ⟨v,o,ho,hd⟩:=I.cell x c e
  obtain ⟨m,⟨o',es,ep,ho',hd',_⟩,_⟩:=I.loc
  rw [z,ho'] at ho;cases ho;rw [hd'] at hd;cases hd
theorem Inv.funs (I:Inv X pins σ H s):s.heap.FunFrames X.base X.outer:=by
  have all:∀(l:List Env),(∀b∈frs l,b∈X.fs)→X.s₀.heap.FunFrames X.base l→s.heap.FunFrames X.base l:=by
    intro l
    induction l with
    | nil=>intro _ _;trivial
    | cons env r ih=>
      intro hs hl
      obtain ⟨hk,⟨L,o,hf,hn,ho,hd⟩,hr⟩:=hl
      have hL:L∈X.fs:=hs L (by unfold frs;rw [List.filterMap_cons,hf];exact List.mem_cons_self)
      obtain ⟨sl,e⟩:=I.base.slot L o ho (I.ok.frf L hL) hL fun z=>I.ok.exfs L z hL
      exact ⟨hk,⟨L,_,hf,hn,e,hd⟩,ih (fun b hb=>hs b (by unfold frs;rw [List.filterMap_cons,hf];exact List.mem_cons_of_mem _ hb)) hr⟩
  exact all X.outer (fun _ hb=>hb) I.ok.funs
theorem Inv.stack (I:Inv X pins σ H s):s.heap.FunFrames X.base X.stack:=by
  rcases I.ok.stk with e | ⟨e,hf⟩
  · rw [e];exact I.funs
  · rw [e]
    obtain ⟨m,hn,_⟩:=I.loc
    refine .cons (by rw [I.ok.kind];decide) hf hn ?_ I.funs
    exact Heap.get?_none_of_le (Nat.le_trans I.ok.bsz I.ok.above)
theorem Inv.stkSub (I:Inv X pins σ H s):∀b∈frs X.stack,b∈X.env.locals :: X.fs:=fun b hb=>by
  rcases I.ok.stk with e | ⟨e,hf⟩
  · rw [e] at hb;exact List.mem_cons_of_mem _ hb
  · rw [e] at hb
    unfold frs at hb
    rw [List.filterMap_cons,hf] at hb
    exact hb
theorem Inv.stkFree (I:Inv X pins σ H s):∀b∈frs X.stack,H b=none:=fun b hb=>by
  rcases List.mem_cons.mp (I.stkSub b hb) with e | hb
  · rw [e];exact I.free
  · obtain ⟨_,o,ho,_⟩:=I.ok.funs.mem hb
    exact I.base.free b o ho (I.ok.frf b hb) fun z=>I.ok.exfs b z hb
theorem Inv.step {g':Array GenState}{t':Nat}{d':Drawn}{ch:List Addr} (I:Inv X pins σ H s)
    (hch:∀b∈ch,(b∈X.ex∨X.s₀.heap.objs.size≤b)∧b≠X.env.locals∧(∀x c,X.env.cells.lookup x=some c→c≠b)∧∀p∈X.pn++pins,p.1≠b)
    (keep:∀b o,b≠X.env.locals→b∉X.fs→b∉ch→s.heap.get? b=some o→H b=none→h'.get? b=some o)
    (slot:∀b o,b≠X.env.locals→b∈X.fs→b∉ch→s.heap.get? b=some o→H b=none→∃sl,h'.get? b=some { o with slots:=sl }) (free:∀b o,b∉ch→s.heap.get? b=some o→H b=none→H' b=none)
    (there:∀b o,b∉ch→s.heap.get? b=some o→∃o',h'.get? b=some o')
    (tups:∀b xs,H b=some (.tup xs)→H' b=some (.tup xs)) (frzs:∀b o u,H b=some (.frz o u)→H' b=some (.frz o u)) (tbls:∀b ps,H b=some (.tbl ps)→∃more,H' b=some (.tbl (ps++more)))
    (ns:∀m,s.heap.Ns X.env.locals m→h'.Ns X.env.locals m) (hok:HOk X.prog X.w H' h') (hg:AllBare g') :
    Inv X pins σ H' { s with heap:=h',gens:=g',drawn:=d',toks:=t' }:=by
  have neL:∀b o,X.s₀.heap.get? b=some o→b≠X.env.locals:=fun b o e=>Nat.ne_of_lt (Nat.lt_of_lt_of_le (Heap.lt_size e) I.ok.above)
  have neC:∀b o,X.s₀.heap.get? b=some o→b∉X.ex→b∉ch:=fun b o e hx hb=>by
    rcases (hch b hb).1 with z | z
    · exact hx z
    · exact absurd (Nat.lt_of_lt_of_le (Heap.lt_size e) z) (Nat.lt_irrefl _)
  have cellK:∀x c,X.env.cells.lookup x=some c→∀v,s.heap.IsCell c v→h'.IsCell c v:=fun x c e v ⟨o,ho,hd⟩=>by
    have nch:c∉ch:=fun z=>(hch c z).2.2.1 x c e rfl
    by_cases hc:c∈X.fs
    · obtain ⟨sl,q⟩:=slot c o (I.cne x c e) hc nch ho (I.freeC x c e)
      exact ⟨_,q,hd⟩
    · exact ⟨o,keep c o (I.cne x c e) hc nch ho (I.freeC x c e),hd⟩
  refine ⟨I.ok,I.os,hg,⟨fun b o e n hb hx=>?_,fun b o e n hb hx=>?_,fun b o e n hx=>?_,fun b o e hx=>?_,fun b xs e=>tups b xs (I.base.tups b xs e),fun b o xs e=>frzs b o xs (I.base.frzs b o xs e),fun b ps e=>?_⟩,?_,fun x c e=>?_,?_,fun x c e=>?_,fun p hp=>?_,hok,I.len⟩
  · exact keep b o (neL b o e) hb (neC b o e hx) (I.base.keep b o e n hb hx) (I.base.free b o e n hx)
  · obtain ⟨sl,e1⟩:=I.base.slot b o e n hb hx
    obtain ⟨sl',e2⟩:=slot b _ (neL b o e) hb (neC b o e hx) e1 (I.base.free b o e n hx)
    exact ⟨sl',e2⟩
  · obtain ⟨o',e1⟩:=I.base.there b o e hx
    exact free b o' (neC b o e hx) e1 (I.base.free b o e n hx)
  · obtain ⟨o',e1⟩:=I.base.there b o e hx
    exact there b o' (neC b o e hx) e1
  · obtain ⟨m1,e1⟩:=I.base.tbls b ps e
    obtain ⟨m2,e2⟩:=tbls b _ e1
    exact ⟨m1++m2,by rw [e2,Array.append_assoc]⟩
  · obtain ⟨m,hn,hl⟩:=I.loc
    refine ⟨m,ns m hn,fun i x v e1 e2 e3=>?_⟩
    obtain ⟨u,r,l⟩:=hl i x v e1 e2 e3
    refine ⟨u,r,?_⟩
    rcases l with l | ⟨k,c,e,z⟩
    · exact .inl l
    · exact .inr ⟨k,c,e,cellK x c e _ z⟩
  · obtain ⟨v,z⟩:=I.cell x c e
    exact ⟨v,cellK x c e v z⟩
  · obtain ⟨m,⟨o,_,_,ho,_⟩,_⟩:=I.loc
    exact free _ o (fun z=>(hch _ z).2.1 rfl) ho I.free
  · obtain ⟨v,o,ho,hd⟩:=I.cell x c e
    exact free c o (fun z=>(hch c z).2.2.1 x c e rfl) ho (I.freeC x c e)
  · obtain ⟨e,n,ne,nf,d⟩:=I.pin p hp
    have nch:p.1∉ch:=fun z=>(hch p.1 z).2.2.2 p hp rfl
    exact ⟨keep p.1 p.2 ne nf nch e n,free p.1 p.2 nch e n,ne,nf,d⟩
theorem Inv.un {t':Nat} (I:Inv X pins σ H s) (u:Un X.fs [] H H' s.heap h') (hok:HOk X.prog X.w H' h'):Inv X pins σ H' { s with heap:=h',toks:=t' }:=by
  obtain ⟨m,⟨o,es,ep,ho,r⟩,_⟩:=id I.loc
  obtain ⟨sl,hL⟩:=u.any ho I.free (by simp)
  exact I.step (g':=s.gens) (d':=s.drawn) (ch:=[]) (fun _ z=>nomatch z) (fun b o _ hb _ e n=>u.keep b o e n hb (by simp)) (fun b o _ hb _ e n=>u.slot b o e n hb (by simp)) (fun b o _ e n=>u.free b o e n (by simp)) (fun b o _ e=>u.there b o e (by simp)) u.tups u.frzs u.tbls (fun m' hm=>by
    obtain ⟨o',es',ep',ho',r'⟩:=hm
    rw [ho] at ho';cases ho'
    exact ⟨_,es',ep',hL,r'⟩) hok I.bare
theorem Inv.call {g':Array GenState}{t':Nat}{d':Drawn}{ch:List Addr} (I:Inv X pins σ H s) (u:Un (frs X.stack) ch H H' s.heap h') (hok:HOk X.prog X.w H' h') (hg:AllBare g')
    (hch:∀b∈ch,(b∈X.ex∨X.s₀.heap.objs.size≤b)∧b≠X.env.locals∧(∀x c,X.env.cells.lookup x=some c→c≠b)∧∀p∈X.pn++pins,p.1≠b) :
    Inv X pins σ H' { s with heap:=h',gens:=g',drawn:=d',toks:=t' }:=by
  obtain ⟨m,⟨o,es,ep,ho,r⟩,_⟩:=id I.loc
  obtain ⟨sl,hL⟩:=u.any ho I.free fun z=>(hch _ z).2.1 rfl
  exact I.step (ch:=ch) hch (fun b o hL hb hc e n=>u.keep b o e n (fun z=>(List.mem_cons.mp (I.stkSub b z)).elim hL hb) hc) (fun b o _ _ hc e n=>u.any e n hc) (fun b o hc e n=>u.free b o e n hc) (fun b o hc e=>u.there b o e hc) u.tups u.frzs u.tbls (fun m' hm=>by
    obtain ⟨o',es',ep',ho',r'⟩:=hm
    rw [ho] at ho';cases ho'
    exact ⟨_,es',ep',hL,r'⟩) hok hg
theorem Inv.turned {t':Nat}{it:Addr} (I:Inv X pins σ H s) (k:∀b o,b≠it→s.heap.get? b=some o→h'.get? b=some o) (hn:H it=none) (hL:it≠X.env.locals)
    (h1:it∈X.ex∨X.s₀.heap.objs.size≤it) (h2:∀x c,X.env.cells.lookup x=some c→c≠it) (h3:∀p∈X.pn++pins,p.1≠it):Inv X pins σ H { s with heap:=h',toks:=t' }:=by
  have nit:∀b u,H b=some u→b≠it:=fun b u e z=>by rw [z,hn] at e;cases e
  refine I.step (g':=s.gens) (d':=s.drawn) (ch:=[it]) (fun b hb=>?_) (fun b o _ _ hc e _=>k b o (fun z=>hc (by simp [z])) e) (fun b o _ _ hc e _=>⟨o.slots,k b o (fun z=>hc (by simp [z])) e⟩) (fun _ _ _ _ n=>n)
    (fun b o hc e=>⟨o,k b o (fun z=>hc (by simp [z])) e⟩) (fun _ _ e=>e) (fun _ _ _ e=>e) (fun b ps e=>⟨#[],by rw [e];simp⟩) (fun m hm=>?_) (fun b u e=>?_) I.bare
  · have e:b=it:=by simpa using hb
    subst e
    exact ⟨h1,hL,h2,h3⟩
  · obtain ⟨o,es,ep,ho,r⟩:=hm
    exact ⟨o,es,ep,k _ o (Ne.symm hL) ho,r⟩
  · refine (I.hok b u e).stay (fun c v hc q=>k c v ?_ q) (fun _ q=>q) fun _ _ q=>q
    rcases hc with z | z
    · rw [z];exact nit b u e
    · exact nit c _ z
theorem Inv.tok (I:Inv X pins σ H s) (t:Nat):Inv X pins σ H { s with toks:=t }:=I.un (h':=s.heap) (t':=t) Un.refl I.hok
theorem Inv.kept {t':Nat} (I:Inv X pins σ H s) (k:∀b u,s.heap.get? b=some u→h'.get? b=some u):Inv X pins σ H { s with heap:=h',toks:=t' }:=I.un (Un.kept k) (I.hok.kept k)
theorem Inv.laid {a:Addr}{o:HO}{t':Nat} (I:Inv X pins σ H s) (k:∀b u,s.heap.get? b=some u→h'.get? b=some u) (hp:s.heap.objs.size≤a) (new:ObjOk X.prog X.w (upd H a o) h' a o) :
    Inv X pins σ (upd H a o) { s with heap:=h',toks:=t' }:=I.un (Un.laid k hp (I.hok.fresh hp)) (I.hok.laid k hp new)
theorem Inv.write {x e:Addr}{o:HO}{t':Nat} (I:Inv X pins σ H s) (mu:Mut (H x)) (he:e=x∨H e=some (.own x)) (k:∀b u,b≠e→s.heap.get? b=some u→h'.get? b=some u) (heo:∃u,h'.get? e=some u)
    (new:ObjOk X.prog X.w (upd H x o) h' x o):Inv X pins σ (upd H x o) { s with heap:=h',toks:=t' }:=I.un (Un.write mu he k heo) (I.hok.write mu he k heo new)
theorem Inv.weak {σ':List (Option V)} (I:Inv X pins σ H s) (hl:σ'.length=σ.length) (w:∀(i:Nat) v,σ'[i]?=some (some v)→σ[i]?=some (some v)):Inv X pins σ' H s:=
  ⟨I.ok,I.os,I.bare,I.base,let ⟨m,hn,hl'⟩:=I.loc;⟨m,hn,fun i x v e1 e2 e3=>hl' i x v e1 (w i v e2) e3⟩,I.cell,I.free,I.freeC,I.pin,I.hok,hl.trans I.len⟩
theorem Inv.pins_of {pins':List (Addr×Obj)} (I:Inv X pins σ H s) (h:∀p∈pins',s.heap.get? p.1=some p.2∧H p.1=none∧p.1≠X.env.locals∧p.1∉X.fs∧∀v,p.2.data≠.cell v):Inv X pins' σ H s:=
  ⟨I.ok,I.os,I.bare,I.base,I.loc,I.cell,I.free,I.freeC,fun p hp=>(List.mem_append.mp hp).elim (fun z=>I.pin p (List.mem_append_left _ z)) (h p),I.hok,I.len⟩
theorem nodup_ix {N:List Str} (hN:N.Nodup) {i j:Nat}{x:Str} (a:N[i]?=some x) (b:N[j]?=some x):i=j:=by
  obtain ⟨h1,e1⟩:=List.getElem?_eq_some_iff.mp a
  obtain ⟨h2,e2⟩:=List.getElem?_eq_some_iff.mp b
  exact (List.getElem_inj hN).mp (e1.trans e2.symm)
theorem store_ok2 {M:Model}{A:Around}{E:Value→Shared→Prop}{i:Nat}{x:Str}{v:V}{u:Value}{Q:Unit→Shared→Prop} (I:Inv X pins σ H s) (hN:X.N.Nodup) (hi:X.N[i]?=some x) (hx:Loc X.env.scope x) (r:RelV v u)
    (h:∀s',Inv X pins (σ.set i (some v)) H s'→(∃a,Heap.SameBut a s.heap s'.heap∧(a=X.env.locals∨X.env.cells.lookup x=some a))→Q () s') (hf:X.fn x=true∨X.env.scope.names.lookup x=some .local:=by first | exact .inl rfl | exact .inr rfl | assumption):wpAny M A (storeName X.env x u) Q E s:=by
  obtain ⟨m,hn,hl⟩:=id I.loc
  have hcls:(X.env.scope.kind==.class || (X.env.scope.kind==.module && X.env.locals != X.env.globals))=false:=by rw [I.ok.kind];rfl
  have hiσ:i<σ.length:=by rw [I.len];exact (List.getElem?_eq_some_iff.mp hi).1
  have cne:=I.cne
  have tracked:∀{a:Addr}{h':Heap},(∃o,s.heap.get? a=some o∧H a=none)→Heap.SameBut a s.heap h'→HOk X.prog X.w H h':=fun {a h'} ha hs b ob e=>by
    obtain ⟨_,_,hfree⟩:=ha
    refine (I.hok b ob e).stay (fun c w' hc q=>(hs.2 c ?_).trans q) (fun _ q=>q) fun _ _ q=>q
    rintro rfl
    rcases hc with rfl | hc
    · rw [hfree] at e;cases e
    · rw [hfree] at hc;cases hc
  rcases hx with hk | hk
  · refine wpAny_storeName_local hk hn (fun h' hn' hs=>?_) hcls
    obtain ⟨oL,_,_,hoL,_⟩:=id hn
    refine h _ ⟨I.ok,I.os,I.bare,⟨fun b o e n hb hx=>?_,fun b o e n hb hx=>?_,I.base.free,fun b o e hx=>?_,I.base.tups,I.base.frzs,I.base.tbls⟩,⟨_,hn',fun j y v' e1 e2 e3=>?_⟩,fun y c e=>?_,I.free,I.freeC,fun p hp=>?_,tracked ⟨oL,hoL,I.free⟩ hs,by simpa using I.len⟩ ⟨_,hs,.inl rfl⟩
    · exact (hs.2 b (Nat.ne_of_lt (Nat.lt_of_lt_of_le (Heap.lt_size e) I.ok.above))).trans (I.base.keep b o e n hb hx)
    · obtain ⟨sl,e1⟩:=I.base.slot b o e n hb hx
      exact ⟨sl,(hs.2 b (Nat.ne_of_lt (Nat.lt_of_lt_of_le (Heap.lt_size e) I.ok.above))).trans e1⟩
    · obtain ⟨o',e1⟩:=I.base.there b o e hx
      exact ⟨o',(hs.2 b (Nat.ne_of_lt (Nat.lt_of_lt_of_le (Heap.lt_size e) I.ok.above))).trans e1⟩
    · by_cases hj:j=i
      · subst hj
        rw [hi] at e1;cases e1
        rw [List.getElem?_set_self hiσ] at e2
        cases e2
        exact ⟨u,r,.inl ⟨hk,by simp⟩⟩
      · rw [List.getElem?_set_ne (Ne.symm hj)] at e2
        obtain ⟨u',r',q⟩:=hl j y v' e1 e2 e3
        refine ⟨u',r',?_⟩
        rcases q with ⟨k,e⟩ | ⟨k,c,e,z⟩
        · refine .inl ⟨k,?_⟩
          have:y≠x:=fun e=>hj (nodup_ix hN e1 (e▸hi))
          simp [this,e]
        · exact .inr ⟨k,c,e,z.sameBut hs (cne y c e)⟩
    · obtain ⟨w',z⟩:=I.cell y c e
      exact ⟨w',z.sameBut hs (cne y c e)⟩
    · obtain ⟨e,n,ne,nf,d⟩:=I.pin p hp
      exact ⟨(hs.2 p.1 ne).trans e,n,ne,nf,d⟩
  · have hfn:X.fn x=true:=by
      rcases hf with z | z
      · exact z
      · rw [z] at hk;cases hk
    obtain ⟨c,hc⟩:=I.ok.has x (.inl hk)
    obtain ⟨w',z⟩:=I.cell x c hc
    refine wpAny_storeName_cell I.ok.kind hk hc z (fun h' hc' hs=>?_)
    obtain ⟨oc,hoc,hocd⟩:=id z
    refine h { s with heap:=h' } ⟨I.ok,I.os,I.bare,⟨fun b o e n hb hx=>?_,fun b o e n hb hx=>?_,I.base.free,fun b o e hx=>?_,I.base.tups,I.base.frzs,I.base.tbls⟩,⟨m,hn.sameBut hs (Ne.symm (cne x c hc)),fun j y v' e1 e2 e3=>?_⟩,fun y c' e=>?_,I.free,I.freeC,fun p hp=>?_,tracked ⟨oc,hoc,I.freeC x c hc⟩ hs,by simpa using I.len⟩ ⟨c,hs,.inr hc⟩
    · exact (hs.2 b (Nat.ne_of_lt (Nat.lt_of_lt_of_le (Heap.lt_size e) (I.ok.cab x c hfn hc)))).trans (I.base.keep b o e n hb hx)
    · obtain ⟨sl,e1⟩:=I.base.slot b o e n hb hx
      exact ⟨sl,(hs.2 b (Nat.ne_of_lt (Nat.lt_of_lt_of_le (Heap.lt_size e) (I.ok.cab x c hfn hc)))).trans e1⟩
    · obtain ⟨o',e1⟩:=I.base.there b o e hx
      exact ⟨o',(hs.2 b (Nat.ne_of_lt (Nat.lt_of_lt_of_le (Heap.lt_size e) (I.ok.cab x c hfn hc)))).trans e1⟩
    · by_cases hj:j=i
      · subst hj
        rw [hi] at e1;cases e1
        rw [List.getElem?_set_self hiσ] at e2
        cases e2
        exact ⟨u,r,.inr ⟨.inl hk,c,hc,hc'⟩⟩
      · rw [List.getElem?_set_ne (Ne.symm hj)] at e2
        obtain ⟨u',r',q⟩:=hl j y v' e1 e2 e3
        refine ⟨u',r',?_⟩
        rcases q with q | ⟨k,c',e,z'⟩
        · exact .inl q
        · refine .inr ⟨k,c',e,z'.sameBut hs ?_⟩
          rintro rfl
          exact hj (nodup_ix hN e1 (I.ok.inj _ _ _ e hc▸hi))
    · by_cases hcc:c'=c
      · subst hcc;exact ⟨_,hc'⟩
      · obtain ⟨w2,z2⟩:=I.cell y c' e
        exact ⟨w2,z2.sameBut hs hcc⟩
    · obtain ⟨e,n,ne,nf,d⟩:=I.pin p hp
      refine ⟨(hs.2 p.1 ?_).trans e,n,ne,nf,d⟩
      intro q
      rw [q,hoc] at e
      have q':oc=p.2:=Option.some.inj e
      exact d w' (by rw [←q'];exact hocd)
theorem store_ok {M:Model}{A:Around}{E:Value→Shared→Prop}{i:Nat}{x:Str}{v:V}{u:Value}{Q:Unit→Shared→Prop} (I:Inv X pins σ H s) (hN:X.N.Nodup) (hi:X.N[i]?=some x) (hx:Loc X.env.scope x) (r:RelV v u)
    (h:∀s',Inv X pins (σ.set i (some v)) H s'→Q () s') (hf:X.fn x=true∨X.env.scope.names.lookup x=some .local:=by first | exact .inl rfl | exact .inr rfl | assumption):wpAny M A (storeName X.env x u) Q E s:=
  store_ok2 I hN hi hx r (fun s' I' _=>h s' I') hf
theorem Inv.call' {s':Shared}{ch:List Addr} (I:Inv X pins σ H s) (ho:s'.os=s.os) (u:Un (frs X.stack) ch H H' s.heap s'.heap) (hok:HOk X.prog X.w H' s'.heap) (hg:AllBare s'.gens)
    (hch:∀b∈ch,(b∈X.ex∨X.s₀.heap.objs.size≤b)∧b≠X.env.locals∧(∀x c,X.env.cells.lookup x=some c→c≠b)∧∀p∈X.pn++pins,p.1≠b):Inv X pins σ H' s':=by
  obtain ⟨h',g',d',t',o'⟩:=s'
  have e:o'=s.os:=ho
  subst e
  exact I.call (g':=g') (t':=t') (d':=d') u hok hg hch
end
abbrev XK:=Value→Option Addr→Hp→Prop
abbrev St:=List (Option V)
abbrev VK:=V→Hp→Prop
abbrev TE:=St→Hp→VK→Prop
abbrev TT:=St→Hp→(Bool→Hp→Prop)→Prop
abbrev TA:=St→Hp→(List V→Hp→Prop)→Prop
structure Ends where
  nx:St→Hp→Prop
  rt:VK
  bk:St→Hp→Prop:=fun _ _=>False
  ct:St→Hp→Prop:=fun _ _=>False
abbrev TS:=Ends→St→Hp→Prop
def EP (X:Cx) (pins:List (Addr×Obj)) (σ:St) (Q:VK) (u:Value) (s':Shared):Prop:=Ex2 fun v H'=>Inv X pins σ H' s'∧RelV v u∧Q v H'
def TP (X:Cx) (pins:List (Addr×Obj)) (σ:St) (Q:Bool→Hp→Prop) (b:Bool) (s':Shared):Prop:=∃H',Inv X pins σ H' s'∧Q b H'
def AP (X:Cx) (pins:List (Addr×Obj)) (σ:St) (Q:List V→Hp→Prop) (us:List Value) (s':Shared):Prop:=Ex2 fun vs H'=>Inv X pins σ H' s'∧Vals vs us∧Q vs H'
def SP (X:Cx) (pins:List (Addr×Obj)) (D:Ends) (f:Flow) (s':Shared):Prop:=
  match f with
  | .next=>∃σ' H',Inv X pins σ' H' s'∧D.nx σ' H'
  | .brk=>∃σ' H',Inv X pins σ' H' s'∧D.bk σ' H'
  | .cont=>∃σ' H',Inv X pins σ' H' s'∧D.ct σ' H'
  | .ret u=>∃v σ' H',Inv X pins σ' H' s'∧RelV v u∧D.rt v H'
def PE (X:Cx) (e:Expr) (t:TE):Prop:=
  ∀(pins:List (Addr×Obj)) (s:Shared) (σ:St) (H:Hp) (Q:VK),Inv X pins σ H s→t σ H Q→wpAny (model X.prog X.w) X.A (eval e X.env) (EP X pins σ Q) X.xe s
def PT (X:Cx) (e:Expr) (t:TT):Prop:=
  ∀(pins:List (Addr×Obj)) (s:Shared) (σ:St) (H:Hp) (Q:Bool→Hp→Prop),Inv X pins σ H s→t σ H Q→wpAny (model X.prog X.w) X.A (isTrue e X.env (eval e X.env)) (TP X pins σ Q) X.xe s
def PW (X:Cx) (e:Expr) (t:TT):Prop:=
  ∀(whole:Sem Value) (pins:List (Addr×Obj)) (s:Shared) (σ:St) (H:Hp) (Q:Bool→Hp→Prop),Inv X pins σ H s→t σ H Q→wpAny (model X.prog X.w) X.A (isTrue e X.env whole) (TP X pins σ Q) X.xe s
theorem PW.pt {X:Cx}{e:Expr}{t:TT} (h:PW X e t):PT X e t:=h _
def PA (X:Cx) (es:List Expr) (t:TA):Prop:=
  ∀(pos:Pos) (pins:List (Addr×Obj)) (s:Shared) (σ:St) (H:Hp) (Q:List V→Hp→Prop),Inv X pins σ H s→t σ H Q→wpAny (model X.prog X.w) X.A (spliced (backTo pos (starEach es X.env))) (AP X pins σ Q) X.xe s
def PS (X:Cx) (st:Stmt) (t:TS):Prop:=
  ∀(pins:List (Addr×Obj)) (s:Shared) (σ:St) (H:Hp) (D:Ends),Inv X pins σ H s→t D σ H→wpAny (model X.prog X.w) X.A (exec st X.env) (SP X pins D) X.xe s
def PSs (X:Cx) (st:List Stmt) (t:TS):Prop:=
  ∀(pins:List (Addr×Obj)) (s:Shared) (σ:St) (H:Hp) (D:Ends),Inv X pins σ H s→t D σ H→wpAny (model X.prog X.w) X.A (execs st X.env) (SP X pins D) X.xe s
theorem thn {α:Type}{t:Sem α}{Q Q':α→Shared→Prop}{M:Model}{A:Around}{E:Value→Shared→Prop}{s:Shared} (h:wpAny M A t Q E s) (hQ:∀a s,Q a s→Q' a s):wpAny M A t Q' E s:=wpAny_mono h hQ fun _ _ x=>x
end L2
namespace L2
open PySem PySem.Spec PyProof.Rows
section
variable {X:Cx}
inductive tVar_ (i:Nat) (σ:St) (H:Hp) (Q:VK):Prop
  | mk (v:_) (h0:σ[i]?=some (some v)) (h1:Q v H)
def tVar (i:Nat):TE:=fun σ H Q=>tVar_ i σ H Q
def tC (v:V):TE:=fun _ H Q=>Q v H
theorem pe_var {i:Nat}{x:Str}{pos:Pos} (hN:X.N[i]?=some x) (hv:Vis X.env.scope x) (hd:(x==("__debug__" : Str))=false:=by decide) (hcd:(x==("__classdict__" : Str))=false:=by decide):PE X (.Name x pos) (tVar i):=by
  intro pins s σ H Q I h
  obtain ⟨v,e,h⟩:=h
  obtain ⟨m,hn,hl⟩:=I.loc
  obtain ⟨u,r,l⟩:=hl i x v hN e hv
  have fin:EP X pins σ Q u s:=⟨v,H,I,r,h⟩
  rcases l with ⟨hk,hm⟩ | ⟨hk,c,hc,hcell⟩
  · exact wpAny_Name (wpAny_loadName_local I.ok.kind hk hn hm fin) hd
  · rcases hk with hk | hk
    · exact wpAny_Name (wpAny_loadName_cell I.ok.kind hk hc hcell fin) hd
    · exact wpAny_Name (wpAny_loadName_free I.ok.kind hk hc hcell fin hcd) hd
theorem pe_int {i j pos}:PE X (.Constant (.int i) j pos) (tC (.int i)):=fun _ _ _ H _ I h=>wpAny_Constant_int ⟨.int i,H,I.tok _,⟨_,rfl⟩,h⟩
theorem pe_bl {b j pos}:PE X (.Constant (.bool b) j pos) (tC (.bl b)):=fun _ _ _ H _ I h=>Constant_bool ⟨.bl b,H,I,rfl,h⟩
theorem pe_str {x j pos}:PE X (.Constant (.str x) j pos) (tC (.str x)):=fun _ _ _ H _ I h=>Calls.Constant_str ⟨.str x,H,I.tok _,⟨_,rfl⟩,h⟩
def Gl (X:Cx) (x:Str):Prop:=X.env.kindOf x=some .globalImplicit
theorem ld_glob {E:Value→Shared→Prop}{pins:List (Addr×Obj)}{s:Shared}{σ:St}{H:Hp}{x:Str}{u:Value}{pos:Pos}{Q:Value→Shared→Prop} (I:Inv X pins σ H s) (hg:Gl X x) (hm:X.mg x=some u) (h:Q u s)
    (hd:(x==("__debug__" : Str))=false:=by decide):wpAny (model X.prog X.w) X.A (eval (.Name x pos) X.env) Q E s:=
  Calls.Name_function_global I.ok.kind hg (Calls.loadGlobal_global (by rw [I.ok.glob];exact I.mod.glob.keeps I.bk) hm h) hd
theorem ld_blt {E:Value→Shared→Prop}{pins:List (Addr×Obj)}{s:Shared}{σ:St}{H:Hp}{x:Str}{u:Value}{pos:Pos}{Q:Value→Shared→Prop} (I:Inv X pins σ H s) (hg:Gl X x) (hm:X.mg x=none) (hv:bootBuiltins x=some u) (h:Q u s)
    (hn:x≠"__name__" := by decide) (hd:(x==("__debug__" : Str))=false:=by decide):wpAny (model X.prog X.w) X.A (eval (.Name x pos) X.env) Q E s:=by
  obtain ⟨mb,h1,h2⟩:=I.mod.blt
  exact Calls.Name_function_global I.ok.kind hg (Calls.loadGlobal_builtin (by rw [I.ok.glob];exact I.mod.glob.keeps I.bk) hm (by rw [I.ok.blt];exact h1.keeps I.bk) ((h2 x hn).trans hv) h) hd
theorem pe_bltn {x:Str}{v:V}{u:Value}{pos:Pos} (hg:Gl X x) (hm:X.mg x=none) (hv:bootBuiltins x=some u) (r:RelV v u) (hn:x≠"__name__" := by decide) (hd:(x==("__debug__" : Str))=false:=by decide):PE X (.Name x pos) (tC v):=
  fun _ _ _ H _ I h=>ld_blt I hg hm hv ⟨v,H,I,r,h⟩ hn hd
variable {a b:Expr}{ta tb:TE}{pos:Pos}
inductive IsBl (x:V) (P:Bool→Prop):Prop
  | mk (c:Bool) (e:x=.bl c) (h:P c)
inductive IsIn (x:V) (P:Int→Prop):Prop
  | mk (c:Int) (e:x=.int c) (h:P c)
def tB (t:TE):TT:=fun σ H Q=>t σ H fun x H1=>IsBl x fun c=>Q c H1
theorem pt_val {e:Expr}{t:TE} (h:PE X e t) (he:∀whole,isTrue e X.env whole=(do let v ←whole;standAt e.pos;holding [v] (truthy v)):=by intro _;rfl):PT X e (tB t):=by
  intro pins s σ H Q I hw
  refine isTrue_plain (thn (h pins s σ H _ I hw) fun v s1 ⟨x,H1,I1,r1,q1⟩=>?_) (he _)
  obtain ⟨d,rfl,q⟩:=q1
  cases r1
  exact wpAny_truthy_bool ⟨H1,I1,q⟩
variable {tA tB':TT}{rest:List Expr}
def tOr (t u:TT):TT:=fun σ H Q=>t σ H fun c H1=>if c=true then Q true H1 else u σ H1 Q
def tNot (t:TT):TT:=fun σ H Q=>t σ H fun c H1=>Q (!c) H1
theorem pw_or1 (ha:PT X a tA):PW X (.BoolOp .Or [a] pos) tA:=by
  intro wh pins s σ H Q I h
  refine isTrue_or (thn (ha pins s σ H Q I h) fun c s1 e=>?_)
  cases c with
  | false=>exact isTrue_or_nil e
  | true=>exact e
theorem pw_or (ha:PT X a tA) (hb:PW X (.BoolOp .Or (b :: rest) pos) tB'):PW X (.BoolOp .Or (a :: b :: rest) pos) (tOr tA tB'):=by
  intro wh pins s σ H Q I h
  refine isTrue_or (thn (ha pins s σ H _ I h) fun c s1 ⟨H1,I1,q1⟩=>?_)
  cases c with
  | true=>exact ⟨H1,I1,q1⟩
  | false=>exact hb wh pins s1 σ H1 Q I1 q1
theorem pt_not (ha:PT X a tA):PT X (.UnaryOp .Not a pos) (tNot tA):=by
  intro pins s σ H Q I h
  exact isTrue_not (ha pins s σ H (fun c H1=>Q (!c) H1) I h)
def tIf (t:TT) (ta tb:TE):TE:=fun σ H Q=>t σ H fun c H1=>if c=true then ta σ H1 Q else tb σ H1 Q
theorem pe_ifExp {c:Expr} (hc:PT X c tA) (ha:PE X a ta) (hb:PE X b tb):PE X (.IfExp c a b pos) (tIf tA ta tb):=by
  intro pins s σ H Q I h
  refine wpAny_IfExp (thn (hc pins s σ H _ I h) fun d s1 ⟨H1,I1,q1⟩=>?_)
  cases d with
  | true=>exact ha pins s1 σ H1 Q I1 q1
  | false=>exact hb pins s1 σ H1 Q I1 q1
end
end L2
namespace L2
open PySem PySem.Spec PyProof.Rows
def SqL (K:PySem.W.Frag) (H:Hp) (a:Addr) (xs:List V):Prop:=
  Rd H a (.lst xs)∨
    Ex3 fun (o:Obj) (its:Array Value) (n:Nat)=>K.lookup a=some o∧o.cls=.type "list"∧o.dict=none∧o.data=.seq its n∧its.size≤sizeLine∧Vals xs its.toList
def SqT (K:PySem.W.Frag) (H:Hp) (a:Addr) (xs:List V):Prop:=
  Rd H a (.tup xs)∨
    Ex3 fun (o:Obj) (its:Array Value) (n:Nat)=>K.lookup a=some o∧o.cls=.type "tuple"∧o.data=.seq its n∧its.size≤sizeLine∧Vals xs its.toList
def absV:Value→Option V
  | .none=>some .non
  | .bool b=>some (.bl b)
  | .int i _=>some (.int i)
  | .str x _=>some (.str x)
  | .bytes b _=>some (.byt b)
  | .float b _=>some (.flt b)
  | .ref a=>some (.ref a)
  | .type n=>some (.ty n)
  | _=>none
theorem RelV.abs {x:V}{u:Value} (r:RelV x u):absV u=some x:=by
  cases x with
  | non=>cases r;rfl
  | bl _=>cases r;rfl
  | int _=>obtain ⟨t,rfl⟩:=r;rfl
  | str _=>obtain ⟨t,rfl⟩:=r;rfl
  | byt _=>obtain ⟨t,rfl⟩:=r;rfl
  | flt _=>obtain ⟨t,rfl⟩:=r;rfl
  | ref _=>cases r;rfl
  | ty _=>cases r;rfl
theorem RelV.inj {x y:V}{u:Value} (r:RelV x u) (q:RelV y u):x=y:=Option.some.inj (r.abs.symm.trans q.abs)
theorem Vals.inj:∀{xs ys:List V}{us:List Value},Vals xs us→Vals ys us→xs=ys
  | _,_,_,.nil,.nil=>rfl
  | _,_,_,.cons r t,.cons r' t'=>by rw [r.inj r',Vals.inj t t']
section
variable {X:Cx}{pins:List (Addr×Obj)}{σ:St}{H:Hp}{s:Shared}{a:Addr}{xs ys:List V}
theorem SqL.of {K:PySem.W.Frag} (h:H a=some (.lst xs)):SqL K H a xs:=.inl (.inl h)
theorem SqT.of {K:PySem.W.Frag} (h:H a=some (.tup xs)):SqT K H a xs:=.inl (.inl h)
theorem Inv.list (I:Inv X pins σ H s) (h:SqL X.K H a xs):∃its:List Value,Vals xs its∧PlainL s.heap a its.toArray∧xs.length≤sizeLine:=by
  rcases h with h | ⟨o,its,n,hk,hc,hd,hs,hz,r⟩
  · obtain ⟨z,its,n,r,e⟩:=h.ok I.hok
    exact ⟨its,r,⟨_,n,e,rfl,rfl,rfl⟩,z⟩
  · refine ⟨its.toList,r,⟨o,n,I.kIn a o hk,hc,hd,by simpa using hs⟩,?_⟩
    have e:=r.length
    simp only [Array.length_toList] at e
    trivial
theorem Inv.tuple (I:Inv X pins σ H s) (h:SqT X.K H a xs):∃its:List Value,Vals xs its∧IsTup s.heap a its.toArray∧xs.length≤sizeLine:=by
  rcases h with h | ⟨o,its,n,hk,hc,hs,hz,r⟩
  · obtain ⟨z,its,r,p,_⟩:=h.ok I.hok
    exact ⟨its,r,p,z⟩
  · refine ⟨its.toList,r,⟨o,I.kIn a o hk,hc,n,by simpa using hs⟩,?_⟩
    have e:=r.length
    simp only [Array.length_toList] at e
    trivial
theorem Inv.list_inj (I:Inv X pins σ H s) (h:SqL X.K H a xs) (h':SqL X.K H a ys):xs=ys:=by
  obtain ⟨its,r,⟨o,n,e,_,_,d⟩,_⟩:=I.list h
  obtain ⟨its',r',⟨o',n',e',_,_,d'⟩,_⟩:=I.list h'
  rw [e] at e';cases e'
  rw [d] at d'
  injection d' with d1 _
  have:its=its':=by simpa using congrArg Array.toList d1
  subst this
  exact r.inj r'
theorem Inv.tuple_inj (I:Inv X pins σ H s) (h:SqT X.K H a xs) (h':SqT X.K H a ys):xs=ys:=by
  obtain ⟨its,r,⟨o,e,_,n,d⟩,_⟩:=I.tuple h
  obtain ⟨its',r',⟨o',e',_,n',d'⟩,_⟩:=I.tuple h'
  rw [e] at e';cases e'
  rw [d] at d'
  injection d' with d1 _
  have:its=its':=by simpa using congrArg Array.toList d1
  subst this
  exact r.inj r'
end
abbrev Cx.wish (X:Cx) (E:Value→Shared→Prop):Cx:={ X with xe:=E }
abbrev Cx.nox (X:Cx):Cx:=X.wish fun _ _=>False
theorem Cx.Ok.wish {X:Cx} (ok:X.Ok) (E:Value→Shared→Prop):(X.wish E).Ok:=
  ⟨ok.mod,ok.kind,ok.glob,ok.blt,ok.above,ok.inj,ok.has,ok.cab,ok.hd,ok.frames,ok.stk,ok.exf,ok.bs,ok.bsz,ok.noex,ok.exfs,ok.funs,ok.frf⟩
theorem Cx.Ok.unwish {X:Cx}{E:Value→Shared→Prop} (ok:(X.wish E).Ok):X.Ok:=
  ⟨ok.mod,ok.kind,ok.glob,ok.blt,ok.above,ok.inj,ok.has,ok.cab,ok.hd,ok.frames,ok.stk,ok.exf,ok.bs,ok.bsz,ok.noex,ok.exfs,ok.funs,ok.frf⟩
section
variable {X:Cx}{pins:List (Addr×Obj)}{σ:St}{H:Hp}{s:Shared}{E:Value→Shared→Prop}
theorem Inv.wish (I:Inv X pins σ H s) (E:Value→Shared→Prop):Inv (X.wish E) pins σ H s:=⟨I.ok.wish E,I.os,I.bare,I.base,I.loc,I.cell,I.free,I.freeC,I.pin,I.hok,I.len⟩
theorem Inv.unwish (I:Inv (X.wish E) pins σ H s):Inv X pins σ H s:=⟨I.ok.unwish,I.os,I.bare,I.base,I.loc,I.cell,I.free,I.freeC,I.pin,I.hok,I.len⟩
theorem SP.unwish {D:Ends}{f:Flow}{s':Shared} (h:SP (X.wish E) pins D f s'):SP X pins D f s':=by
  cases f with
  | next=>obtain ⟨σ',H',I,q⟩:=h;exact ⟨σ',H',I.unwish,q⟩
  | brk=>obtain ⟨σ',H',I,q⟩:=h;exact ⟨σ',H',I.unwish,q⟩
  | cont=>obtain ⟨σ',H',I,q⟩:=h;exact ⟨σ',H',I.unwish,q⟩
  | ret u=>obtain ⟨v,σ',H',I,r,q⟩:=h;exact ⟨v,σ',H',I.unwish,r,q⟩
theorem PSs.nox {st:List Stmt}{t:TS} (h:PSs X.nox st t):PSs X st t:=fun pins s σ H D I hw=>
  wpAny_mono (h pins s σ H D (I.wish _) hw) (fun _ _ q=>q.unwish) fun _ _ z=>False.elim z
end
section
variable {X:Cx}{st:Stmt}{rest:List Stmt}{t u:TS}{e:Expr}{te:TE}{pos:Pos}
def tNext:TS:=fun D σ H=>D.nx σ H
def tSeq (t u:TS):TS:=fun D σ H=>t { D with nx:=u D } σ H
theorem pss_nil:PSs X [] tNext:=fun _ _ σ H _ I h=>wpAny_execs_nil ⟨σ,H,I,h⟩
theorem pss_cons (h1:PS X st t) (h2:PSs X rest u):PSs X (st :: rest) (tSeq t u):=by
  intro pins s σ H D I h
  refine wpAny_execs_cons (thn (h1 pins s σ H { D with nx:=u D } I h) fun f s1 q=>?_)
  cases f with
  | next=>
    obtain ⟨σ',H',I',q⟩:=q
    exact h2 pins s1 σ' H' D I' q
  | ret v=>exact q
  | brk=>exact q
  | cont=>exact q
theorem pss_one (h1:PS X st t):PSs X [st] t:=by
  intro pins s σ H D I h
  refine wpAny_execs_cons (thn (h1 pins s σ H D I h) fun f s1 q=>?_)
  cases f with
  | next=>exact wpAny_execs_nil q
  | ret v=>exact q
  | brk=>exact q
  | cont=>exact q
theorem Inv.quiet {pins:List (Addr×Obj)}{σ:St}{H:Hp}{s:Shared} (I:Inv X pins σ H s):interactive X.env=false:=by simp [interactive,I.ok.kind]
def tDrop (te:TE):TS:=fun D σ H=>te σ H fun _ H1=>D.nx σ H1
theorem ps_expr (he:PE X e te) (hs:swapsWith e none pos.line X.env=pure false:=by rfl):PS X (.Expr e pos) (tDrop te):=by
  intro pins s σ H D I h
  exact wpAny_Expr_any (thn (he pins s σ H _ I h) fun v s1 ⟨x,H1,I1,r1,q1⟩=>⟨σ,H1,I1,q1⟩) I.quiet hs
def tRet (te:TE):TS:=fun D σ H=>te σ H D.rt
theorem ps_ret (he:PE X e te):PS X (.Return (some e) pos) (tRet te):=by
  intro pins s σ H D I h
  exact wpAny_Return_some (thn (he pins s σ H _ I h) fun v s1 ⟨x,H1,I1,r1,q1⟩=>⟨x,σ,H1,I1,r1,q1⟩)
def tIfS (c:TT) (t u:TS):TS:=fun D σ H=>c σ H fun b H1=>if b=true then t D σ H1 else u D σ H1
theorem ps_if {c:Expr}{a b:List Stmt}{tc:TT} (hc:PT X c tc) (ha:PSs X a t) (hb:PSs X b u):PS X (.If c a b pos) (tIfS tc t u):=by
  intro pins s σ H D I h
  refine wpAny_If (thn (hc pins s σ H _ I h) fun d s1 ⟨H1,I1,q1⟩=>?_)
  cases d with
  | true=>exact ha pins s1 σ H1 D I1 q1
  | false=>exact hb pins s1 σ H1 D I1 q1
end
abbrev TG:=V→St→Hp→(St→Hp→Prop)→Prop
abbrev TGs:=List V→St→Hp→(St→Hp→Prop)→Prop
def PG (X:Cx) (target:Expr) (t:TG):Prop:=
  ∀(pins:List (Addr×Obj)) (s:Shared) (σ:St) (H:Hp) (v:V) (u:Value) (Q:St→Hp→Prop),Inv X pins σ H s→RelV v u→t v σ H Q→
    wpAny (model X.prog X.w) X.A (assign target X.env u) (fun _ s'=>∃σ' H',Inv X pins σ' H' s'∧Q σ' H') X.xe s
def PGs (X:Cx) (ts:List Expr) (t:TGs):Prop:=
  ∀(pins:List (Addr×Obj)) (s:Shared) (σ:St) (H:Hp) (vs:List V) (us:List Value) (Q:St→Hp→Prop),Inv X pins σ H s→Vals vs us→t vs σ H Q→
    wpAny (model X.prog X.w) X.A (assignInOrder ((assignEach ts X.env).map (·.2)) us) (fun _ s'=>∃σ' H',Inv X pins σ' H' s'∧Q σ' H') X.xe s
abbrev TSet:=V→V→V→Hp→(Hp→Prop)→Prop
def PSet (X:Cx) (t:TSet):Prop:=
  ∀(pins:List (Addr×Obj)) (s:Shared) (σ:St) (H:Hp) (o i v:V) (ov iv u:Value) (Q:Hp→Prop),Inv X pins σ H s→RelV o ov→RelV i iv→RelV v u→t o i v H Q→
    wpAny (model X.prog X.w) X.A (setItem ov iv u) (fun _ s'=>∃H',Inv X pins σ H' s'∧Q H') X.xe s
section
variable {X:Cx}{pos:Pos}
def gName (i:Nat):TG:=fun v σ H Q=>Q (σ.set i (some v)) H
theorem pg_name {i:Nat}{x:Str} (hN:X.N.Nodup) (hi:X.N[i]?=some x) (hx:Loc X.env.scope x) (hf:X.fn x=true∨X.env.scope.names.lookup x=some .local:=by first | exact .inl rfl | exact .inr rfl | assumption):PG X (.Name x pos) (gName i):=by
  intro pins s σ H v u Q I r h
  exact wpAny_assign_Name (store_ok I hN hi hx r (fun s' I'=>⟨_,H,I',h⟩) hf)
def gNil:TGs:=fun vs σ H Q=>vs=[]∧Q σ H
inductive gCons_ (t:TG) (u:TGs) (vs:List V) (σ:St) (H:Hp) (Q:St→Hp→Prop):Prop
  | mk (v:_) (r:_) (h0:vs=v :: r) (h1:t v σ H fun σ' H'=>u r σ' H' Q)
def gCons (t:TG) (u:TGs):TGs:=fun vs σ H Q=>gCons_ t u vs σ H Q
theorem pgs_nil:PGs X [] gNil:=by
  intro pins s σ H vs us Q I r h
  obtain ⟨e,h⟩:=h
  subst e
  cases r
  exact assignInOrder_nil ⟨σ,H,I,h⟩
theorem pgs_cons {e:Expr}{es:List Expr}{t:TG}{u:TGs} (h1:PG X e t) (h2:PGs X es u)
    (hs:(assignEach (e :: es) X.env).map (·.2)=assign e X.env :: (assignEach es X.env).map (·.2):=by rfl):PGs X (e :: es) (gCons t u):=by
  intro pins s σ H vs us Q I r h
  obtain ⟨v,vr,e1,h⟩:=h
  subst e1
  cases r with
  | cons r rr=>
    rw [hs]
    refine assignInOrder_cons (thn (h1 pins s σ H _ _ _ I r h) fun _ s1 ⟨σ1,H1,I1,q1⟩=>?_)
    exact h2 pins s1 σ1 H1 _ _ Q I1 rr q1
inductive gTup_ (K:PySem.W.Frag) (n:Nat) (t:TGs) (v:V) (σ:St) (H:Hp) (Q:St→Hp→Prop):Prop
  | mk (a:_) (xs:_) (h0:v=.ref a) (h1:SqT K H a xs) (h2:xs.length=n) (h3:t xs σ H Q)
def gTup (K:PySem.W.Frag) (n:Nat) (t:TGs):TG:=fun v σ H Q=>gTup_ K n t v σ H Q
theorem pg_tup {es:List Expr}{k:Nat}{t:TGs}{n:Nat} (hc:X.calm=true) (h:PGs X es t)
    (hn:(assignEach es X.env).length=n:=by rfl) (hst:(assignEach es X.env).findIdx? (·.1)=none:=by rfl):PG X (.Tuple es k pos) (gTup X.K n t):=by
  intro pins s σ H v u Q I r hw
  obtain ⟨a,xs,e1,hq,hl,hw⟩:=hw
  subst e1
  cases r
  obtain ⟨its,rv,ht,hz⟩:=I.tuple hq
  refine assign_Tuple_tuple (I.ok.hd hc) ht (by simp [hn,←hl,rv.length]) hst fun h' hx=>?_
  have I1:Inv X pins σ H { s with heap:=h' }:=I.kept (t':=s.toks) fun b o e=>hx b o (Nat.ne_of_lt (Heap.lt_size e)) e
  exact h pins _ σ H xs _ Q I1 (by simpa using rv) hw
def gSub (to ti:TE) (t:TSet):TG:=fun v σ H Q=>to σ H fun o H1=>ti σ H1 fun i H2=>t o i v H2 fun H3=>Q σ H3
theorem pg_sub {o i:Expr}{to ti:TE}{t:TSet} (ho:PE X o to) (hi:PE X i ti) (hs:PSet X t)
    (ha:∀v,assign (.Subscript o i pos) X.env v=(do
      let ov ←holding [v] (eval o X.env)
      let iv ←holding [v,ov] (eval i X.env)
      standAt pos
      holding [v,ov,iv] (setItem ov iv v)
      release [v,ov,iv] []):=by intro _;rfl):PG X (.Subscript o i pos) (gSub to ti t):=by
  intro pins s σ H v u Q I r h
  rw [ha]
  refine wpAny_bind (wpAny_holding (thn (ho pins s σ H _ I h) fun ov s1 ⟨x,H1,I1,r1,q1⟩=>?_))
  refine wpAny_bind (wpAny_holding (thn (hi pins s1 σ H1 _ I1 q1) fun iv s2 ⟨y,H2,I2,r2,q2⟩=>?_))
  refine wpAny_bind (wpAny_standAt (wpAny_bind (wpAny_holding (thn (hs pins s2 σ H2 x y v ov iv u _ I2 r1 r2 r q2) fun _ s3 ⟨H3,I3,q3⟩=>?_))))
  exact wpAny_release ⟨σ,H3,I3,q3⟩
def tAsg (te:TE) (g:TG):TS:=fun D σ H=>te σ H fun x H1=>g x σ H1 D.nx
theorem ps_asg {tg e:Expr}{te:TE}{g:TG} (he:PE X e te) (hg:PG X tg g) (hs:swapsWithSole [tg] e pos.line X.env=pure false:=by rfl) (hw:swappedStores [tg] e X.env=pure none:=by rfl)
    (h1:(assignEach [tg] X.env).map (·.2)=[assign tg X.env]:=by rfl):PS X (.Assign [tg] e pos) (tAsg te g):=by
  intro pins s σ H D I h
  refine wpAny_Assign_stores (thn (he pins s σ H _ I h) fun v s1 ⟨x,H1,I1,r1,q1⟩=>?_) hs hw
  rw [h1]
  exact thn (hg pins s1 σ H1 x v _ I1 r1 q1) fun _ s2 q=>q
theorem ps_set {i:Nat}{x:Str}{e:Expr}{te:TE}{pos':Pos} (hN:X.N.Nodup) (hi:X.N[i]?=some x) (hx:Loc X.env.scope x) (he:PE X e te) (hs:swapsWith e (some (.Name x pos')) pos.line X.env=pure false:=by rfl) (hf:X.fn x=true∨X.env.scope.names.lookup x=some .local:=by first | exact .inl rfl | exact .inr rfl | assumption) :
    PS X (.Assign [.Name x pos'] e pos) (tAsg te (gName i)):=by
  intro pins s σ H D I h
  refine wpAny_Assign_Name (thn (he pins s σ H _ I h) fun v s1 ⟨y,H1,I1,r1,q1⟩=>?_) hs
  exact store_ok I1 hN hi hx r1 (fun s2 I2=>⟨_,H1,I2,q1⟩) hf
def tPar (i j:Nat) (ta:TA):TS:=fun D σ H=>ta σ H fun vs H1=>Ex2 fun v w=>vs=[v,w]∧D.nx ((σ.set i (some v)).set j (some w)) H1
theorem ps_par {i j:Nat}{x y:Str}{a b:Expr}{ta:TA}{px py pt:Pos}{kt k2 pt2} (hc:X.calm=true) (hN:X.N.Nodup) (hi:X.N[i]?=some x) (hj:X.N[j]?=some y) (hij:i≠j)
    (hx:X.env.scope.names.lookup x=some .local) (hy:X.env.scope.names.lookup y=some .local) (ha:PA X [a,b] ta)
    (hw:swappedStores [.Tuple [.Name x px,.Name y py] kt pt] (.Tuple [a,b] k2 pt2) X.env=pure (some [x,y]))
    (hs:swapsWithSole [.Tuple [.Name x px,.Name y py] kt pt] (.Tuple [a,b] k2 pt2) pos.line X.env=pure false:=by rfl) :
    PS X (.Assign [.Tuple [.Name x px,.Name y py] kt pt] (.Tuple [a,b] k2 pt2) pos) (tPar i j ta):=by
  intro pins s σ H D I h
  rw [exec_Assign_arm]
  refine wpAny_bind (wpAny_standAt ?_)
  rw [hs]
  refine wpAny_bind (wpAny_pure ?_)
  rw [if_neg (by decide)]
  refine wpAny_bind (Tuple_ (thn (ha _ pins s σ H _ I h) fun us s1 ⟨vs,H1,I1,r1,q1⟩=>?_))
  obtain ⟨v,w,e1,q1⟩:=q1
  subst e1
  obtain ⟨u1,u2,rfl,rv,rw'⟩:Ex2 fun u1 u2=>us=[u1,u2]∧RelV v u1∧RelV w u2:=by
    cases r1 with
    | cons p q=>
      cases q with
      | cons p' q'=>
        cases q'
        exact ⟨_,_,rfl,p,p'⟩
  refine wpAny_newObj_type ?_ (by show 2≤sizeLine;decide)
  have I2:Inv X pins σ H1 { s1 with heap:=s1.heap.push { cls:=.type "tuple",data:=.seq [u1,u2].toArray } }:=I1.kept (t':=s1.toks) fun b o e=>Heap.get?_push_of_some _ e
  rw [hw]
  refine wpAny_bind (wpAny_pure ?_)
  show wpAny (model X.prog X.w) X.A (do rule "assign.swapped-stores";let items ←unpackItems (.ref s1.heap.objs.size) 2 none;assignInOrder [fun v=>bindName X.env y v,fun v=>bindName X.env x v] items.reverse;pure Flow.next) _ _ _
  refine wpAny_bind (wpAny_rule (wpAny_bind (unpackItems_tuple (items:=#[u1,u2]) (I.ok.hd hc) (IsTup.new s1.heap _) fun h' hx'=>?_)))
  have I3:=I2.kept (h':=h') (t':=s1.toks) fun b o e=>hx' b o (Nat.ne_of_lt (Heap.lt_size e)) e
  show wpAny _ _ (assignInOrder [fun v=>bindName X.env y v,fun v=>bindName X.env x v] [u2,u1] >>= fun _=>pure Flow.next) _ _ _
  refine wpAny_bind (assignInOrder_cons (wpAny_bindName (store_ok I3 hN hj (.inl hy) rw' (fun s2 I4=>?_) (.inr hy))))
  refine assignInOrder_cons (wpAny_bindName (store_ok I4 hN hi (.inl hx) rv (fun s3 I5=>assignInOrder_nil (wpAny_pure ?_)) (.inr hx)))
  rw [List.set_comm _ _ (Ne.symm hij)] at I5
  exact ⟨_,H1,I5,q1⟩
end
section
variable {X:Cx}{pos:Pos}
def tWhile (c:TT) (tb:TS):TS:=fun D σ H=>∃W:Nat→St→Hp→Prop,(∃m,W m σ H)∧∀m σ H,W m σ H→
  c σ H fun b H1=>if b=true then ∃N:St→Hp→Prop,(∀σ' H',N σ' H'→∃m',m'<m∧W m' σ' H')∧tb { D with nx:=N,ct:=N,bk:=D.nx } σ H1 else D.nx σ H1
theorem ps_while {c:Expr}{body:List Stmt}{tc:TT}{tb:TS} (hp:PassesOwn (model X.prog X.w) X.A X.env X.xe) (hc:PT X c tc) (hb:PSs X body tb):PS X (.While c body [] pos) (tWhile tc tb):=by
  intro pins s σ H D I h
  obtain ⟨W,⟨m0,w0⟩,turn⟩:=h
  refine wpAny_While (codeAny_whileLoop (fun n s'=>∃σ' H',Inv X pins σ' H' s'∧W n σ' H') ?_ m0 ⟨σ,H,I,w0⟩)
  rintro n s1 ⟨σ1,H1,I1,w1⟩
  refine wpAny_passesOwn hp (thn (hc pins s1 σ1 H1 _ I1 (turn n σ1 H1 w1)) fun b s2 ⟨H2,I2,q2⟩=>?_)
  cases b with
  | true=>
    obtain ⟨N,hN,q2⟩:=q2
    rw [if_pos rfl]
    refine wpAny_passesOwn hp (thn (hb pins s2 σ1 H2 _ I2 q2) fun f s3 q3=>?_)
    cases f with
    | next=>
      obtain ⟨σ3,H3,I3,n3⟩:=q3
      obtain ⟨m',hm,w3⟩:=hN σ3 H3 n3
      exact ⟨m',hm,σ3,H3,I3,w3⟩
    | cont=>
      obtain ⟨σ3,H3,I3,n3⟩:=q3
      obtain ⟨m',hm,w3⟩:=hN σ3 H3 n3
      exact ⟨m',hm,σ3,H3,I3,w3⟩
    | brk=>exact q3
    | ret v=>exact q3
  | false=>
    rw [if_neg Bool.false_ne_true]
    exact wpAny_execs_nil ⟨σ1,H2,I2,q2⟩
end
structure It where
  go:Nat→Hp→Prop
  yld:Nat→Hp→V→Hp→Prop
  stop:Nat→Hp→Prop
def FpOk (X:Cx) (pins:List (Addr×Obj)) (H:Hp) (b:Addr):Prop:=
  H b=none∧b≠X.env.locals∧b∉X.fs∧(b∈X.ex∨X.s₀.heap.objs.size≤b)∧(∀x c,X.env.cells.lookup x=some c→c≠b)∧∀p∈X.pn++pins,p.1≠b
theorem Inv.fpOk {X:Cx}{pins:List (Addr×Obj)}{σ:St}{H H':Hp}{s:Shared}{b:Addr} (I:Inv X pins σ H s) (hb:s.heap.objs.size≤b) (hn:H' b=none):FpOk X pins H' b:=by
  refine ⟨hn,Nat.ne_of_gt (Nat.lt_of_lt_of_le I.lt hb),I.nofs hb,.inr (Nat.le_trans I.sz hb),fun x c e z=>?_,fun p hp z=>?_⟩
  · obtain ⟨v,q⟩:=I.cell x c e
    exact absurd (Nat.lt_of_lt_of_le q.lt (by rw [z];exact hb)) (Nat.lt_irrefl _)
  · exact absurd (Nat.lt_of_lt_of_le (Heap.lt_size (I.pin p hp).1) (by rw [z];exact hb)) (Nat.lt_irrefl _)
structure Turn (P:Program) (w:World) (K:PySem.W.Frag) (tg:Expr) (J:It) (fp:List Addr) (it:Addr) (tn:Nat→Heap→Prop):Prop where
  mem:it∈fp
  obj:∀i h,tn i h→∀b∈fp,∃o,h.get? b=some o∧∀v,o.data≠.cell v
  keep:∀i h h',tn i h→(∀b∈fp,∀o,h.get? b=some o→h'.get? b=some o)→tn i h'
  item:∀(X:Cx),X.prog=P→X.w=w→X.K=K→X.calm=true→∀(i:Nat) (pins:List (Addr×Obj)) (s:Shared) (σ:St) (H:Hp) (E:Value→Shared→Prop),Inv X pins σ H s→(∀b∈fp,FpOk X pins H b)→tn i s.heap→J.go i H→
    wpAny (model P w) X.A (pyNext (.ref it)) (fun r s1=>∃u,r=some u∧
      wpAny (model P w) X.A (letOwnedTupleGo tg (.ref it) u) (fun _ s2=>Ex2 fun x H'=>Inv X pins σ H' s2∧RelV x u∧J.yld i H x H'∧tn (i+1) s2.heap∧∀b∈fp,H' b=none) E s1) E s
  done:∀(X:Cx),X.prog=P→X.w=w→X.K=K→X.calm=true→∀(i:Nat) (pins:List (Addr×Obj)) (s:Shared) (σ:St) (H:Hp) (E:Value→Shared→Prop),Inv X pins σ H s→(∀b∈fp,FpOk X pins H b)→tn i s.heap→J.stop i H→
    wpAny (model P w) X.A (pyNext (.ref it)) (fun r s1=>r=none∧Inv X pins σ H s1) E s
  self:∀(A:Around) (i:Nat) (s:Shared) (Q:Value→Shared→Prop) (E:Value→Shared→Prop),tn i s.heap→Q (.ref it) s→wpAny (model P w) A (pyIter (.ref it)) Q E s
abbrev TI:=St→Hp→(It→Hp→Prop)→Prop
def PIE (X:Cx) (pins:List (Addr×Obj)) (σ:St) (tg:Expr) (R:It→Hp→Prop) (itv:Value) (s2:Shared):Prop:=
  Ex5 fun (it:Addr) (fp:List Addr) (tn:Nat→Heap→Prop) (J:It) (H':Hp)=>itv=.ref it∧Inv X pins σ H' s2∧Turn X.prog X.w X.K tg J fp it tn∧tn 0 s2.heap∧(∀b∈fp,FpOk X pins H' b)∧R J H'
def PI (X:Cx) (tg iter:Expr) (wi:TI):Prop:=
  ∀(pins:List (Addr×Obj)) (s:Shared) (σ:St) (H:Hp) (R:It→Hp→Prop),Inv X pins σ H s→wi σ H R→
    wpAny (model X.prog X.w) X.A (eval iter X.env) (fun v s1=>wpAny (model X.prog X.w) X.A (pyIter v) (PIE X pins σ tg R) X.xe s1) X.xe s
theorem go_of {M:Model}{A:Around}{E:Value→Shared→Prop}{s:Shared}{tg:Expr}{it:Addr}{u:Value}{o:Obj}{n:String}{vs:Array Value}{Q:Unit→Shared→Prop} (ho:s.heap.get? it=some o) (hc:o.cls=.type n) (hd:o.data=.fields vs)
    (hn:["enumerate", "zip", "dict_itemiterator", "dict_reverseitemiterator", "odict_iterator", "itertools.zip_longest", "itertools.pairwise"].contains n=false) (hQ:Q () s):wpAny M A (letOwnedTupleGo tg (.ref it) u) Q E s:=by
  unfold letOwnedTupleGo
  cases tg <;> first
    | exact wpAny_pure hQ
    | (cases u <;> first
        | exact wpAny_pure hQ
        | (refine wpAny_bind (wpAny_load ho ?_)
           rw [hc,hd]
           show wpAny M A (if (["enumerate", "zip", "dict_itemiterator", "dict_reverseitemiterator", "odict_iterator", "itertools.zip_longest", "itertools.pairwise"].contains n && vs[0]?==some (rawInt _))=true then _ else _) Q E s
           rw [if_neg (by intro h;rw [hn,Bool.false_and] at h;cases h)]
           exact wpAny_pure hQ))
def Itr (lo:Int) (n:Nat):It:=⟨fun i _=>i<n,fun i H x H'=>H'=H∧x=.int (lo+i),fun i _=>n≤i⟩
theorem turn_range {P:Program}{w:World}{K:PySem.W.Frag}{tg:Expr} (it:Addr) (lo:Int) (n:Nat):Turn P w K tg (Itr lo n) [it] it (fun i h=>IsRangeIter h it (lo+(i:Nat)*1) ((n:Int) - (i:Nat)) 1) where
  mem:=by simp
  obj:=fun i h st b hb=>by
    have e:b=it:=by simpa using hb
    subst e
    exact ⟨_,st,fun v z=>by
      have z':Data.fields _=Data.cell v:=z
      cases z'⟩
  keep:=fun i h h' st k=>k it (by simp) _ st
  item:=by
    intro X hP hw hK hc i pins s σ H E I hf st hg
    subst hP hw hK
    obtain ⟨f0,f1,f2,f3,f4,f5⟩:=hf it (by simp)
    have W:=Walks.range (prog:=X.prog) (w:=X.w) (I.ok.hd hc) it lo 1 n
    refine W.item i s _ _ hg st fun v h' tk hv st' kk=>?_
    obtain ⟨t,rfl⟩:=hv
    have I1:Inv X pins σ H { s with heap:=h',toks:=tk }:=I.turned (fun b o hb e=>kk b o (by simpa using hb) e) f0 f1 f3 f4 f5
    refine ⟨_,rfl,go_of (s:={ s with heap:=h',toks:=tk }) (n := "range_iterator") st' rfl rfl (by decide) ⟨.int (lo+i),H,I1,⟨t,?_⟩,⟨rfl,rfl⟩,st',fun b hb=>(hf b hb).1⟩⟩
    rw [Int.mul_one]
  done:=by
    intro X hP hw hK hc i pins s σ H E I hf st hg
    subst hP hw hK
    obtain ⟨f0,f1,f2,f3,f4,f5⟩:=hf it (by simp)
    exact wpAny_pyNext_range_end (I.ok.hd hc) st (by have:n≤i:=hg;trivial) fun h' eb=>⟨rfl,I.turned (t':=s.toks) (fun b o hb e=>eb b o hb e) f0 f1 f3 f4 f5⟩
  self:=fun _ _ _ _ _ st h=>wpAny_pyIter_rangeiter st h
end L2
namespace L2
open PySem PySem.Spec PyProof.Rows
section
variable {X:Cx}{tg:Expr}
theorem range_it {pins:List (Addr×Obj)}{σ:St}{H:Hp}{s:Shared}{R:It→Hp→Prop}{E:Value→Shared→Prop}{lo hi:Int}{t u v:Tok}{tk:Nat} (I:Inv X pins σ H s) (h1:-(2 ^ 62)≤lo) (h2:lo<2 ^ 62) (h3:-(2 ^ 62)≤hi) (h4:hi<2 ^ 62)
    (q:R (Itr lo (hi - lo).toNat) H):wpAny (model X.prog X.w) X.A (pyIter (.ref s.heap.objs.size)) (PIE X pins σ tg R) E { s with heap:=s.heap.push { cls:=.type "range",data:=.fields #[.int lo t,.int hi u,.int 1 v] },toks:=tk }:=by
  refine wpAny_pyIter_range (IsRange.new ..) (small_one h1 h2 h3 h4) ?_
  have I1:Inv X pins σ H { s with heap:=s.heap.push { cls:=.type "range",data:=.fields #[.int lo t,.int hi u,.int 1 v] },toks:=tk }:=I.kept fun b o e=>Heap.get?_push_of_some _ e
  refine ⟨(s.heap.push { cls:=.type "range",data:=.fields #[.int lo t,.int hi u,.int 1 v] }).objs.size,[(s.heap.push { cls:=.type "range",data:=.fields #[.int lo t,.int hi u,.int 1 v] }).objs.size],_,_,H,rfl,
    I1.kept (t':=tk) fun b o e=>Heap.get?_push_of_some _ e,turn_range _ lo (hi - lo).toNat,?_,fun b hb=>?_,q⟩
  · have e1:lo+((0:Nat):Int)*1=lo:=by simp
    have e2:(((hi - lo).toNat:Nat):Int) - ((0:Nat):Int)=Builtin.Range.rangeSize lo hi 1:=by rw [rangeSize_one];split <;> trivial
    show IsRangeIter _ _ (lo+((0:Nat):Int)*1) ((((hi - lo).toNat:Nat):Int) - ((0:Nat):Int)) 1
    rw [e1,e2]
    exact Heap.get?_push_size _ rfl
  · have e:b=(s.heap.push { cls:=.type "range",data:=.fields #[.int lo t,.int hi u,.int 1 v] }).objs.size:=by simpa using hb
    subst e
    exact I1.fpOk (Nat.le_refl _) (I1.hok.fresh (Nat.le_refl _))
def iRng1 (ta:TA):TI:=fun σ H R=>ta σ H fun vs H1=>∃j:Int,vs=[.int j]∧-(2 ^ 62)≤j∧j<2 ^ 62∧R (Itr 0 j.toNat) H1
theorem pi_range1 {a:Expr}{ta:TA}{p pos:Pos} (hg:Gl X "range") (hm:X.mg "range" = none) (ha:PA X [a] ta) (hs:starEach [a] X.env=[(false,eval a X.env)]:=by rfl):PI X tg (.Call (.Name "range" p) [a] [] pos) (iRng1 ta):=by
  intro pins s σ H R I h
  refine Call_ (ld_blt I hg hm boot_range (PyProof.Rows.callWith_type1 (thn (ha pos pins s σ H _ I h) fun us s1 ⟨vs,H1,I1,r1,q1⟩=>?_) hs rfl))
  obtain ⟨j,e,q1,q2,q⟩:=q1
  subst e
  cases r1 with
  | cons r rr=>
    cases rr
    obtain ⟨t,rfl⟩:=r
    exact call_range_1 (range_it I1 (by trivial) (by trivial) q1 q2 (by simpa using q))
def tFor (wi:TI) (g:TG) (tb:TS):TS:=fun D σ H=>wi σ H fun J H1=>∃W:Nat→Nat→St→Hp→Prop,(∃m,W 0 m σ H1)∧∀i m σ H,W i m σ H→
  (J.stop i H∧D.nx σ H)∨(J.go i H∧∃N:St→Hp→Prop,(∀σ' H',N σ' H'→∃m',m'<m∧W (i+1) m' σ' H')∧∀x H',J.yld i H x H'→g x σ H' fun σ2 H2=>tb { D with nx:=N,ct:=N,bk:=D.nx } σ2 H2)
def pinsAt (fp:List Addr) (h:Heap):List (Addr×Obj):=fp.filterMap fun b=>(h.get? b).map fun o=>(b,o)
theorem mem_pinsAt {fp:List Addr}{h:Heap}{b:Addr}{o:Obj} (hb:b∈fp) (e:h.get? b=some o):(b,o)∈pinsAt fp h:=List.mem_filterMap.mpr ⟨b,hb,by rw [e];rfl⟩
theorem of_pinsAt {fp:List Addr}{h:Heap}{p:Addr×Obj} (hp:p∈pinsAt fp h):p.1∈fp∧h.get? p.1=some p.2:=by
  obtain ⟨b,hb,e⟩:=List.mem_filterMap.mp hp
  cases q:h.get? b with
  | none=>rw [q] at e;cases e
  | some o=>
    rw [q] at e
    have e':(b,o)=p:=Option.some.inj e
    subst e'
    exact ⟨hb,q⟩
theorem Inv.pinned {pins:List (Addr×Obj)}{σ:St}{H:Hp}{s:Shared}{fp:List Addr} (I:Inv X pins σ H s) (hf:∀b∈fp,FpOk X pins H b) (ho:∀b∈fp,∃o,s.heap.get? b=some o∧∀v,o.data≠.cell v):Inv X (pins++pinsAt fp s.heap) σ H s:=
  I.pins_of fun p hp=>(List.mem_append.mp hp).elim (fun z=>I.pin p (List.mem_append_right _ z)) fun z=>by
    obtain ⟨hb,e⟩:=of_pinsAt z
    obtain ⟨f0,f1,f2,_⟩:=hf p.1 hb
    obtain ⟨o,e',d⟩:=ho p.1 hb
    rw [e] at e';cases e'
    exact ⟨e,f0,f1,f2,d⟩
theorem Inv.unpinned {pins pl:List (Addr×Obj)}{σ:St}{H:Hp}{s:Shared} (I:Inv X (pins++pl) σ H s):Inv X pins σ H s:=I.pins_of fun p hp=>I.pin p (List.mem_append_right _ (List.mem_append_left _ hp))
theorem ps_for {iter:Expr}{body:List Stmt}{wi:TI}{g:TG}{tb:TS}{pos:Pos} (hp:PassesOwn (model X.prog X.w) X.A X.env X.xe) (hc:X.calm=true) (hi:PI X tg iter wi) (hg:PG X tg g) (hb:PSs X body tb)
    (hs:∀x,foldedSetIterable iter X.env x=pure x:=by intro _;rfl):PS X (.For tg iter body [] pos) (tFor wi g tb):=by
  intro pins s σ H D I h
  refine wpAny_For (thn (hi pins s σ H _ I h) fun v s1 h1=>thn h1 fun itv s2 h2=>?_) hs
  obtain ⟨it,fp,tn,J,H2,e,I2,T,st2,f2,W,⟨m0,w0⟩,turn⟩:=h2
  subst e
  have stat:∀{H':Hp},(∀b∈fp,H' b=none)→∀b∈fp,FpOk X pins H' b:=fun hn b hb=>⟨hn b hb,(f2 b hb).2⟩
  refine codeAny_forLoop_any (fun n s'=>∃i σ' H',Inv X pins σ' H' s'∧tn i s'.heap∧(∀b∈fp,H' b=none)∧W i n σ' H') ?_ m0 ⟨0,σ,H2,I2,st2,fun b hb=>(f2 b hb).1,w0⟩
  rintro n s3 ⟨i,σ3,H3,I3,st3,fr3,w3⟩
  rcases turn i n σ3 H3 w3 with ⟨stop,qn⟩ | ⟨go,N,hN,step⟩
  · refine wpAny_passesOwn hp (thn (T.done X rfl rfl rfl hc i pins s3 σ3 H3 X.xe I3 (stat fr3) st3 stop) fun r s4 ⟨hr,I4⟩=>?_)
    subst hr
    exact wpAny_execs_nil ⟨σ3,H3,I4,qn⟩
  · refine wpAny_passesOwn hp (thn (T.item X rfl rfl rfl hc i pins s3 σ3 H3 X.xe I3 (stat fr3) st3 go) fun r s4 ⟨u,hr,h4⟩=>?_)
    subst hr
    refine wpAny_passesOwn hp (thn h4 fun _ s5 ⟨x,H5,I5,r5,y5,st5,fr5⟩=>?_)
    have I5':=I5.pinned (stat fr5) (T.obj _ _ st5)
    refine wpAny_passesOwn hp (thn (hg _ s5 σ3 H5 x u _ I5' r5 (step x H5 y5)) fun _ s6 ⟨σ6,H6,I6,q6⟩=>?_)
    refine wpAny_passesOwn hp (thn (hb _ s6 σ6 H6 _ I6 q6) fun f s7 q7=>?_)
    have again:∀{σ7:St}{H7:Hp},Inv X (pins++pinsAt fp s5.heap) σ7 H7 s7→N σ7 H7→∃m,m<n∧∃i σ' H',Inv X pins σ' H' s7∧tn i s7.heap∧(∀b∈fp,H' b=none)∧W i m σ' H':=fun {σ7 H7} I7 n7=>by
      obtain ⟨m',hm,w7⟩:=hN σ7 H7 n7
      refine ⟨m',hm,i+1,σ7,H7,I7.unpinned,T.keep _ _ _ st5 fun b hb o e=>(I7.pin (b,o) (List.mem_append_right _ (List.mem_append_right _ (mem_pinsAt hb e)))).1,fun b hb=>?_,w7⟩
      obtain ⟨o,e,d⟩:=T.obj _ _ st5 b hb
      exact (I7.pin (b,o) (List.mem_append_right _ (List.mem_append_right _ (mem_pinsAt hb e)))).2.1
    cases f with
    | next=>obtain ⟨σ7,H7,I7,n7⟩:=q7;exact again I7 n7
    | cont=>obtain ⟨σ7,H7,I7,n7⟩:=q7;exact again I7 n7
    | brk=>obtain ⟨σ7,H7,I7,q7⟩:=q7;exact ⟨σ7,H7,I7.unpinned,q7⟩
    | ret v=>obtain ⟨x7,σ7,H7,I7,r7,q7⟩:=q7;exact ⟨x7,σ7,H7,I7.unpinned,r7,q7⟩
end
theorem for_range {lo:Int}{n:Nat}{g:TG}{tb:TS}{D:Ends}{σ:St}{H:Hp} (Pv:Nat→St→Hp→Prop) (h0:Pv 0 σ H)
    (hs:∀i σ H,i<n→Pv i σ H→g (.int (lo+i)) σ H fun σ2 H2=>tb { D with nx:=Pv (i+1),ct:=Pv (i+1),bk:=D.nx } σ2 H2) (hd:∀σ H,Pv n σ H→D.nx σ H) :
    ∃W:Nat→Nat→St→Hp→Prop,(∃m,W 0 m σ H)∧∀i m σ H,W i m σ H→
      ((Itr lo n).stop i H∧D.nx σ H)∨((Itr lo n).go i H∧∃N:St→Hp→Prop,(∀σ' H',N σ' H'→∃m',m'<m∧W (i+1) m' σ' H')∧∀x H',(Itr lo n).yld i H x H'→g x σ H' fun σ2 H2=>tb { D with nx:=N,ct:=N,bk:=D.nx } σ2 H2):=by
  refine ⟨fun i m σ H=>m=n - i∧i≤n∧Pv i σ H,⟨n,by simp,Nat.zero_le _,h0⟩,?_⟩
  rintro i m σ H ⟨rfl,hi,p⟩
  by_cases hlt:i<n
  · refine .inr ⟨hlt,Pv (i+1),fun σ' H' p'=>⟨n - (i+1),by trivial,rfl,hlt,p'⟩,fun x H' y=>?_⟩
    obtain ⟨e,y⟩:=y
    subst e y
    exact hs i σ _ hlt p
  · have e:i=n:=by trivial
    subst e
    exact .inl ⟨Nat.le_refl _,hd σ H p⟩
end L2
namespace L2
open PySem PySem.Spec PyProof.Rows
abbrev R2:=V→V→Hp→VK→Prop
def OpR (X:Cx) (f:Value→Value→Sem Value) (r:R2):Prop:=
  ∀(pins:List (Addr×Obj)) (s:Shared) (σ:St) (H:Hp) (x y:V) (v u:Value) (Q:VK),Inv X pins σ H s→RelV x v→RelV y u→r x y H Q→
    wpAny (model X.prog X.w) X.A (f v u) (EP X pins σ Q) X.xe s
def UnR (X:Cx) (f:Value→Sem Value) (r:V→Hp→VK→Prop):Prop:=
  ∀(pins:List (Addr×Obj)) (s:Shared) (σ:St) (H:Hp) (x:V) (v:Value) (Q:VK),Inv X pins σ H s→RelV x v→r x H Q→
    wpAny (model X.prog X.w) X.A (f v) (EP X pins σ Q) X.xe s
def CallR (X:Cx) (f:Value) (r:List V→Hp→VK→Prop):Prop:=
  ∀(pins:List (Addr×Obj)) (s:Shared) (σ:St) (H:Hp) (xs:List V) (us:List Value) (Q:VK),Inv X pins σ H s→Vals xs us→r xs H Q→
    wpAny (model X.prog X.w) X.A (call f us) (EP X pins σ Q) X.xe s
def tOp (r:R2) (ta tb:TE):TE:=fun σ H Q=>ta σ H fun x H1=>tb σ H1 fun y H2=>r x y H2 Q
def tUn (r:V→Hp→VK→Prop) (ta:TE):TE:=fun σ H Q=>ta σ H fun x H1=>r x H1 Q
inductive rI_ (C:Int→Int→Prop) (g:Int→Int→V) (x:V) (y:V) (H:Hp) (Q:VK):Prop
  | mk (i:_) (j:_) (h0:x=.int i) (h1:y=.int j) (h2:C i j) (h3:Q (g i j) H)
def rI (C:Int→Int→Prop) (g:Int→Int→V):R2:=fun x y H Q=>rI_ C g x y H Q
inductive rI0_ (g:Int→Int→V) (x:V) (y:V) (H:Hp) (Q:VK):Prop
  | mk (i:_) (j:_) (h0:x=.int i) (h1:y=.int j) (h2:Q (g i j) H)
def rI0 (g:Int→Int→V):R2:=fun x y H Q=>rI0_ g x y H Q
def rU (g:Int→V):V→Hp→VK→Prop:=fun x H Q=>IsIn x fun i=>Q (g i) H
section
variable {X:Cx}{a b c:Expr}{ta tb tc:TE}{pos:Pos}
theorem binT (ha:PE X a ta) (hb:PE X b tb) {pins:List (Addr×Obj)}{s:Shared}{σ:St}{H:Hp}{R:V→V→Hp→Prop} (I:Inv X pins σ H s)
    (h:ta σ H fun x H1=>tb σ H1 fun y H2=>R x y H2) {Q:Value→Shared→Prop}{f:Value→Value→Sem Value}
    (hf:∀v u s2 x y H2,Inv X pins σ H2 s2→RelV x v→RelV y u→R x y H2→wpAny (model X.prog X.w) X.A (f v u) Q X.xe s2) :
    wpAny (model X.prog X.w) X.A (eval a X.env) (fun v s₁=>wpAny (model X.prog X.w) X.A (eval b X.env) (fun u s₂=>wpAny (model X.prog X.w) X.A (f v u) Q X.xe s₂) X.xe s₁) X.xe s:=by
  refine thn (ha pins s σ H _ I h) fun v s1 ⟨x,H1,I1,r1,q1⟩=>?_
  refine thn (hb pins s1 σ H1 _ I1 q1) fun u s2 ⟨y,H2,I2,r2,q2⟩=>?_
  exact hf v u s2 x y H2 I2 r1 r2 q2
theorem pe_op {op:Operator}{r:R2} (ho:OpR X (binaryOp op) r) (ha:PE X a ta) (hb:PE X b tb):PE X (.BinOp a op b pos) (tOp r ta tb):=by
  intro pins s σ H Q I h
  exact wpAny_BinOp (binT ha hb I h fun v u s2 x y H2 I2 rx ry q=>ho pins s2 σ H2 x y v u Q I2 rx ry q)
theorem pe_un {op:UnaryOp}{r:V→Hp→VK→Prop} (ho:UnR X (unaryOp op) r) (ha:PE X a ta):PE X (.UnaryOp op a pos) (tUn r ta):=by
  intro pins s σ H Q I h
  exact UnaryOp_ (thn (ha pins s σ H _ I h) fun v s1 ⟨x,H1,I1,r1,q1⟩=>ho pins s1 σ H1 x v Q I1 r1 q1)
theorem opI {f:Value→Value→Sem Value}{C:Int→Int→Prop}{g:Int→Int→Int}
    (rule:∀(i j:Int) (t u:Tok) (s:Shared) (Q:Value→Shared→Prop) (E:Value→Shared→Prop),C i j→Q (.int (g i j) s.toks) { s with toks:=s.toks+1 }→wpAny (model X.prog X.w) X.A (f (.int i t) (.int j u)) Q E s) :
    OpR X f (rI C fun i j=>.int (g i j)):=by
  intro pins s σ H x y v u Q I rx ry h
  obtain ⟨i,j,rfl,rfl,hc,q⟩:=h
  obtain ⟨t,rfl⟩:=rx
  obtain ⟨t',rfl⟩:=ry
  exact rule i j t t' s _ _ hc ⟨.int (g i j),H,I.tok _,⟨_,rfl⟩,q⟩
theorem opI0 {f:Value→Value→Sem Value}{g:Int→Int→Int}
    (rule:∀(i j:Int) (t u:Tok) (s:Shared) (Q:Value→Shared→Prop) (E:Value→Shared→Prop),Q (.int (g i j) s.toks) { s with toks:=s.toks+1 }→wpAny (model X.prog X.w) X.A (f (.int i t) (.int j u)) Q E s) :
    OpR X f (rI0 fun i j=>.int (g i j)):=by
  intro pins s σ H x y v u Q I rx ry h
  obtain ⟨i,j,rfl,rfl,q⟩:=h
  obtain ⟨t,rfl⟩:=rx
  obtain ⟨t',rfl⟩:=ry
  exact rule i j t t' s _ _ ⟨.int (g i j),H,I.tok _,⟨_,rfl⟩,q⟩
theorem opB0 {f:Value→Value→Sem Value}{g:Int→Int→Bool}
    (rule:∀(i j:Int) (t u:Tok) (s:Shared) (Q:Value→Shared→Prop) (E:Value→Shared→Prop),Q (.bool (g i j)) s→wpAny (model X.prog X.w) X.A (f (.int i t) (.int j u)) Q E s) :
    OpR X f (rI0 fun i j=>.bl (g i j)):=by
  intro pins s σ H x y v u Q I rx ry h
  obtain ⟨i,j,rfl,rfl,q⟩:=h
  obtain ⟨t,rfl⟩:=rx
  obtain ⟨t',rfl⟩:=ry
  exact rule i j t t' s _ _ ⟨.bl (g i j),H,I,rfl,q⟩
def CDiv (i j:Int):Prop:=0<j∧j<1073741824
def CPow (i j:Int):Prop:=0≤j∧j≤1000000∧i.natAbs<2 ^ 64
def CMul (i j:Int):Prop:=(-(2 ^ 64)<i∧i<2 ^ 64)∨(-(2 ^ 64)<j∧j<2 ^ 64)
theorem CMul.ok {i j:Int} (h:CMul i j):IntMulOk i j:=by
  rcases h with ⟨h1,h2⟩ | ⟨h1,h2⟩
  · exact .of_left (intBits_le_64 h1 h2)
  · exact .of_right (intBits_le_64 h1 h2)
theorem op_add:OpR X (binaryOp .Add) (rI0 fun i j=>.int (i+j)):=opI0 fun _ _ _ _ _ _ _ q=>add_int q
theorem op_mul:OpR X (binaryOp .Mult) (rI CMul fun i j=>.int (i*j)):=opI fun _ _ _ _ _ _ _ hc q=>mul_int q hc.ok
theorem op_fdiv:OpR X (binaryOp .FloorDiv) (rI CDiv fun i j=>.int (i / j)):=opI fun i j _ _ _ _ _ hc q=>by
  have h1:(0:Int)<j:=hc.1
  have h2:j<1073741824:=hc.2
  exact floordiv_int (by trivial) (by rw [Int.fdiv_eq_ediv_of_nonneg i (by trivial)];exact q) (.inl (PyProof.noPylong_small (by trivial)))
theorem op_mod:OpR X (binaryOp .Mod) (rI (fun _ j=>0<j) fun i j=>.int (i % j)):=opI fun i j _ _ _ _ _ hc q=>by
  have h1:(0:Int)<j:=hc
  exact mod_int' (by trivial) (by rw [Int.fmod_eq_emod_of_nonneg i (by trivial)];exact q)
theorem op_pow:OpR X (binaryOp .Pow) (rI CPow fun i j=>.int (i ^ j.toNat)):=opI fun _ _ _ _ _ _ _ hc q=>pow_int_small hc.1 hc.2.1 hc.2.2 q
theorem unI {f:Value→Sem Value}{g:Int→Int}
    (rule:∀(i:Int) (t:Tok) (s:Shared) (Q:Value→Shared→Prop) (E:Value→Shared→Prop),Q (.int (g i) s.toks) { s with toks:=s.toks+1 }→wpAny (model X.prog X.w) X.A (f (.int i t)) Q E s) :
    UnR X f (rU fun i=>.int (g i)):=by
  intro pins s σ H x v Q I rx h
  obtain ⟨i,rfl,q⟩:=h
  obtain ⟨t,rfl⟩:=rx
  exact rule i t s _ _ ⟨.int (g i),H,I.tok _,⟨_,rfl⟩,q⟩
theorem un_neg:UnR X (unaryOp .USub) (rU fun i=>.int (-i)):=unI fun _ _ _ _ _ q=>neg_int q
end
def scal:V→V→Bool
  | .non,.non=>true | .non,.int _=>true | .int _,.non=>true | .non,.bl _=>true | .bl _,.non=>true | .non,.str _=>true | .str _,.non=>true
  | .int _,.int _=>true | .bl _,.bl _=>true | .str _,.str _=>true | .byt _,.byt _=>true
  | .int _,.str _=>true | .str _,.int _=>true | .bl _,.str _=>true | .str _,.bl _=>true
  | _,_=>false
def rEq:R2:=fun x y H Q=>scal x y=true∧Q (.bl (decide (x=y))) H
def rNe:R2:=fun x y H Q=>scal x y=true∧Q (.bl (!decide (x=y))) H
theorem dec_int {i j:Int}:decide (V.int i=V.int j)=(i==j):=by
  rw [Bool.eq_iff_iff]
  simp
theorem dec_bl {i j:Bool}:decide (V.bl i=V.bl j)=(i==j):=by
  rw [Bool.eq_iff_iff]
  simp
theorem dec_str {i j:Str}:decide (V.str i=V.str j)=(i==j):=by
  rw [Bool.eq_iff_iff]
  simp
theorem dec_byt {i j:Array UInt8}:decide (V.byt i=V.byt j)=(i.toList==j.toList):=by
  rw [Bool.eq_iff_iff]
  cases i
  cases j
  simp
section
variable {X:Cx}{a b c:Expr}{ta tb tc:TE}{pos:Pos}
theorem fin_bl {pins:List (Addr×Obj)}{σ:St}{H:Hp}{s:Shared}{Q:VK}{k k':Bool} (I:Inv X pins σ H s) (q:Q (.bl k) H) (e:k=k'):EP X pins σ Q (.bool k') s:=by
  subst e
  exact ⟨.bl k,H,I,rfl,q⟩
theorem op_eq:OpR X (compareOp .Eq) rEq:=by
  intro pins s σ H x y v u Q I rx ry h
  obtain ⟨hs,q⟩:=h
  cases x with
  | non=>
    cases rx
    cases y with
    | non=>cases ry;exact PySem.EqNone.eq_none_none (fin_bl I q (by simp))
    | bl j=>cases ry;exact PySem.EqNone.eq_none_bool (fin_bl I q (by simp))
    | int j=>obtain ⟨t',rfl⟩:=ry;exact PySem.EqNone.eq_none_int (fin_bl I q (by simp))
    | str j=>obtain ⟨t',rfl⟩:=ry;exact PySem.EqNone.eq_none_str (fin_bl I q (by simp))
    | _=>exact absurd (show false=true from hs) Bool.false_ne_true
  | bl i=>
    cases rx
    cases y with
    | non=>cases ry;exact PySem.EqNone.eq_bool_none (fin_bl I q (by simp))
    | bl j=>cases ry;exact eq_bool (fin_bl I q dec_bl)
    | str j=>obtain ⟨t',rfl⟩:=ry;exact PySem.EqMixed.eq_bool_str (fin_bl I q (by simp))
    | _=>exact absurd (show false=true from hs) Bool.false_ne_true
  | int i=>
    obtain ⟨t,rfl⟩:=rx
    cases y with
    | non=>cases ry;exact PySem.EqNone.eq_int_none (fin_bl I q (by simp))
    | int j=>obtain ⟨t',rfl⟩:=ry;exact eq_int (fin_bl I q dec_int)
    | str j=>obtain ⟨t',rfl⟩:=ry;exact PySem.EqMixed.eq_int_str (fin_bl I q (by simp))
    | _=>exact absurd (show false=true from hs) Bool.false_ne_true
  | str i=>
    obtain ⟨t,rfl⟩:=rx
    cases y with
    | non=>cases ry;exact PySem.EqNone.eq_str_none (fin_bl I q (by simp))
    | bl j=>cases ry;exact PySem.EqMixed.eq_str_bool (fin_bl I q (by simp))
    | int j=>obtain ⟨t',rfl⟩:=ry;exact PySem.EqMixed.eq_str_int (fin_bl I q (by simp))
    | str j=>obtain ⟨t',rfl⟩:=ry;exact eq_str (fin_bl I q dec_str)
    | _=>exact absurd (show false=true from hs) Bool.false_ne_true
  | byt i=>
    obtain ⟨t,rfl⟩:=rx
    cases y with
    | byt j=>obtain ⟨t',rfl⟩:=ry;exact PySem.W.eq_bytes (fin_bl I q dec_byt)
    | _=>exact absurd (show false=true from hs) Bool.false_ne_true
  | _=>cases y <;> exact absurd (show false=true from hs) Bool.false_ne_true
theorem op_ne:OpR X (compareOp .NotEq) rNe:=by
  intro pins s σ H x y v u Q I rx ry h
  obtain ⟨hs,q⟩:=h
  cases x with
  | non=>
    cases rx
    cases y with
    | non=>cases ry;exact PySem.EqNone.ne_none_none (fin_bl I q (by simp))
    | bl j=>cases ry;exact PySem.EqNone.ne_none_bool (fin_bl I q (by simp))
    | int j=>obtain ⟨t',rfl⟩:=ry;exact PySem.EqNone.ne_none_int (fin_bl I q (by simp))
    | str j=>obtain ⟨t',rfl⟩:=ry;exact PySem.EqNone.ne_none_str (fin_bl I q (by simp))
    | _=>exact absurd (show false=true from hs) Bool.false_ne_true
  | bl i=>
    cases rx
    cases y with
    | non=>cases ry;exact PySem.EqNone.ne_bool_none (fin_bl I q (by simp))
    | bl j=>cases ry;exact ne_bool (fin_bl I q (congrArg not dec_bl))
    | str j=>obtain ⟨t',rfl⟩:=ry;exact PySem.EqMixed.ne_bool_str (fin_bl I q (by simp))
    | _=>exact absurd (show false=true from hs) Bool.false_ne_true
  | int i=>
    obtain ⟨t,rfl⟩:=rx
    cases y with
    | non=>cases ry;exact PySem.EqNone.ne_int_none (fin_bl I q (by simp))
    | int j=>obtain ⟨t',rfl⟩:=ry;exact ne_int (fin_bl I q (congrArg not dec_int))
    | str j=>obtain ⟨t',rfl⟩:=ry;exact PySem.EqMixed.ne_int_str (fin_bl I q (by simp))
    | _=>exact absurd (show false=true from hs) Bool.false_ne_true
  | str i=>
    obtain ⟨t,rfl⟩:=rx
    cases y with
    | non=>cases ry;exact PySem.EqNone.ne_str_none (fin_bl I q (by simp))
    | bl j=>cases ry;exact PySem.EqMixed.ne_str_bool (fin_bl I q (by simp))
    | int j=>obtain ⟨t',rfl⟩:=ry;exact PySem.EqMixed.ne_str_int (fin_bl I q (by simp))
    | str j=>obtain ⟨t',rfl⟩:=ry;exact ne_str (fin_bl I q (congrArg not dec_str))
    | _=>exact absurd (show false=true from hs) Bool.false_ne_true
  | byt i=>
    obtain ⟨t,rfl⟩:=rx
    cases y with
    | byt j=>obtain ⟨t',rfl⟩:=ry;exact PySem.W.ne_bytes (fin_bl I q (congrArg not dec_byt))
    | _=>exact absurd (show false=true from hs) Bool.false_ne_true
  | _=>cases y <;> exact absurd (show false=true from hs) Bool.false_ne_true
theorem op_lt:OpR X (compareOp .Lt) (rI0 fun i j=>.bl (decide (i<j))):=opB0 fun _ _ _ _ _ _ _ q=>lt_int q
theorem op_gt:OpR X (compareOp .Gt) (rI0 fun i j=>.bl (decide (j<i))):=opB0 fun _ _ _ _ _ _ _ q=>gt_int q
theorem op_ge:OpR X (compareOp .GtE) (rI0 fun i j=>.bl (decide (j≤i))):=opB0 fun _ _ _ _ _ _ _ q=>ge_int q
theorem nomark (b:Expr) {op:CmpOp} (h:op≠.In:=by decide) (h2:op≠.NotIn:=by decide):behindInMarks op b=false:=by
  have e1:(op==CmpOp.In)=false:=by cases op <;> first | rfl | exact absurd rfl h
  have e2:(op==CmpOp.NotIn)=false:=by cases op <;> first | rfl | exact absurd rfl h2
  cases b <;> simp [behindInMarks,e1,e2]
theorem pe_cmpR {op:CmpOp}{r:R2} (ho:OpR X (compareOp op) r) (ha:PE X a ta) (hb:PE X b tb) (hm:behindInMarks op b=false):PE X (.Compare a [op] [b] pos) (tOp r ta tb):=by
  intro pins s σ H Q I h
  exact wpAny_Compare1 (binT ha hb I h fun v u s2 x y H2 I2 rx ry q=>ho pins s2 σ H2 x y v u Q I2 rx ry q) hm
def tTest (t:TE):TT:=fun σ H Q=>t σ H fun x H'=>IsBl x fun k=>Q k H'
theorem pt_cmpR {op:CmpOp}{r:R2} (ho:OpR X (compareOp op) r) (ha:PE X a ta) (hb:PE X b tb) (hm:behindInMarks op b=false):PT X (.Compare a [op] [b] pos) (tTest (tOp r ta tb)):=by
  intro pins s σ H Q I h
  refine wpAny_isTrue_Compare1 (thn (ha pins s σ H _ I h) fun v s1 ⟨x,H1,I1,r1,q1⟩=>thn (hb pins s1 σ H1 _ I1 q1) fun u s2 ⟨y,H2,I2,r2,q2⟩=>
    thn (ho pins s2 σ H2 x y v u _ I2 r1 r2 q2) fun c s3 ⟨z,H3,I3,r3,k,e,q3⟩=>?_) hm
  subst e
  cases r3
  exact wpAny_truthy_bool ⟨H3,I3,q3⟩
theorem line63:(sizeLine:Nat)<2 ^ 63:=by rw [sizeLine_eq];decide
theorem vals1 {x:V}{us:List Value} (r:Vals [x] us):∃u,us=[u]∧RelV x u:=by
  cases r with
  | cons r1 r2=>cases r2;exact ⟨_,rfl,r1⟩
theorem vals2 {x y:V}{us:List Value} (r:Vals [x,y] us):Ex2 fun u w'=>us=[u,w']∧RelV x u∧RelV y w':=by
  cases r with
  | cons r1 r2=>
    cases r2 with
    | cons r3 r4=>cases r4;exact ⟨_,_,rfl,r1,r3⟩
theorem call_abs:CallR X (.builtin "abs") (fun xs H Q=>∃i,xs=[.int i]∧Q (.int (if i<0 then -i else i)) H):=by
  intro pins s σ H xs us Q I r h
  obtain ⟨i,rfl,q⟩:=h
  obtain ⟨u,rfl,t,rfl⟩:=vals1 r
  exact call_abs_int fun u tk=>⟨.int (if i<0 then -i else i),H,I.tok _,⟨_,rfl⟩,q⟩
theorem call_max2 (hc:X.calm=true):CallR X (.builtin "max") (fun xs H Q=>Ex2 fun i j=>xs=[.int i,.int j]∧Q (.int (if j > i then j else i)) H):=by
  intro pins s σ H xs us Q I r h
  obtain ⟨i,j,rfl,q⟩:=h
  obtain ⟨u,w',rfl,⟨t,rfl⟩,⟨t',rfl⟩⟩:=vals2 r
  refine max_two_ints (I.ok.hd hc) fun h' tk k=>⟨_,H,I.kept k,?_,q⟩
  by_cases hj:j > i
  · rw [if_pos hj,if_pos hj];exact ⟨_,rfl⟩
  · rw [if_neg hj,if_neg hj];exact ⟨_,rfl⟩
theorem call_int1:CallR X (.type "int") (fun xs H Q=>(∃i,xs=[.int i]∧Q (.int i) H)∨∃k,xs=[.bl k]∧Q (.int (if k then 1 else 0)) H):=by
  intro pins s σ H xs us Q I r h
  rcases h with ⟨i,rfl,q⟩ | ⟨k,rfl,q⟩
  · obtain ⟨u,rfl,t,rfl⟩:=vals1 r
    exact call_int_int ⟨.int i,H,I,⟨_,rfl⟩,q⟩
  · obtain ⟨u,rfl,r1⟩:=vals1 r
    cases r1
    exact call_int_bool ⟨.int (if k then 1 else 0),H,I.tok _,⟨_,rfl⟩,q⟩
end
end L2
namespace L2
open PySem PySem.Spec PyProof.Rows
structure ObjM (h:Heap) (x dx C:Addr) (mA:Str→Option Value):Prop where
  obj:h.get? x=some (PySem.W.instObj C dx)
  ns:h.Ns1 dx mA
  ne:dx≠x
theorem lookIn_ns {h:Heap}{dx:Addr}{mA:Str→Option Value} (n:h.Ns1 dx mA):∃od,h.get? dx=some od∧∀name,PySem.W.lookIn name od=some (mA name):=by
  obtain ⟨o,es,ep,ho,hd,hk,_,hm⟩:=n
  refine ⟨o,ho,fun name=>?_⟩
  have e:=hm name
  unfold nsFind findBy at e
  rw [←Array.find?_toList] at e
  unfold PySem.W.lookIn
  rw [hd]
  dsimp only
  split
  · rename_i y q
    rw [q] at e
    exact congrArg some e
  · rename_i q
    rw [q] at e
    have a:es.toList.any (·.refKey)=false:=by
      rw [List.any_eq_false]
      intro y hy
      obtain ⟨z,t,hkey⟩:=hk y (Array.mem_toList_iff.mp hy)
      simp [DictEntry.refKey,hkey]
    have a':¬es.toList.any (·.refKey)=true:=by rw [a];exact Bool.false_ne_true
    rw [if_neg a']
    exact congrArg some e
theorem ObjM.look {h:Heap}{x dx C:Addr}{mA:Str→Option Value} (I:ObjM h x dx C mA):∃od,PySem.W.InstAt h x (PySem.W.instObj C dx) C (some od)∧∀name,PySem.W.lookIn name od=some (mA name):=
  let ⟨od,ho,hl⟩:=lookIn_ns I.ns
  ⟨od,⟨I.obj,rfl,rfl,ho⟩,hl⟩
section
variable {prog:Program}{w:World}{A:Around}{E:Value→Shared→Prop}{s:Shared}{K:PySem.W.Frag}{x dx C f:Addr}{mA:Str→Option Value}{name:Str}{v:Value}
end
theorem handed_of {v:V}{u:Value} (r:RelV v u):PySem.W.handedIn u=true:=by
  cases v with
  | non=>cases (show u=Value.none from r);rfl
  | bl b=>cases (show u=Value.bool b from r);rfl
  | int i=>obtain ⟨t,e⟩:=(show ∃t,u=Value.int i t from r);cases e;rfl
  | str x=>obtain ⟨t,e⟩:=(show ∃t,u=Value.str x t from r);cases e;rfl
  | byt b=>obtain ⟨t,e⟩:=(show ∃t,u=Value.bytes b t from r);cases e;rfl
  | flt b=>obtain ⟨t,e⟩:=(show ∃t,u=Value.float b t from r);cases e;rfl
  | ref a=>cases (show u=Value.ref a from r);rfl
  | ty n=>cases (show u=Value.type n from r);rfl
section
variable {P:Program}{w:World}{H H':Hp}{h h':Heap}{a C dx:Addr}{fs fs':List (Str×V)}
theorem ins_get (hok:HOk P w H h) (e:H a=some (.ins C dx fs)):∃mA,ObjM h a dx C mA∧(∀f,RelO (fs.lookup f) (mA f))∧PySem.Within mA (fs.map (·.1))∧fs.length≤1000∧H dx=some (.own a):=by
  obtain ⟨d,z,ne,ob,mA,n,r,q⟩:=(show ObjOk P w H h a (.ins C dx fs) from hok a _ e)
  exact ⟨mA,⟨ob,n,ne⟩,r,q,z,d⟩
end
structure Cls (K:PySem.W.Frag) (C:Addr):Prop where
  pg:PySem.W.plainGet K C Str.empty=true
  hd:PySem.W.hasDictIn K C=true
  po:PySem.W.plainOver K C=true
  sa:PySem.W.findIn K (.ref C) "__setattr__" = some (some (.builtin "object.__setattr__"))
theorem Cls.get {K:PySem.W.Frag}{C:Addr} (c:Cls K C) (f:Str):PySem.W.plainGet K C f=true:=c.pg
section
variable {X:Cx}{pins:List (Addr×Obj)}{σ:St}{H:Hp}{s:Shared}{a C dx:Addr}{fs:List (Str×V)}{f:Str}{v:V}{A:Around}{E:Value→Shared→Prop}
theorem attr_of {prog:Program}{w:World}{env:Env}{e:Expr}{f:Str}{pos:Pos}{s:Shared}{Q:Value→Shared→Prop} (hb:attributeBase e f env (eval e env)=eval e env)
    (h:wpAny (model prog w) A (eval e env) (fun o s₁=>wpAny (model prog w) A (getAttr o f true) Q E s₁) E s):wpAny (model prog w) A (eval (.Attribute e f pos) env) Q E s:=
  Attribute_any_ h (by rw [arm_eval_Attribute,hb])
end
section
variable {X:Cx}{o e value:Expr}{f:Str}{pos pos' tpos:Pos}{ta tv:TE}
end
section
variable {X:Cx}{pins:List (Addr×Obj)}{σ:St}{H:Hp}{s:Shared}{A:Around}{E:Value→Shared→Prop}{Q:Value→Shared→Prop}{c:Value}{b:Bool}
inductive TyOf (K:PySem.W.Frag) (H:Hp):V→Value→Prop where
  | non:TyOf K H .non (.type "NoneType")
  | bl (x:Bool):TyOf K H (.bl x) (.type "bool")
  | int (i:Int):TyOf K H (.int i) (.type "int")
  | str (x:Str):TyOf K H (.str x) (.type "str")
  | flt (x:UInt64):TyOf K H (.flt x) (.type "float")
  | lst {a:Addr}{xs:List V} (e:H a=some (.lst xs)):TyOf K H (.ref a) (.type "list")
  | frz {a:Addr}{o:Obj}{xs:List V} (e:H a=some (.frz o (.lst xs))):TyOf K H (.ref a) (.type "list")
  | tup {a:Addr}{xs:List V} (e:H a=some (.tup xs)):TyOf K H (.ref a) (.type "tuple")
  | dK {a:Addr}{kvs:List (Key×V)} (e:H a=some (.dK kvs)):TyOf K H (.ref a) (.type "dict")
  | dT {a:Addr}{kvs:List (List Key×V)} (e:H a=some (.dT kvs)):TyOf K H (.ref a) (.type "dict")
  | ins {a C dx:Addr}{fs:List (Str×V)} (e:H a=some (.ins C dx fs)) (cl:Cls K C) (ha:PySem.W.findIn K (.ref C) "__class__" = some (some (.builtin "object.__class__")))
      (hn:PySem.W.specialIn K (.builtin "object.__class__") "__get__" = some (some (.builtin "getset_descriptor.__get__"))) (htk:PySem.W.takesIn K (.builtin "object.__class__")=some true)
      (hm:PySem.W.mroIn K C (.type "object")=some true):TyOf K H (.ref a) (.ref C)
theorem isinst_ok {x:V}{u t:Value} (I:Inv X pins σ H s) (rx:RelV x u) (ty:TyOf X.K H x t) (e:PySem.W.kitOne X.K t c=some b) (h:∀tk,Q (.bool b) { s with toks:=tk }) :
    wpAny (model X.prog X.w) A (call (.builtin "isinstance") [u,c]) Q E s:=by
  cases ty with
  | non=>cases (show u=Value.none from rx);exact PySem.W.kia_one PySem.W.kitx_none I.kIn True.intro e (fun z=>nomatch z) h
  | bl y=>cases (show u=Value.bool y from rx);exact PySem.W.kia_one PySem.W.kitx_bool I.kIn True.intro e (fun z=>nomatch z) h
  | int i=>obtain ⟨t,q⟩:=(show ∃t,u=Value.int i t from rx);cases q;exact PySem.W.kia_one PySem.W.kitx_int I.kIn True.intro e (fun z=>nomatch z) h
  | str y=>obtain ⟨t,q⟩:=(show ∃t,u=Value.str y t from rx);cases q;exact PySem.W.kia_one PySem.W.kitx_str I.kIn True.intro e (fun z=>nomatch z) h
  | flt y=>obtain ⟨t,q⟩:=(show ∃t,u=Value.float y t from rx);cases q;exact PySem.W.kia_one PySem.W.kitx_float I.kIn True.intro e (fun z=>nomatch z) h
  | @lst a xs ea=>
    cases (show u=Value.ref a from rx)
    obtain ⟨_,_,n,_,h1⟩:=(show ObjOk X.prog X.w H s.heap a (.lst xs) from I.hok a _ ea)
    exact PySem.W.kia_one PySem.W.kitx_list I.kIn ⟨_,h1,rfl⟩ e (fun z=>nomatch z) h
  | @frz a ob xs ea=>
    cases (show u=Value.ref a from rx)
    obtain ⟨_,_,_,n,_,h1⟩:=(show ObjOk X.prog X.w H s.heap a (.frz ob (.lst xs)) from I.hok a _ ea)
    exact PySem.W.kia_one PySem.W.kitx_list I.kIn ⟨_,h1,rfl⟩ e (fun z=>nomatch z) h
  | @tup a xs ea=>
    cases (show u=Value.ref a from rx)
    obtain ⟨_,_,_,p,_⟩:=(show ObjOk X.prog X.w H s.heap a (.tup xs) from I.hok a _ ea)
    obtain ⟨o,h1,h2,_⟩:=p
    exact PySem.W.kia_one PySem.W.kitx_tuple I.kIn ⟨o,h1,h2⟩ e (fun z=>nomatch z) h
  | @dK a kvs ea=>
    cases (show u=Value.ref a from rx)
    obtain ⟨_,_,vs,_,p⟩:=(show ObjOk X.prog X.w H s.heap a (.dK kvs) from I.hok a _ ea)
    obtain ⟨o,es,ep,h1,h2,_⟩:=p
    exact PySem.W.kia_one PySem.W.kitx_dict I.kIn ⟨o,h1,h2.1⟩ e (fun z=>nomatch z) h
  | @dT a kvs ea=>
    cases (show u=Value.ref a from rx)
    obtain ⟨_,_,xs,_,o,es,ep,h1,h2,_⟩:=(show ObjOk X.prog X.w H s.heap a (.dT kvs) from I.hok a _ ea)
    exact PySem.W.kia_one PySem.W.kitx_dict I.kIn ⟨o,h1,h2.1⟩ e (fun z=>nomatch z) h
  | @ins a C dx fs ea cl ha hn htk hm=>
    cases (show u=Value.ref a from rx)
    obtain ⟨mA,O,_⟩:=ins_get I.hok ea
    obtain ⟨od,J,_⟩:=O.look
    exact PySem.W.kia_one (PySem.W.kitx_own (cl.get _) cl.hd ha hn htk hm) I.kIn J e (fun z=>nomatch z) h
end
end L2
namespace L2
open PySem PySem.Spec PyProof.Rows
structure Room (k:Nat) (A:Around):Prop where
  hd:A.handled=none
  dp:A.depth+3*k+5<recursionLimit
  un:A.units+16*k+200<cLine
  gd:A.guards=some []
theorem Room.mono {j k:Nat}{A:Around} (r:Room k A) (h:j≤k):Room j A:=⟨r.hd,by have:=r.dp;trivial,by have:=r.un;trivial,r.gd⟩
theorem Room.deeper {k:Nat}{A:Around} (r:Room (k+1) A) (env:Env):Room k (A.deeper env):=
  ⟨r.hd,by have:=r.dp;show A.depth+1+3*k+5<_;trivial,by have:=r.un;show A.units+3+16*k+200<_;trivial,r.gd⟩
theorem make_depth {A:Around}{C:Addr}{us:List Value}{kw:List (Str×Value)}:(A.under (.builtin "type.__call__" ⟨.ref C :: us,kw⟩)).depth=A.depth+1:=by
  first | rfl | simp [Around.under,Code.weight,Code.isCreation,Code.isGuard,Code.isCaller,Code.frames,Code.isFrame,guardIds]
theorem make_units {A:Around}{C:Addr}{us:List Value}{kw:List (Str×Value)}:(A.under (.builtin "type.__call__" ⟨.ref C :: us,kw⟩)).units=A.units+1:=by
  first | rfl | simp [Around.under,Code.cUnits,Code.frames,Code.isFrame]
theorem Room.make {k:Nat}{A:Around} (r:Room (k+1) A) (C:Addr) (us:List Value) (kw:List (Str×Value)):Room k (A.under (.builtin "type.__call__" ⟨.ref C :: us,kw⟩)):=
  ⟨r.hd,by have:=r.dp;rw [make_depth];trivial,by have:=r.un;rw [make_units];trivial,r.gd⟩
theorem Room.depth {k:Nat}{A:Around} (r:Room k A):A.depth<recursionLimit:=by have:=r.dp;trivial
theorem Room.units {k:Nat}{A:Around} (r:Room k A):A.units+64<cLine:=by have:=r.un;trivial
def tNil:TA:=fun _ H Q=>Q [] H
def tCons (ta:TE) (tr:TA):TA:=fun σ H Q=>ta σ H fun x H1=>tr σ H1 fun xs H2=>Q (x :: xs) H2
section
variable {X:Cx}{e:Expr}{es:List Expr}{te:TE}{t:TA}{pos:Pos}
theorem pa_nil:PA X [] tNil:=fun _ _ _ _ H Q I h=>Calls.spliced_nil ⟨[],H,I,.nil,h⟩
theorem pa_cons (ha:PE X e te) (hr:PA X es t) (hs:starEach (e :: es) X.env=(false,eval e X.env) :: starEach es X.env:=by rfl):PA X (e :: es) (tCons te t):=by
  intro pos pins s σ H Q I h
  rw [hs]
  show wpAny _ _ (spliced ((false,eval e X.env) :: backTo pos (starEach es X.env))) _ _ s
  refine Calls.spliced_cons (thn (ha pins s σ H _ I h) fun u s1 ⟨x,H1,I1,r1,q1⟩=>?_)
  exact thn (hr pos pins s1 σ H1 _ I1 q1) fun us s2 ⟨xs,H2,I2,r2,q2⟩=>⟨x :: xs,H2,I2,.cons r1 r2,q2⟩
def tLst (t:TA):TE:=fun σ H Q=>t σ H fun xs H1=>xs.length≤sizeLine∧∀p,H1 p=none→Q (.ref p) (upd H1 p (.lst xs))
theorem pe_lst (h:PA X es t):PE X (.List es pos) (tLst t):=by
  intro pins s σ H Q I hq
  refine wpAny_List_spliced (thn (h pos pins s σ H _ I hq) fun us s1 ⟨xs,H1,I1,r,z,q⟩=>⟨by rw [←r.length];exact z,?_⟩)
  have hf:H1 s1.heap.objs.size=none:=I1.hok.fresh (Nat.le_refl _)
  refine ⟨.ref s1.heap.objs.size,upd H1 s1.heap.objs.size (.lst xs),I1.laid (t':=s1.toks) (fun b u e=>Heap.get?_push_of_some _ e) (Nat.le_refl _) ?_,rfl,q _ hf⟩
  exact ⟨z,us,0,r,Heap.get?_push_size _ rfl⟩
end
abbrev Sp:=List V→Hp→VK→XK→Prop
abbrev CXT:=List Env→Hp→Shared→XK→Value→Shared→Prop
structure Env0 (P:Program) (w:World) (K:PySem.W.Frag) (mg:Str→Option Value) (base:Heap) (A:Around) (outer:List Env) (s:Shared) (H:Hp):Prop where
  frames:A.frames=some outer
  mod:Mod K mg base
  bs:∀b o,base.get? b=some o→s.heap.get? b=some o∧H b=none
  bsz:base.objs.size≤s.heap.objs.size
  funs:s.heap.FunFrames base outer
  frf:∀b∈frs outer,H b=none
  hok:HOk P w H s.heap
  bare:AllBare s.gens
def CE (outer:List Env) (P:Program) (w:World) (H:Hp) (s:Shared) (Q:VK) (u:Value) (s':Shared):Prop:=
  Ex2 fun v H'=>s'.os=s.os∧AllBare s'.gens∧Un (frs outer) [] H H' s.heap s'.heap∧HOk P w H' s'.heap∧RelV v u∧Q v H'
def CR (CX:CXT) (outer:List Env) (P:Program) (w:World) (H:Hp) (s:Shared) (Q:VK) (E:XK) (r:Result) (s':Shared):Prop:=
  match r with
  | .ok (.ret u)=>CE outer P w H s Q u s'
  | .ok _=>False
  | .error e=>CX outer H s E e s'
structure FnOk (P:Program) (w:World) (K:PySem.W.Frag) (mg:Str→Option Value) (base:Heap) (CX:CXT) (k:Nat) (f:Addr) (fd:FuncData) (ps:List Str) (sp:Sp):Prop where
  len:∀vs H Q E,sp vs H Q E→vs.length=ps.length
  run:∀(A:Around) (outer:List Env) (s:Shared) (H:Hp) (args:Args) (us:List Value) (vs:List V) (Q:VK) (E:XK),Room k A→Env0 P w K mg base A outer s H→BindsTo s fd args (ps.zip us)→Vals vs us→sp vs H Q E→
    codeAny (model P w) A (.call (.ref f) args) (CR CX outer P w H s Q E) s
theorem Env0.make {P:Program}{w:World}{K:PySem.W.Frag}{mg:Str→Option Value}{base:Heap}{A:Around}{outer:List Env}{s:Shared}{H:Hp} (e:Env0 P w K mg base A outer s H) (C:Addr) (us:List Value) (kw:List (Str×Value)) :
    Env0 P w K mg base (A.under (.builtin "type.__call__" ⟨.ref C :: us,kw⟩)) outer s H:=⟨by first | exact e.frames | (simpa [Around.under,Code.envs,Code.isFrame,pushEnvs] using e.frames),e.mod,e.bs,e.bsz,e.funs,e.frf,e.hok,e.bare⟩
section
variable {X:Cx}{pins:List (Addr×Obj)}{σ:St}{H:Hp}{s s':Shared}
theorem Inv.env0 (I:Inv X pins σ H s):Env0 X.prog X.w X.K X.mg X.base X.A X.stack s H:=
  ⟨I.ok.frames,I.ok.mod,I.bs,Nat.le_trans I.ok.bsz I.sz,I.stack,I.stkFree,I.hok,I.bare⟩
theorem Inv.after {Q:VK}{u:Value} (I:Inv X pins σ H s) (h:CE X.stack X.prog X.w H s Q u s'):EP X pins σ Q u s':=by
  obtain ⟨v,H',os,bare,un,hok,r,q⟩:=h
  obtain ⟨hh,g,d,t,os'⟩:=s'
  obtain rfl:os'=s.os:=os
  exact ⟨v,H',I.call (h':=hh) (g':=g) (d':=d) (t':=t) (ch:=[]) un hok bare (fun b z=>absurd z (by simp)),r,q⟩
end
def tCall (sp:Sp) (dvs:List V) (E:XK) (t:TA):TE:=fun σ H Q=>t σ H fun vs H1=>sp (vs++dvs) H1 Q E
def Binds (K:PySem.W.Frag) (fd:FuncData) (ps:List Str) (ds:List Value):Prop:=
  ∀(s:Shared) (us:List Value),K.In s.heap→(us++ds).length=ps.length→BindsTo s fd ⟨us,[]⟩ (ps.zip (us++ds))
theorem Binds.all {K:PySem.W.Frag}{fd:FuncData}{ps:List Str} (h:∀us:List Value,us.length=ps.length→bindArgs fd ⟨us,[]⟩=pure (ps.zip us)):Binds K fd ps []:=fun s us _ hl=>by
  rw [List.append_nil] at hl ⊢
  exact .of_eq (h us hl)
def Passes (CX:CXT) (X:Cx) (E:XK):Prop:=∀(pins:List (Addr×Obj)) (σ:St) (H:Hp) (s:Shared) (e:Value) (s':Shared),Inv X pins σ H s→CX X.stack H s E e s'→X.xe e s'
section
variable {X:Cx}{CX:CXT}{k:Nat}{f C:Addr}{fd:FuncData}{ps:List Str}{sp:Sp}{dvs:List V}{ds:List Value}{E:XK}{x m:Str}{p pos apos:Pos}{e o:Expr}{es:List Expr}{ta:TE}{t:TA}
theorem run_fn {pins:List (Addr×Obj)}{σ:St}{H:Hp}{s:Shared}{Q:VK}{us:List Value}{vs:List V} (F:FnOk X.prog X.w X.K X.mg X.base CX k f fd ps sp) (hr:Room k X.A) (hb:Binds X.K fd ps ds) (hd:Vals dvs ds) (hx:Passes CX X E)
    (I:Inv X pins σ H s) (r:Vals vs us) (h:sp (vs++dvs) H Q E):wpAny (model X.prog X.w) X.A (call (.ref f) us) (EP X pins σ Q) X.xe s:=by
  have r2:Vals (vs++dvs) (us++ds):=r.append hd
  have hl:(us++ds).length=ps.length:=by rw [←r2.length];exact F.len _ _ _ _ h
  refine wpAny_call (codeAny_mono (F.run X.A X.stack s H ⟨us,[]⟩ (us++ds) (vs++dvs) Q E hr I.env0 (hb s us I.kIn hl) r2 h) fun r s' hq=>?_)
  cases r with
  | error e=>exact hx pins σ H s e s' I hq
  | ok fl=>
    cases fl with
    | ret u=>exact I.after hq
    | next=>exact False.elim hq
    | brk=>exact False.elim hq
    | cont=>exact False.elim hq
theorem pe_call (F:FnOk X.prog X.w X.K X.mg X.base CX k f fd ps sp) (hr:Room k X.A) (hg:Gl X x) (hm:X.mg x=some (.ref f)) (hk:PySem.W.keepIn X.K (.ref f)=true) (hb:Binds X.K fd ps ds) (hd:Vals dvs ds) (hx:Passes CX X E)
    (ha:PA X (e :: es) t) (hdb:(x==("__debug__" : Str))=false:=by decide) (he:starEach (e :: es) X.env=(false,eval e X.env) :: starEach es X.env:=by rfl) (hpl:(backTo pos (starEach es X.env)).any (·.1)=false:=by rfl) :
    PE X (.Call (.Name x p) (e :: es) [] pos) (tCall sp dvs E t):=by
  intro pins s σ H Q I h
  refine wpAny_Call_Name_kw (ld_glob I hg hm ?_ hdb)
  refine PySem.W.callWith_K (h₀:=X.base) I.ok.mod.kin hk (thn (ha pos pins s σ H _ I h) fun us s1 ⟨vs,H1,I1,r,q⟩=>⟨I1.kIn,?_⟩) he hpl
  exact run_fn F hr hb hd hx I1 r q
end
section
variable {X:Cx}{CX:CXT}{k:Nat}{f C:Addr}{fd:FuncData}{ps ks:List Str}{sp:Sp}{E:XK}{x m:Str}{p pos apos kpos:Pos}{e o:Expr}{es:List Expr}{kws:List Keyword}{te ta:TE}{t tk:TA}{nm:Option Str}
variable {g:List Value→List Value→List Value}{gV:List V→List V→List V}
end
structure FnScope (N P:List Str) (sc:Scope):Prop where
  kind:sc.kind=.function
  co:sc.isCoroutine=false
  gen:sc.isGenerator=false
  nd:N.Nodup
  pre:N.take P.length=P
  par:∀x∈P,sc.names.lookup x=some .local∨sc.names.lookup x=some .cell
  nofree:∀y∈sc.names,y.2≠.free
theorem bindL_out {kindOf:Str→Option NameKind}{x:Str}:∀{binds:List (Str×Value)}{m:Str→Option Value},(∀v,(x,v)∉binds)→bindL kindOf binds m x=m x
  | [],_,_=>rfl
  | (n,v) :: r,m,h=>by
    unfold bindL
    rw [bindL_out fun w hw=>h w (List.mem_cons_of_mem _ hw)]
    split
    · have:x≠n:=by rintro rfl;exact h v List.mem_cons_self
      simp [this]
    · rfl
theorem bindC_out {kindOf:Str→Option NameKind}{x:Str}:∀{binds:List (Str×Value)}{m:Str→Option Value},(∀v,(x,v)∉binds)→bindC kindOf binds m x=m x
  | [],_,_=>rfl
  | (n,v) :: r,m,h=>by
    unfold bindC
    rw [bindC_out fun w hw=>h w (List.mem_cons_of_mem _ hw)]
    split
    · rfl
    · have:x≠n:=by rintro rfl;exact h v List.mem_cons_self
      simp [this]
theorem bindL_get {kindOf:Str→Option NameKind}{x:Str}{v:Value}:∀{P:List Str}{vs:List Value}{i:Nat}{m:Str→Option Value},P.Nodup→P[i]?=some x→vs[i]?=some v→kindOf x=some .local→
    bindL kindOf (P.zip vs) m x=some v
  | [],_,_,_,_,h,_,_=>by simp at h
  | _ :: _,[],_,_,_,_,h,_=>by simp at h
  | p :: P,w :: vs,0,m,nd,h1,h2,hk=>by
    simp at h1 h2;subst h1;subst h2
    show bindL kindOf ((p,w) :: P.zip vs) m p=_
    unfold bindL
    rw [bindL_out fun v hv=>(List.nodup_cons.mp nd).1 (List.of_mem_zip hv).1,if_pos hk]
    simp
  | p :: P,w :: vs,i+1,m,nd,h1,h2,hk=>by
    show bindL kindOf ((p,w) :: P.zip vs) m x=_
    unfold bindL
    exact bindL_get (i:=i) (List.nodup_cons.mp nd).2 (by simpa using h1) (by simpa using h2) hk
theorem bindC_get {kindOf:Str→Option NameKind}{x:Str}{v:Value}:∀{P:List Str}{vs:List Value}{i:Nat}{m:Str→Option Value},P.Nodup→P[i]?=some x→vs[i]?=some v→kindOf x≠some .local→
    bindC kindOf (P.zip vs) m x=some v
  | [],_,_,_,_,h,_,_=>by simp at h
  | _ :: _,[],_,_,_,_,h,_=>by simp at h
  | p :: P,w :: vs,0,m,nd,h1,h2,hk=>by
    simp at h1 h2;subst h1;subst h2
    show bindC kindOf ((p,w) :: P.zip vs) m p=_
    unfold bindC
    rw [bindC_out fun v hv=>(List.nodup_cons.mp nd).1 (List.of_mem_zip hv).1,if_neg hk]
    simp
  | p :: P,w :: vs,i+1,m,nd,h1,h2,hk=>by
    show bindC kindOf ((p,w) :: P.zip vs) m x=_
    unfold bindC
    exact bindC_get (i:=i) (List.nodup_cons.mp nd).2 (by simpa using h1) (by simpa using h2) hk
def start (N:List Str) (vs:List V):St:=vs.map some++List.replicate (N.length - vs.length) none
def cxOf (CX:CXT) (P:Program) (w:World) (K:PySem.W.Frag) (mg:Str→Option Value) (base:Heap) (N:List Str) (qual:Str) (scope:Scope) (f:Addr) (cd:Value) (A:Around) (outer:List Env) (s:Shared) (H:Hp) (E:XK):Cx where
  prog:=P
  w:=w
  K:=K
  mg:=mg
  base:=base
  A:=A.deeper (envOfC qual scope s.heap.objs.size f cd)
  N:=N
  s₀:=s
  H₀:=H
  env:=envOfC qual scope s.heap.objs.size f cd
  outer:=outer
  stack:=envOfC qual scope s.heap.objs.size f cd :: outer
  ex:=[]
  calm:=true
  fn:=fun _=>true
  pn:=[]
  xe:=fun e s'=>wpAny (model P w) (A.deeper (envOfC qual scope s.heap.objs.size f cd)) (leaving (envOfC qual scope s.heap.objs.size f cd) e) (fun _ s''=>CX outer H s E e s'') (fun e' s''=>CX outer H s E e' s'') s'
theorem cell_has {sc:Scope}{n:Nat}{x:Str} (h:sc.names.lookup x=some .cell):∃c,(cellsFrom n sc.names []).lookup x=some c:=by
  have q:=PySem.W.cellsFrom_some sc.names n [] (.inl h)
  exact Option.isSome_iff_exists.mp q
theorem inv_start {CX:CXT}{P:Program}{w:World}{K:PySem.W.Frag}{mg:Str→Option Value}{base:Heap}{N ps:List Str}{qual:Str}{scope:Scope}{f:Addr}{cd:Value}{A:Around}{outer:List Env}{s s1:Shared}{H:Hp}{E:XK}{us:List Value}{vs:List V}
    (S:FnScope N ps scope) (hd:A.handled=none) (e0:Env0 P w K mg base A outer s H) (hl:vs.length=ps.length) (r:Vals vs us)
    (x:InCallC s s.heap.objs.size (bindL (envOfC qual scope s.heap.objs.size f cd).kindOf (ps.zip us) fun _=>none) (cellsFrom (s.heap.objs.size+1) scope.names []) (bindC (envOfC qual scope s.heap.objs.size f cd).kindOf (ps.zip us) fun _=>none) s1) :
    Inv (cxOf CX P w K mg base N qual scope f cd A outer s H E) [] (start N vs) H s1:=by
  have hpl:ps.length≤N.length:=by have:=congrArg List.length S.pre;rw [List.length_take] at this;trivial
  obtain ⟨h1,tk,rfl,hk⟩:=x.done
  have noA:∀b:Addr,b∉(cxOf CX P w K mg base N qual scope f cd A outer s H E).ex:=fun b z=>absurd (show b∈([]:List Addr) from z) (by simp)
  refine ⟨⟨e0.mod,S.kind,rfl,rfl,Nat.le_refl _,fun y z c h1 h2=>?_,fun y hy=>?_,fun y c _ h=>?_,fun _=>hd,Around.frames_deeper e0.frames,.inr ⟨rfl,rfl⟩,fun b z=>absurd z (noA b),e0.bs,e0.bsz,fun b _ _=>noA b,fun b z=>absurd z (noA b),e0.funs,e0.frf⟩,
    rfl,e0.bare,Un.kept hk,⟨_,x.toInCall.ns,fun i y v h1 h2 h3=>?_⟩,fun y c h=>⟨_,x.cell y c h⟩,e0.hok.fresh (Nat.le_refl _),fun y c h=>?_,fun p hp=>absurd (show p∈([]:List (Addr×Obj)) from hp) (by simp),e0.hok.kept hk,?_⟩
  · exact name_of_addr x.apart (PySem.mem_of_lookup h1) (PySem.mem_of_lookup h2)
  · have hy:scope.names.lookup y=some .cell∨scope.names.lookup y=some .free:=hy
    rcases hy with hy | hy
    · exact cell_has hy
    · exact absurd rfl (S.nofree _ (PySem.mem_of_lookup hy))
  · exact Nat.le_of_lt (x.above y c (PySem.mem_of_lookup h))
  · have hi:i<vs.length:=by
      unfold start at h2
      by_cases hi:i<vs.length
      · exact hi
      · rw [List.getElem?_append_right (by simpa using hi)] at h2
        rw [List.getElem?_replicate] at h2
        split at h2 <;> cases h2
    have ha:vs[i]?=some v:=by
      unfold start at h2
      rw [List.getElem?_append_left (by simpa using hi),List.getElem?_map] at h2
      cases e:vs[i]? with
      | none=>rw [e] at h2;cases h2
      | some a=>rw [e] at h2;cases h2;rfl
    obtain ⟨u,hu,rv⟩:=r.get ha
    have hp:ps[i]?=some y:=by
      rw [←S.pre,List.getElem?_take_of_lt (by trivial)];exact h1
    have ndP:ps.Nodup:=by rw [←S.pre];exact S.nd.sublist (List.take_sublist _ _)
    refine ⟨u,rv,?_⟩
    rcases S.par y (List.mem_of_getElem? hp) with k | k
    · exact .inl ⟨k,bindL_get ndP hp hu k⟩
    · obtain ⟨c,e⟩:=cell_has (n:=s.heap.objs.size+1) k
      refine .inr ⟨.inl k,c,e,?_⟩
      have q:=x.cell y c e
      rw [bindC_get ndP hp hu (by show scope.names.lookup y≠_;rw [k];decide)] at q
      exact q
  · exact e0.hok.fresh (Nat.le_of_lt (x.above y c (PySem.mem_of_lookup h)))
  · unfold start
    show _=N.length
    rw [List.length_append,List.length_map,List.length_replicate]
    trivial
theorem fn_of {CX:CXT}{P:Program}{w:World}{K:PySem.W.Frag}{mg:Str→Option Value}{base:Heap}{k:Nat}{f:Addr}{name qual:Str}{params:Arguments}{body:List Stmt}{scope:Scope}{dV kV doc pm cdv ct oc:Value}{an od:Option Addr}
    {osl:Array (Option Value)}{N ps:List Str}{sp:Sp} (lk:K.lookup f=some ⟨oc,od,.func (PySem.W.fnOf name qual params body scope dV kV doc pm an cdv ct),osl⟩) (hcd:PySem.W.codeIn K cdv qual=true) (S:FnScope N ps scope)
    (len:∀vs H Q E,sp vs H Q E→vs.length=ps.length)
    (hbody:∀(A:Around) (outer:List Env) (s:Shared) (H:Hp) (vs:List V) (Q:VK) (E:XK),Room k (A.deeper (envOfC qual scope s.heap.objs.size f cdv))→sp vs H Q E→
      ∃t,PSs (cxOf CX P w K mg base N qual scope f cdv A outer s H E) body t∧t { nx:=fun _ H'=>Q .non H',rt:=Q } (start N vs) H) :
    FnOk P w K mg base CX (k+1) f (PySem.W.fnOf name qual params body scope dV kV doc pm an cdv ct) ps sp:=by
  refine ⟨len,fun A outer s H args us vs Q E hr e0 hb r hsp=>?_⟩
  have hl:=len _ _ _ _ hsp
  have KX:K.In s.heap:=e0.mod.kin.keeps fun b o e=>(e0.bs b o e).1
  have lim:s.heap.NoLimit:=e0.mod.nolimit.keeps fun b o e=>(e0.bs b o e).1
  have hkind:∀y∈ps.zip us,scope.names.lookup y.1=some .local∨(scope.names.lookup y.1=some .cell∧((cellsFrom (s.heap.objs.size+1) scope.names []).lookup y.1).isSome=true):=fun ⟨n,v⟩ hy=>by
    rcases S.par n (List.of_mem_zip hy).1 with q | q
    · exact .inl q
    · exact .inr ⟨q,PySem.W.cellsFrom_some _ _ _ (.inl q)⟩
  refine codeAny_call_function hr.depth (KX _ _ lk) rfl S.co S.gen rfl (PySem.W.codeRec_of KX hcd) (hb _ _ _ _ ?_)
  refine wpAny_newFunctionEnv_cells S.kind hkind fun env he s1 x=>?_
  subst he
  refine ⟨lim.keeps x.toInCall.keep,codeAny_func ?_⟩
  obtain ⟨t,ht,hq⟩:=hbody A outer s H vs Q E (hr.deeper _) hsp
  have I:Inv (cxOf CX P w K mg base N qual scope f cdv A outer s H E) [] (start N vs) H s1:=inv_start S hr.hd e0 hl r x
  refine wpAny_mono (ht [] s1 (start N vs) H _ I hq) (fun fl s' hs=>?_) fun e s' hs=>hs
  have fin:∀{σ':St}{H':Hp}{v:V}{u:Value},Inv (cxOf CX P w K mg base N qual scope f cdv A outer s H E) [] σ' H' s'→RelV v u→Q v H'→CE outer P w H s Q u s':=
    fun {σ' H' v u} J rv q=>⟨v,H',J.os,J.bare,J.base,J.hok,rv,q⟩
  cases fl with
  | ret u=>
    obtain ⟨v,σ',H',J,rv,q⟩:=hs
    exact fin J rv q
  | next=>
    obtain ⟨σ',H',J,q⟩:=hs
    exact fin (v:=V.non) (u:=Value.none) J rfl q
  | brk=>
    obtain ⟨_,_,_,q⟩:=hs
    exact False.elim q
  | cont=>
    obtain ⟨_,_,_,q⟩:=hs
    exact False.elim q
end L2
namespace L2
open PySem PySem.Spec PyProof.Rows
section
variable {X:Cx}{x:Str}{p pos:Pos}{e:Expr}{es:List Expr}{t:TA}{id T:String}{r:List V→Hp→VK→Prop}
def tCB (r:List V→Hp→VK→Prop) (t:TA):TE:=fun σ H Q=>t σ H fun vs H1=>r vs H1 Q
theorem pe_callB (hc:CallR X (.builtin id) r) (hg:Gl X x) (hm:X.mg x=none) (hv:bootBuiltins x=some (.builtin id)) (ha:PA X (e :: es) t) (hn:x≠"__name__" := by decide) (hdb:(x==("__debug__" : Str))=false:=by decide)
    (he:starEach (e :: es) X.env=(false,eval e X.env) :: starEach es X.env:=by rfl) (hpl:(backTo pos (starEach es X.env)).any (·.1)=false:=by rfl):PE X (.Call (.Name x p) (e :: es) [] pos) (tCB r t):=by
  intro pins s σ H Q I h
  refine wpAny_Call_Name_kw (ld_blt I hg hm hv ?_ hn hdb)
  exact PyProof.Rows.callWith_builtin1 (thn (ha pos pins s σ H _ I h) fun us s1 ⟨vs,H1,I1,r1,q1⟩=>hc pins s1 σ H1 vs us Q I1 r1 q1) he hpl
theorem pe_callTy (hc:CallR X (.type T) r) (hg:Gl X x) (hm:X.mg x=none) (hv:bootBuiltins x=some (.type T)) (ha:PA X (e :: es) t) (hn:x≠"__name__" := by decide) (hdb:(x==("__debug__" : Str))=false:=by decide)
    (he:starEach (e :: es) X.env=(false,eval e X.env) :: starEach es X.env:=by rfl) (hpl:(backTo pos (starEach es X.env)).any (·.1)=false:=by rfl):PE X (.Call (.Name x p) (e :: es) [] pos) (tCB r t):=by
  intro pins s σ H Q I h
  refine wpAny_Call_Name_kw (ld_blt I hg hm hv ?_ hn hdb)
  exact PyProof.Rows.callWith_type1 (thn (ha pos pins s σ H _ I h) fun us s1 ⟨vs,H1,I1,r1,q1⟩=>hc pins s1 σ H1 vs us Q I1 r1 q1) he hpl
end
end L2
namespace HT
open PySem PyProof.Rows
section
open PySem.SeqAt
open PySem.AutoSeq1 (wpAny_loadPart')
open PySem.MeetsSeq PySem.MeetsSeq2 PySem.MeetsSeq3
end
section
variable {prog:Program}{w:World}{A:Around}{E:Value→Shared→Prop}{s:Shared}
def sIx (n d:Nat):Option Int→Nat
  | none=>d
  | some v=>if v<0 then (v+(n:Int)).toNat else min v.toNat n
theorem sIx_none (n d:Nat):sIx n d none=d:=rfl
theorem sIx_nat (n d k:Nat):sIx n d (some (k:Int))=min k n:=by
  show (if (k:Int)<0 then ((k:Int)+(n:Int)).toNat else min (k:Int).toNat n)=min k n
  rw [if_neg (by trivial),Int.toNat_natCast]
end
end HT
namespace L2
open PySem PySem.Spec PyProof.Rows
abbrev TO:=St→Hp→(Option Int→Hp→Prop)→Prop
def PO (X:Cx) (e:Option Expr) (t:TO):Prop:=
  ∀(pins:List (Addr×Obj)) (s:Shared) (σ:St) (H:Hp) (Q:Option Int→Hp→Prop),Inv X pins σ H s→t σ H Q→
    wpAny (model X.prog X.w) X.A (evalPart e X.env) (fun u s'=>Ex2 fun o H'=>Inv X pins σ H' s'∧IsPart u o∧Q o H') X.xe s
def tNoPart:TO:=fun _ H Q=>Q none H
def tPart (t:TE):TO:=fun σ H Q=>t σ H fun x H1=>IsIn x fun i=>Q (some i) H1
section
variable {X:Cx}{e:Expr}{te:TE}{lo hi:Option Expr}{tl th:TO}{pos p2:Pos}
theorem po_none:PO X none tNoPart:=by
  intro pins s σ H Q I h
  rw [evalPart_none]
  exact wpAny_pure ⟨none,H,I,.none,h⟩
theorem po_some (h:PE X e te):PO X (some e) (tPart te):=by
  intro pins s σ H Q I hw
  rw [evalPart_some]
  refine thn (h pins s σ H _ I hw) fun u s1 ⟨x,H1,I1,r1,q1⟩=>?_
  obtain ⟨i,rfl,q⟩:=q1
  obtain ⟨t,rfl⟩:=r1
  exact ⟨some i,H1,I1,.int i t,q⟩
def SlR (X:Cx) (r:V→Option Int→Option Int→Hp→VK→Prop):Prop:=
  ∀(pins:List (Addr×Obj)) (s:Shared) (σ:St) (H:Hp) (x:V) (v vl vu:Value) (lo hi:Option Int) (sl:Addr) (Q:VK),Inv X pins σ H s→RelV x v→s.heap.IsSliceOf sl vl vu .none→IsPart vl lo→IsPart vu hi→r x lo hi H Q→
    Ex2 fun T id=>typeLookup (.type T) "__getitem__" = pure (some (.builtin id))∧s.TypeIs v T∧wpAny (model X.prog X.w) X.A (getItem v (.ref sl)) (EP X pins σ Q) X.xe s
def tSl (r:V→Option Int→Option Int→Hp→VK→Prop) (te:TE) (tl th:TO):TE:=fun σ H Q=>te σ H fun x H1=>tl σ H1 fun l H2=>th σ H2 fun u H3=>r x l u H3 Q
theorem pe_slice {r:V→Option Int→Option Int→Hp→VK→Prop} (hr:SlR X r) (he:PE X e te) (hl:PO X lo tl) (hu:PO X hi th):PE X (.Subscript e (.Slice lo hi none p2) pos) (tSl r te tl th):=by
  intro pins s σ H Q I h
  refine Subscript_ (thn (he pins s σ H _ I h) fun v s1 ⟨x,H1,I1,r1,q1⟩=>?_)
  refine wpAny_Slice (thn (hl pins s1 σ H1 _ I1 q1) fun vl s2 ⟨l,H2,I2,pl,q2⟩=>thn (hu pins s2 σ H2 _ I2 q2) fun vu s3 ⟨u,H3,I3,pu,q3⟩=>?_)
  rw [evalPart_none]
  refine wpAny_pure ?_
  have I4:Inv X pins σ H3 { s3 with heap:=s3.heap.push { cls:=.type "slice",data:=.fields #[vl,vu,.none] } }:=I3.kept (t':=s3.toks) fun b ob q=>Heap.get?_push_of_some _ q
  obtain ⟨T,id,hT,ht,hg⟩:=hr pins { s3 with heap:=s3.heap.push { cls:=.type "slice",data:=.fields #[vl,vu,.none] } } σ H3 x v vl vu l u s3.heap.objs.size Q I4 r1 (Heap.IsSliceOf.new ..) pl pu q3
  show wpAny (model X.prog X.w) X.A (subscriptTail e (.Slice lo hi none p2) v (.ref s3.heap.objs.size)) (EP X pins σ Q) X.xe { s3 with heap:=s3.heap.push { cls:=.type "slice",data:=.fields #[vl,vu,.none] } }
  exact tail_any (ops:=[.ref s3.heap.objs.size,v]) ht hT hg (by with_unfolding_all rfl)
def cutV (xs:List V) (lo hi:Option Int):List V:=(xs.drop (HT.sIx xs.length 0 lo)).take (HT.sIx xs.length xs.length hi - HT.sIx xs.length 0 lo)
theorem cutV_length (xs:List V) (lo hi:Option Int):(cutV xs lo hi).length≤xs.length:=by
  unfold cutV
  rw [List.length_take,List.length_drop]
  trivial
end
end L2
namespace L2
open PySem PySem.Spec PyProof.Rows
def ixN (n:Nat) (i:Int):Option Nat:=if 0≤i then (if i<n then some i.toNat else none) else if -(n:Int)≤i then some (i+n).toNat else none
def atI {α:Type} (xs:List α) (i:Int):Option α:=(ixN xs.length i).bind fun j=>xs[j]?
theorem ixN_seq {n:Nat}{i:Int}{j:Nat} (h:ixN n i=some j):seqIndex? i n=some j∧j<n∧-(n:Int)≤i∧i<n:=by
  unfold ixN at h
  by_cases h0:0≤i
  · rw [if_pos h0] at h
    by_cases h1:i<n
    · rw [if_pos h1] at h
      have e:i.toNat=j:=Option.some.inj h
      exact ⟨by rw [seqIndex_of h0 h1,e],by trivial,by trivial,h1⟩
    · rw [if_neg h1] at h;cases h
  · rw [if_neg h0] at h
    by_cases h1:-(n:Int)≤i
    · rw [if_pos h1] at h
      have e:(i+n).toNat=j:=Option.some.inj h
      exact ⟨by rw [seqIndex_neg (by trivial) h1,e],by trivial,h1,by trivial⟩
    · rw [if_neg h1] at h;cases h
theorem atI_get {α:Type}{xs:List α}{i:Int}{v:α} (h:atI xs i=some v):∃j,seqIndex? i xs.length=some j∧xs[j]?=some v∧j<xs.length∧-(xs.length:Int)≤i∧i<xs.length:=by
  unfold atI at h
  cases e:ixN xs.length i with
  | none=>rw [e] at h;cases h
  | some j=>
    rw [e] at h
    obtain ⟨h1,h2,h3,h4⟩:=ixN_seq e
    exact ⟨j,h1,h,h2,h3,h4⟩
theorem atI_nat {α:Type}{xs:List α}{j:Nat}{v:α} (h:xs[j]?=some v):atI xs (j:Int)=some v:=by
  have hj:j<xs.length:=(List.getElem?_eq_some_iff.mp h).1
  have e:ixN xs.length (j:Int)=some j:=by
    unfold ixN
    rw [if_pos (by trivial),if_pos (by trivial)];simp
  unfold atI;rw [e];exact h
def PlainIx (b:Expr):Prop:=∀o i,subscripted b false o i=operate [o,i] (getItem o i)
def IxR (X:Cx) (r:R2):Prop:=
  ∀(value slice:Expr) (pins:List (Addr×Obj)) (s:Shared) (σ:St) (H:Hp) (x y:V) (v u:Value) (Q:VK),Inv X pins σ H s→RelV x v→RelV y u→r x y H Q→
    subscripted slice false v u=operate [v,u] (getItem v u)→wpAny (model X.prog X.w) X.A (subscriptTail value slice v u) (EP X pins σ Q) X.xe s
def MtR (X:Cx) (id:String) (r:V→List V→Hp→VK→Prop):Prop:=
  ∀(pins:List (Addr×Obj)) (s:Shared) (σ:St) (H:Hp) (x:V) (xs:List V) (v:Value) (us:List Value) (Q:VK),Inv X pins σ H s→RelV x v→Vals xs us→r x xs H Q→
    wpAny (model X.prog X.w) X.A (call (.builtin id) (v :: us)) (EP X pins σ Q) X.xe s
section
variable {X:Cx}{a b:Expr}{ta tb:TE}{pos:Pos}
theorem IxR.or {r r':R2} (h:IxR X r) (h':IxR X r'):IxR X (fun x y H Q=>r x y H Q∨r' x y H Q):=by
  intro value slice pins s σ H x y v u Q I rx ry q hs
  rcases q with q | q
  · exact h value slice pins s σ H x y v u Q I rx ry q hs
  · exact h' value slice pins s σ H x y v u Q I rx ry q hs
theorem pe_ix {r:R2} (hr:IxR X r) (ha:PE X a ta) (hb:PE X b tb) (hs:PlainIx b):PE X (.Subscript a b pos) (tOp r ta tb):=by
  intro pins s σ H Q I h
  exact Subscript_ (binT ha hb I h fun v u s2 x y H2 I2 rx ry q=>hr a b pins s2 σ H2 x y v u Q I2 rx ry q (hs _ _))
inductive rIxL_ (K:PySem.W.Frag) (x:V) (y:V) (H:Hp) (Q:VK):Prop
  | mk (p:_) (xs:_) (i:_) (v:_) (h0:x=.ref p) (h1:y=.int i) (h2:SqL K H p xs) (h3:atI xs i=some v) (h4:Q v H)
def rIxL (K:PySem.W.Frag):R2:=fun x y H Q=>rIxL_ K x y H Q
inductive rIxT_ (K:PySem.W.Frag) (x:V) (y:V) (H:Hp) (Q:VK):Prop
  | mk (p:_) (xs:_) (i:_) (v:_) (h0:x=.ref p) (h1:y=.int i) (h2:SqT K H p xs) (h3:atI xs i=some v) (h4:Q v H)
def rIxT (K:PySem.W.Frag):R2:=fun x y H Q=>rIxT_ K x y H Q
inductive rIxS_ (x:V) (y:V) (H:Hp) (Q:VK):Prop
  | mk (z:_) (i:_) (c:_) (h0:x=.str z) (h1:y=.int i) (h2:z.length≤sizeLine) (h3:atI z.cps.toList i=some c) (h4:Q (.str ⟨#[c]⟩) H)
def rIxS:R2:=fun x y H Q=>rIxS_  x y H Q
theorem ix_list:IxR X (rIxL X.K):=by
  intro value slice pins s σ H x y v u Q I rx ry h hs
  obtain ⟨p,xs,i,z,rfl,rfl,hq,he,q⟩:=h
  cases rx
  obtain ⟨t,rfl⟩:=ry
  obtain ⟨its,r,pl,hz⟩:=I.list hq
  obtain ⟨j,h1,h2,h3,h4,h5⟩:=atI_get he
  obtain ⟨w,ew,rw'⟩:=r.get h2
  have hl:=r.length
  have hn:=line63
  have fin:EP X pins σ Q w s:=⟨z,H,I,rw',q⟩
  by_cases h0:0≤i
  · have hj:i.toNat=j:=by
      rw [seqIndex_of h0 h5] at h1
      exact Option.some.inj h1
    exact item_listR pl.isList h0 (by trivial) (by rw [hj];simpa using ew) fin hs
  · have hj:(i+(its.toArray.size:Int)).toNat=j:=by
      rw [seqIndex_neg (by trivial) h4] at h1
      rw [List.size_toArray,←hl]
      exact Option.some.inj h1
    exact subscriptTail_builtinR (x:=w) pl.isList.typeIs slot_list_getitem.lookup
      (wpAny_getItem_list_neg (Q:=fun r s'=>r=w∧EP X pins σ Q r s') pl.isList (by trivial) (by rw [List.size_toArray] <;> trivial) (by trivial) (by rw [hj];simpa using ew) ⟨rfl,fin⟩) hs
theorem ix_tup:IxR X (rIxT X.K):=by
  intro value slice pins s σ H x y v u Q I rx ry h hs
  obtain ⟨p,xs,i,z,rfl,rfl,hq,he,q⟩:=h
  cases rx
  obtain ⟨t,rfl⟩:=ry
  obtain ⟨its,r,pl,hz⟩:=I.tuple hq
  obtain ⟨j,h1,h2,h3,h4,h5⟩:=atI_get he
  obtain ⟨w,ew,rw'⟩:=r.get h2
  have hl:=r.length
  have hn:=line63
  have fin:EP X pins σ Q w s:=⟨z,H,I,rw',q⟩
  exact subscriptTail_builtinR (x:=w) pl.typeIs slot_tuple_getitem.lookup
    (getItem_tuple (j:=j) (Q:=fun r s'=>r=w∧EP X pins σ Q r s') pl (by trivial) (by trivial) (by rw [List.size_toArray,←hl];exact h1) (by simpa using ew) ⟨rfl,fin⟩) hs
theorem ix_str:IxR X rIxS:=by
  intro value slice pins s σ H x y v u Q I rx ry h hs
  obtain ⟨z,i,c,rfl,rfl,hz,he,q⟩:=h
  obtain ⟨t,rfl⟩:=rx
  obtain ⟨t',rfl⟩:=ry
  obtain ⟨j,h1,h2,h3,h4,h5⟩:=atI_get he
  have hl:z.cps.toList.length=z.length:=by simp [Str.length]
  rw [hl] at h1 h4 h5
  have hn:=line63
  exact tail_any (typeIs_str s z t) slot_str_getitem.lookup (getItem_str (c:=c) (by
    have e1:decide (i < -(2 ^ 63:Int))=false:=decide_eq_false (by trivial)
    have e2:decide (i≥2 ^ 63)=false:=decide_eq_false (by trivial)
    rw [e1,e2,Bool.or_false]) (by rw [h1];simpa using h2) ⟨.str ⟨#[c]⟩,H,I.tok _,⟨_,rfl⟩,q⟩) hs
def rIx (K:PySem.W.Frag):R2:=fun x y H Q=>rIxL K x y H Q∨rIxT K x y H Q∨rIxS x y H Q
theorem ix_seq:IxR X (rIx X.K):=ix_list.or (ix_tup.or ix_str)
theorem mapSeq_set (its:List Value) (n j:Nat) (u:Value):Obj.mapSeq (·.setIfInBounds j u) { cls:=.type "list",data:=.seq its.toArray n }={ cls:=.type "list",data:=.seq (its.set j u).toArray n }:=by
  simp [Obj.mapSeq]
theorem Inv.lst {pins:List (Addr×Obj)}{σ:St}{H:Hp}{s:Shared}{p:Addr}{xs:List V} (I:Inv X pins σ H s) (h:H p=some (.lst xs)) :
    Ex2 fun (its:List Value) (n:Nat)=>Vals xs its∧s.heap.get? p=some { cls:=.type "list",data:=.seq its.toArray n }∧xs.length≤sizeLine:=by
  obtain ⟨z,its,n,r,e⟩:=I.hok p _ h
  exact ⟨its,n,r,e,z⟩
theorem Inv.lstUpd {pins:List (Addr×Obj)}{σ:St}{H:Hp}{s:Shared}{p:Addr}{xs ys:List V}{its its':List Value}{n n':Nat}{f:Obj→Obj} (I:Inv X pins σ H s) (h:H p=some (.lst xs))
    (ho:s.heap.get? p=some { cls:=.type "list",data:=.seq its.toArray n }) (hf:f { cls:=.type "list",data:=.seq its.toArray n }={ cls:=.type "list",data:=.seq its'.toArray n' }) (r:Vals ys its') (hz:ys.length≤sizeLine) (t:Nat) :
    Inv X pins σ (upd H p (.lst ys)) { s with heap:=s.heap.update p f,toks:=t }:=by
  have e:(s.heap.update p f).get? p=some { cls:=.type "list",data:=.seq its'.toArray n' }:=by
    rw [Heap.get?_update_self f ho (by rw [hf] <;> rfl),hf]
  refine I.write (x:=p) (e:=p) (by rw [h];trivial) (.inl rfl) (fun b u hb q=>(Heap.get?_update_other _ _ (Ne.symm hb)).trans q) ⟨_,e⟩ ?_
  exact ⟨hz,its',n',r,e⟩
inductive rSetL_ (o:V) (i:V) (v:V) (H:Hp) (Q:(Hp→Prop)):Prop
  | mk (p:_) (xs:_) (k:_) (j:_) (h0:o=.ref p) (h1:i=.int k) (h2:H p=some (.lst xs)) (h3:ixN xs.length k=some j) (h4:Q (upd H p (.lst (xs.set j v))))
def rSetL:V→V→V→Hp→(Hp→Prop)→Prop:=fun o i v H Q=>rSetL_  o i v H Q
theorem set_list:PSet X rSetL:=by
  intro pins s σ H o i v ov iv u Q I ro ri rv h
  obtain ⟨p,xs,k,j,rfl,rfl,hp,hj,q⟩:=h
  cases ro
  obtain ⟨t,rfl⟩:=ri
  obtain ⟨its,n,r,ho,hz⟩:=I.lst hp
  obtain ⟨h1,h2,h3,h4⟩:=ixN_seq hj
  have hl:=r.length
  have hn:=line63
  have I':Inv X pins σ (upd H p (.lst (xs.set j v))) { s with heap:=s.heap.update p (Obj.mapSeq (·.setIfInBounds j u)) }:=
    I.lstUpd hp ho (mapSeq_set its n j u) (r.set rv j) (by rw [List.length_set];exact hz) s.toks
  by_cases h0:0≤k
  · have hk:k.toNat=j:=by
      rw [seqIndex_of h0 h4] at h1
      exact Option.some.inj h1
    exact PySem.W.ki_setAt ho h0 (by trivial) (by rw [List.size_toArray,←hl];exact h4) (by rw [hk];exact ⟨_,I',q⟩)
  · have hk:(k+(its.toArray.size:Int)).toNat=j:=by
      rw [seqIndex_neg (by trivial) h3] at h1
      rw [List.size_toArray,←hl]
      exact Option.some.inj h1
    exact PySem.W.ki_setBack ho (by trivial) (by rw [List.size_toArray,←hl];exact h3) (by trivial) (by rw [hk];exact ⟨_,I',q⟩)
theorem slice_bounds (lo hi:Option Int) (n:Nat):(sliceBounds lo hi none n).1=((HT.sIx n 0 lo:Nat):Int)∧(sliceBounds lo hi none n).2.1=((HT.sIx n n hi:Nat):Int)∧(sliceBounds lo hi none n).2.2=1:=by
  refine ⟨?_,?_,rfl⟩
  · cases lo with
    | none=>simp [sliceBounds,HT.sIx]
    | some i=>
      simp only [sliceBounds,HT.sIx,Option.getD_none,show (1:Int) > 0 by decide,if_true]
      by_cases h:i<0
      · simp only [h,if_true] <;> trivial
      · simp only [h,if_false] <;> trivial
  · cases hi with
    | none=>simp [sliceBounds,HT.sIx]
    | some i=>
      simp only [sliceBounds,HT.sIx,Option.getD_none,show (1:Int) > 0 by decide,if_true]
      by_cases h:i<0
      · simp only [h,if_true] <;> trivial
      · simp only [h,if_false] <;> trivial
theorem slicePick_cut (its:List Value) (lo hi:Option Int):slicePick its.toArray lo hi none=((its.drop (HT.sIx its.length 0 lo)).take (HT.sIx its.length its.length hi - HT.sIx its.length 0 lo)).toArray:=by
  obtain ⟨h1,h2,h3⟩:=slice_bounds lo hi its.toArray.size
  unfold slicePick
  rw [h1,h2,h3]
  simp only [sliceRange_one,pick_run,List.size_toArray] <;> rfl
inductive rSlL_ (K:PySem.W.Frag) (x:V) (lo:Option Int) (hi:Option Int) (H:Hp) (Q:VK):Prop
  | mk (a:_) (xs:_) (h0:x=.ref a) (h1:SqL K H a xs) (h2:∀p,H p=none→Q (.ref p) (upd H p (.lst (cutV xs lo hi))))
def rSlL (K:PySem.W.Frag):V→Option Int→Option Int→Hp→VK→Prop:=fun x lo hi H Q=>rSlL_ K x lo hi H Q
theorem sl_list:SlR X (rSlL X.K):=by
  intro pins s σ H x v vl vu lo hi sl Q I rx hs pl pu h
  obtain ⟨a,xs,rfl,hx,q⟩:=h
  cases rx
  obtain ⟨its,r,ht,hz⟩:=I.list hx
  have hlen:=r.length
  refine ⟨"list",_,slot_list_getitem.lookup,ht.isList.typeIs,?_⟩
  refine wpAny_getItem_list_slice ht.isList hs pl pu .none (by simp) ?_ (by rw [List.size_toArray] <;> trivial)
  rw [slicePick_cut,←hlen]
  refine ⟨.ref s.heap.objs.size,_,I.laid (t':=s.toks) (o:=.lst (cutV xs lo hi)) (fun b ob q=>Heap.get?_push_of_some _ q) (Nat.le_refl _) ?_,rfl,q _ (I.hok.fresh (Nat.le_refl _))⟩
  exact ⟨Nat.le_trans (cutV_length xs lo hi) hz,_,0,(r.drop (HT.sIx xs.length 0 lo)).take (HT.sIx xs.length xs.length hi - HT.sIx xs.length 0 lo),Heap.get?_push_size _ rfl⟩
theorem call_len_seq:CallR X (.builtin "len") (fun xs H Q=>Ex2 fun p ys=>xs=[.ref p]∧(SqL X.K H p ys∨SqT X.K H p ys)∧Q (.int ys.length) H):=by
  intro pins s σ H xs us Q I r h
  obtain ⟨p,ys,rfl,hq,q⟩:=h
  obtain ⟨u,rfl,rx⟩:=vals1 r
  cases rx
  have hn:=line63
  rcases hq with hq | hq
  · obtain ⟨its,r',pl,hz⟩:=I.list hq
    have hlen:=r'.length
    exact Calls.call_len_list pl.isList (by simp only [List.size_toArray] <;> trivial) ⟨.int ys.length,H,I.tok _,⟨s.toks+1,by rw [List.size_toArray,hlen]⟩,q⟩
  · obtain ⟨its,r',pl,hz⟩:=I.tuple hq
    have hlen:=r'.length
    exact len_tuple pl (by simp only [List.size_toArray] <;> trivial) ⟨.int ys.length,H,I.tok _,⟨s.toks+1,by rw [List.size_toArray,hlen]⟩,q⟩
theorem call_list_of:CallR X (.type "list") (fun xs H Q=>Ex2 fun p ys=>xs=[.ref p]∧(SqL X.K H p ys∨SqT X.K H p ys)∧∀l,H l=none→Q (.ref l) (upd H l (.lst ys))):=by
  intro pins s σ H xs us Q I r h
  obtain ⟨p,ys,rfl,hq,q⟩:=h
  obtain ⟨u,rfl,rx⟩:=vals1 r
  cases rx
  have fin:∀(its:List Value),Vals ys its→ys.length≤sizeLine→∀(h':Heap) (c':Nat),(∀b o',s.heap.get? b=some o'→h'.get? b=some o')→
      h'.get? s.heap.objs.size=some { cls:=.type "list",dict:=none,data:=.seq its.toArray c',slots:=#[] }→EP X pins σ Q (.ref s.heap.objs.size) { s with heap:=h' }:=fun its r' hz h' c' kp e=>
    ⟨.ref s.heap.objs.size,_,I.laid (t':=s.toks) kp (Nat.le_refl _) (show ObjOk X.prog X.w _ h' _ (.lst ys) from ⟨hz,its,c',r',e⟩),rfl,q _ (I.hok.fresh (Nat.le_refl _))⟩
  rcases hq with hq | hq
  · obtain ⟨its,r',pl,hz⟩:=I.list hq
    have hlen:=r'.length
    obtain ⟨o,ho,hc,n,hd⟩:=pl.isList
    exact call_list_seq p (.inl rfl) ho hc hd (fun h' c' kp e=>fin its r' hz h' c' kp e) (by simp only [List.size_toArray] <;> trivial)
  · obtain ⟨its,r',pl,hz⟩:=I.tuple hq
    have hlen:=r'.length
    obtain ⟨o,ho,hc,n,hd⟩:=pl
    exact call_list_seq p (.inr rfl) ho hc hd (fun h' c' kp e=>fin its r' hz h' c' kp e) (by simp only [List.size_toArray] <;> trivial)
def tyV (K:PySem.W.Frag) (T:String) (x:V) (H:Hp):Prop:=match x with
  | .str _=>T = "str"
  | .int _=>T = "int"
  | .ref p=>(T = "list"∧∃xs,SqL K H p xs)∨(T = "tuple"∧∃o,K.lookup p=some o∧o.cls=.type "tuple"∧o.dict=none)∨
      (T = "dict"∧((∃kvs,H p=some (.dK kvs))∨∃kvs,H p=some (.dT kvs)))∨(T = "set"∧Ex2 fun S n=>H p=some (.set S n))
  | _=>False
theorem tyV_is {pins:List (Addr×Obj)}{σ:St}{H:Hp}{s:Shared}{T:String}{x:V}{v:Value} (I:Inv X pins σ H s) (r:RelV x v) (ty:tyV X.K T x H) :
    s.TypeIs v T∧∀a,v=.ref a→∃ob,s.heap.get? a=some ob∧ob.dict=none:=by
  cases x with
  | str z=>
    obtain ⟨t,rfl⟩:=r
    cases (show T = "str" from ty)
    exact ⟨typeIs_str s z t,fun _ e=>nomatch e⟩
  | int i=>
    obtain ⟨t,rfl⟩:=r
    cases (show T = "int" from ty)
    exact ⟨typeIs_int s i t,fun _ e=>nomatch e⟩
  | ref p=>
    cases r
    rcases ty with ⟨rfl,xs,hq⟩ | ⟨rfl,o,hk,hc,hd⟩ | ⟨rfl,hk⟩ | ⟨rfl,S,n,hk⟩
    · obtain ⟨its,_,pl,_⟩:=I.list hq
      refine ⟨pl.isList.typeIs,fun a e=>?_⟩
      cases e
      obtain ⟨o,n,e,c,hd,_⟩:=pl
      exact ⟨o,e,hd⟩
    · refine ⟨⟨o,I.kIn p o hk,hc⟩,fun a e=>?_⟩
      cases e
      exact ⟨o,I.kIn _ o hk,hd⟩
    · have z:∃o,s.heap.get? p=some o∧o.ExactDict:=by
        rcases hk with ⟨kvs,hk⟩ | ⟨kvs,hk⟩
        · obtain ⟨_,_,_,_,o,_,_,e,ex,_⟩:=I.hok p _ hk
          exact ⟨o,e,ex⟩
        · obtain ⟨_,_,_,_,o,_,_,e,ex,_⟩:=I.hok p _ hk
          exact ⟨o,e,ex⟩
      obtain ⟨o,e,ex⟩:=z
      refine ⟨⟨o,e,ex.1⟩,fun a e2=>?_⟩
      cases e2
      exact ⟨o,e,ex.2.1⟩
    · obtain ⟨o,_,_,_,e,ex,_⟩:=I.hok p _ hk
      refine ⟨⟨o,e,ex.1⟩,fun a e2=>?_⟩
      cases e2
      exact ⟨o,e,ex.2.1⟩
  | _=>exact False.elim ty
def tBM (K:PySem.W.Frag) (T:String) (r:V→List V→Hp→VK→Prop) (to:TE) (t:TA):TE:=fun σ H Q=>to σ H fun x H1=>tyV K T x H1∧t σ H1 fun xs H2=>r x xs H2 Q
variable {o e:Expr}{es:List Expr}{to:TE}{t:TA}{name:Str}{apos cpos:Pos}{T id:String}{r:V→List V→Hp→VK→Prop}
theorem pe_bm (pa:PlainAttrs T) (slot:Slot T name id) (hty:typeOf (.builtin id)=pure (.type "method_descriptor")) (hm:MtR X id r) (ho:PE X o to) (ha:PA X (e :: es) t)
    (hbase:attributeBase o name X.env (eval o X.env)=eval o X.env:=by rfl)
    (hfew:((backTo cpos (starEach (e :: es) X.env)).all (fun x=>!x.1) && (backToKw cpos (keywordEach [] X.env)).all (fun x=>x.1.isSome)
      && decide ((e :: es).length+([]:List Keyword).length+(if ([]:List Keyword).isEmpty then 0 else 1)<30))=true:=by rfl)
    (hline:(apos.endLine==cpos.line)=true:=by rfl) (hs:starEach (e :: es) X.env=(false,eval e X.env) :: starEach es X.env:=by rfl) (hplain:(backTo cpos (starEach es X.env)).any (·.1)=false:=by rfl) :
    PE X (.Call (.Attribute o name apos) (e :: es) [] cpos) (tBM X.K T r to t):=by
  intro pins s σ H Q I h
  refine wpAny_Call_method_late hbase hfew hline rfl (thn (ho pins s σ H _ I h) fun v s1 ⟨x,H1,I1,r1,ty,q1⟩=>?_)
  obtain ⟨h1,h2⟩:=tyV_is I1 r1 ty
  refine ⟨T,id,pa,slot,hty,h1,h2,?_⟩
  have hA:=ha cpos pins s1 σ H1 _ I1 q1
  rw [hs] at hA ⊢
  refine Calls.callWith_builtin (by show (false || (backTo cpos (starEach es X.env)).any (·.1))=false;rw [hplain] <;> rfl) (Calls.evalArgs_plain ?_)
  exact thn hA fun us s2 ⟨vs,H2,I2,r2,q2⟩=>hm pins s2 σ H2 x vs v us Q I2 r1 r2 q2
/- xs.append(e), list.index on a module's tuple .. are MtR facts of 06m -/
end
end L2
namespace L2
open PySem PySem.Spec PyProof.Rows
def MtM (X:Cx) (id:String) (r:V→List V→Hp→VK→Prop):Prop:=
  ∀(pins:List (Addr×Obj)) (s:Shared) (σ:St) (H:Hp) (x:V) (xs:List V) (v:Value) (us:List Value) (Q:VK),Inv X pins σ H s→RelV x v→Vals xs us→r x xs H Q→
    wpAny (model X.prog X.w) X.A (call (.builtin id) (v :: us)) (EP X pins σ Q) X.xe s
theorem Vals.one:∀{x:V}{us:List Value},Vals [x] us→∃u,us=[u]∧RelV x u
  | _,_,.cons r .nil=>⟨_,rfl,r⟩
theorem Vals.two:∀{x y:V}{us:List Value},Vals [x,y] us→Ex2 fun u v=>us=[u,v]∧RelV x u∧RelV y v
  | _,_,_,.cons r (.cons q .nil)=>⟨_,_,rfl,r,q⟩
section
variable {X:Cx}{pins:List (Addr×Obj)}{σ:St}{H:Hp}{s:Shared}{l b:Addr}{xs ys zs:List V}
theorem Inv.lset {its its':List Value}{n:Nat}{f:Array Value→Array Value}{t':Nat} (I:Inv X pins σ H s) (hH:H l=some (.lst xs))
    (e:s.heap.get? l=some { cls:=.type "list",data:=.seq its.toArray n }) (hf:f its.toArray=its'.toArray) (hv:Vals ys its') (hz:ys.length≤sizeLine) :
    Inv X pins σ (upd H l (.lst ys)) { s with heap:=s.heap.update l (Obj.mapSeq f),toks:=t' }:=by
  have q:=PySem.IsL.update e f
  rw [hf] at q
  refine I.write (x:=l) (e:=l) (by rw [hH];exact trivial) (.inl rfl) (fun b' u hb hu=>(Heap.get?_update_other s.heap (Obj.mapSeq f) (Ne.symm hb)).trans hu) ⟨_,q⟩ ?_
  exact ⟨hz,its',_,hv,q⟩
theorem Inv.lnew {its:List Value}{t':Nat} (I:Inv X pins σ H s) (hv:Vals ys its) (hz:ys.length≤sizeLine) :
    Inv X pins σ (upd H s.heap.objs.size (.lst ys)) { s with heap:=s.heap.push { cls:=.type "list",data:=.seq its.toArray },toks:=t' }:=
  I.laid (fun _ _ q=>Heap.get?_push_of_some _ q) (Nat.le_refl _) ⟨hz,its,0,hv,Heap.get?_push_size _ rfl⟩
theorem Inv.fresh (I:Inv X pins σ H s):H s.heap.objs.size=none:=I.hok.fresh (Nat.le_refl _)
theorem Inv.lstM (I:Inv X pins σ H s) (hH:H l=some (.lst xs)):xs.length≤sizeLine∧Ex2 fun (its:List Value) (n:Nat)=>Vals xs its∧xs.length=its.length∧s.heap.get? l=some { cls:=.type "list",data:=.seq its.toArray n }:=by
  obtain ⟨z,its,n,r,e⟩:=I.hok l _ hH
  exact ⟨z,its,n,r,r.length,e⟩
end
section
variable {X:Cx}
inductive rAppend_ (x:V) (vs:List V) (H:Hp) (Q:VK):Prop
  | mk (l:_) (xs:_) (y:_) (h0:x=.ref l) (h1:vs=[y]) (h2:H l=some (.lst xs)) (h3:xs.length<sizeLine) (h4:Q .non (upd H l (.lst (xs++[y]))))
def rAppend:V→List V→Hp→VK→Prop:=fun x vs H Q=>rAppend_  x vs H Q
theorem mt_append:MtM X "list.append" rAppend:=by
  intro pins s σ H x vs v us Q I rx rv h
  obtain ⟨l,xs,y,rfl,rfl,hH,hz,q⟩:=h
  cases rx
  obtain ⟨u,rfl,ru⟩:=rv.one
  obtain ⟨z,its,n,r,hl,e⟩:=I.lstM hH
  refine call_meets F.slot_list_append ⟨_,e,rfl⟩ F.entry_list_append (F.args_list_append_2 _ _) (PySem.list_append l its.toArray n u (by rw [List.size_toArray];trivial)) ⟨e,?_⟩
  refine ⟨.non,_,I.lset (its':=its++[u]) hH e (by simp) (r.append (.cons ru .nil)) ?_,rfl,q⟩
  rw [List.length_append,List.length_singleton]
  trivial
inductive rCat_ (x:V) (y:V) (H:Hp) (Q:VK):Prop
  | mk (l:_) (b:_) (xs:_) (zs:_) (h0:x=.ref l) (h1:y=.ref b) (h2:H l=some (.lst xs)) (h3:H b=some (.lst zs)) (h4:xs.length+zs.length≤sizeLine) (h5:∀p,H p=none→Q (.ref p) (upd H p (.lst (xs++zs))))
def rCat:R2:=fun x y H Q=>rCat_  x y H Q
theorem op_cat:OpR X (binaryOp .Add) rCat:=by
  intro pins s σ H x y v u Q I rx ry h
  obtain ⟨l,b,xs,zs,rfl,rfl,hH,hB,hz,q⟩:=h
  cases rx
  cases ry
  obtain ⟨z,its,n,r,hl,e⟩:=I.lstM hH
  obtain ⟨z2,its2,n2,r2,hl2,e2⟩:=I.lstM hB
  refine PySem.P.add_list e e2 ?_ (by rw [List.size_toArray,List.size_toArray];trivial)
  have ea:its.toArray++its2.toArray=(its++its2).toArray:=by simp
  rw [ea]
  exact ⟨.ref _,_,I.lnew (t':=s.toks) (r.append r2) (by rw [List.length_append];trivial),rfl,q _ I.fresh⟩
end
section
variable {prog:Program}{w:World}{A:Around}{E:Value→Shared→Prop}{s:Shared}
set_option maxRecDepth 100000 in
end
section
variable {X:Cx}
end
end L2
namespace Att
open PySem PySem.W PySem.Calls PyProof.Rows
theorem ints_of_wellAll {P:Params}{h:Heap}:∀(ns:List Int) (vs:List Value),WellAll P h vs (ns.map WData.int)→IntsAre vs ns:=by
  intro ns
  induction ns with
  | nil=>
    intro vs w
    rw [List.map_nil] at w
    cases w
    exact .nil
  | cons n ns ih=>
    intro vs w
    rw [List.map_cons] at w
    cases w with
    | cons a b=>
      cases a
      exact .cons _ _ (ih _ b)
theorem script_of {l:OpenLaw}{n:Nat} (hn:l.most=some n) {P:Params}{h:Heap}{args:List WData}{vals:List Value}
    (hpre:l.row.toRowW.claim.pre args=true) (hwl:WellAll P h vals args) :
    ∃a vs ns,vals=[Value.ref a]∧args=[WData.list (ns.map WData.int)]∧h.get? a=some { cls:=.type "list",data:=.seq vs.toArray }∧IntsAre vs ns∧ns.length≤n:=by
  have hsh:WShape.hasAll [] args [.list .int]=true:=(pre_splitW hpre).1
  have hc:l.pre.holds [] { args:=args }=true:=(pre_splitW hpre).2
  obtain ⟨d,r,rfl,h1,h2⟩:=hasAllW_cons hsh
  obtain rfl:=hasAllW_nil h2
  obtain ⟨xs,rfl,h3⟩:=hasW_list h1
  obtain ⟨ns,rfl⟩:=items_int h3
  have hlen:ns.length≤n:=by
    unfold OpenLaw.pre at hc
    have h4:(WTm.not (.lt (.lit (.int (n:Int))) (.len (.arg 0)))).holds [] { args:=[.list (ns.map .int)] }=true:=by
      have h4:=(holds_andW hc).1
      rw [hn] at h4
      exact h4
    have h5:=condW_of h4 (w_not (w_lt w_lit (w_len_list (w_arg rfl))))
    rw [List.length_map] at h5
    refine Nat.le_of_not_lt fun q=>?_
    have q':(n:Int)<((ns.length:Nat):Int):=by trivial
    first
      | (rw [decide_eq_true q'] at h5;exact absurd h5 (by decide))
      | (simp at h5;trivial)
  cases hwl with
  | cons w1 w2=>
    cases w2
    cases w1 with
    | list ho hall=>exact ⟨_,_,ns,rfl,rfl,ho,ints_of_wellAll ns _ hall,hlen⟩
theorem post_true (l:OpenLaw) (args:List WData):l.row.toRowW.claim.post args (.bool true) args=true:=
  postW_of (r:=l.row.toRowW) (X:=(true==true))
    (show WShape.has [] (.bool true) .bool=true by first | rfl | decide | simp [WShape.has,WShape.arms,WShape.armsAll])
    (show (WTm.eq .res (.lit (.bool true))).value [] { args:=args,res:=some (.bool true),after:=args }=some (.bool (true==true)) from w_eq_bool (w_res rfl) w_lit) rfl
theorem attach_call {l:OpenLaw}{n:Nat}{q:Program}{loose:List Str}{XP:(Str→Option Value)→Heap→Prop}{YP:World→Heap→Prop}{d:DefRec}
    (hn:l.most=some n) (hdf:d.params.defaults=[])
    (call:∀(w:World) (s₀ s₁:Shared) (mg mb:Str→Option Value) (fa:Addr) (o:Obj) (pm cd doc:Value) (a:Addr) (vs:List Value) (ns:List Int),
      Ground q loose [] XP w s₀ mg mb s₁.heap→YP w s₁.heap→
      s₁.heap.get? fa=some o→o.data=.func (docDef d.name d.params d.body d.scope pm cd doc)→s₁.heap.CodeRec cd d.name→mg d.name=some (.ref fa)→
      s₁.heap.get? a=some { cls:=.type "list",data:=.seq vs.toArray }→IntsAre vs ns→ns.length≤n→s₁.gens=#[]→
      codeAny (model l.prog w) callerA (.call (.ref fa) ⟨[.ref a],[]⟩) (fun r s'=>r=.ok (.ret (.bool true))∧OldK s₁.heap s'.heap∧s'.os=s₁.os∧AllBare s'.gens) s₁) :
    WalkO q loose XP YP l.row.toRowW d [] (fun f vs=>PySem.call f vs):=by
  intro w s₀ s₁ mg mb G Y fa o pm cd doc dV kV ho hd hcd hD hmg hg args vals as hpre hlay hrd hwl hlo
  obtain rfl:dV=.none:=Dflts.none hD hdf
  obtain rfl:kV=.none:=Dflts.noKw hD
  obtain ⟨a,vs,ns,rfl,rfl,hobj,hints,hlen⟩:=script_of hn hpre hwl
  refine enter_call (codeAny_mono (call w s₀ s₁ mg mb fa o pm cd doc a vs ns G Y ho (fd_plain hd) hcd hmg hobj hints hlen hg) fun r s' hq=>?_)
  obtain ⟨rfl,h2,h3,h4⟩:=hq
  exact ⟨.inl ⟨.bool true,.bool true,[],rfl,fun _=>rfl,.bool true,post_true l _,fun _=>⟨List.Pairwise.nil,fun _ hm=>(nomatch hm)⟩⟩,h2,h3,h4⟩
section
variable {prog:Program}{w:World}{A:Around}{E:Value→Shared→Prop}{s:Shared}{K:Frag}
end
end Att
namespace L2
open PySem PySem.Spec PyProof.Rows
theorem vals_ints:∀{vs:List Value}{ns:List Int},IntsAre vs ns→Vals (ns.map V.int) vs
  | _,_,.nil=>.nil
  | _,_,.cons n t h=>.cons ⟨t,rfl⟩ (vals_ints h)
def Only (H:Hp):Prop:=∀b,H b=none∨Ex2 fun o xs=>H b=some (.frz o (.lst xs))
theorem law_call {P:Program}{w:World}{K:PySem.W.Frag}{mg mb:Str→Option Value}{CX:CXT}{k:Nat}{fa a:Addr}{fd:FuncData}{x:Str}{sp:Sp}{s₁:Shared}{vs:List Value}{ns:List Int}
    (KX:K.In s₁.heap) (hns:s₁.heap.Ns mainGlobals mg) (hb:s₁.heap.Ns builtinsNs mb) (hbb:∀x:Str,x≠"__name__"→mb x=bootBuiltins x) (hlim:s₁.heap.NoLimit) (hg:s₁.gens=#[])
    (ha:s₁.heap.get? a=some { cls:=.type "list",data:=.seq vs.toArray }) (hi:IntsAre vs ns) (hl:ns.length≤sizeLine) (hr:Room k callerA)
    (F:∀base:Heap,K.In base→base.Ns mainGlobals mg→FnOk P w K mg base CX k fa fd [x] sp) (hbind:∀(s:Shared) (u:Value),BindsTo s fd ⟨[u],[]⟩ [(x,u)])
    (hsp:∀H:Hp,Only H→SqL K H a (ns.map V.int)→sp [.ref a] H (fun v _=>v=.bl true) fun _ _ _=>False)
    (hCX:∀H e s',CX [] H s₁ (fun _ _ _=>False) e s'→False) :
    codeAny (model P w) callerA (.call (.ref fa) ⟨[.ref a],[]⟩) (fun r s'=>r=.ok (.ret (.bool true))∧OldK s₁.heap s'.heap∧s'.os=s₁.os∧AllBare s'.gens) s₁:=by
  have rv:=vals_ints hi
  have lenV:=hi.length
  have core:∀H:Hp,Only H→SqL K H a (ns.map V.int)→HOk P w H s₁.heap→(∀b,H b≠none→b=a)→(H a≠none→K.lookup a=none)→
      codeAny (model P w) callerA (.call (.ref fa) ⟨[.ref a],[]⟩) (fun r s'=>r=.ok (.ret (.bool true))∧OldK s₁.heap s'.heap∧s'.os=s₁.os∧AllBare s'.gens) s₁:=by
    intro H hO hS hok hA hK
    have base_of:∀{b:Addr}{o:Obj},s₁.heap.get? b=some o→H b=none→(hidT s₁.heap H).get? b=some o:=fun e n=>hidT_get e n
    have noA:∀{b:Addr}{o:Obj}{es:Array DictEntry}{ep:Nat},s₁.heap.get? b=some o→o.data=.dict es ep→H b=none:=fun {b o es ep} e d=>by
      cases q:H b with
      | none=>rfl
      | some u=>
        have e':b=a:=hA b (by rw [q];simp)
        subst e'
        rw [ha] at e;cases e
        have d':Data.seq vs.toArray _=Data.dict es ep:=d
        cases d'
    have nsK:∀{b:Addr}{m:Str→Option Value},s₁.heap.Ns b m→(hidT s₁.heap H).Ns b m:=fun {b m} ⟨o,es,ep,e,d,r⟩=>⟨o,es,ep,base_of e (noA e d),d,r⟩
    have hKb:K.In (hidT s₁.heap H):=fun b o e=>base_of (KX b o e) (by
      cases q:H b with
      | none=>rfl
      | some u=>
        have e':b=a:=hA b (by rw [q];simp)
        subst e'
        rw [hK (by rw [q];simp)] at e;cases e)
    have hM:Mod K mg (hidT s₁.heap H):=⟨hKb,nsK hns,⟨mb,nsK hb,hbb⟩,let ⟨mc,h1,h2⟩:=hlim;⟨mc,nsK h1,h2⟩⟩
    have e0:Env0 P w K mg (hidT s₁.heap H) callerA [] s₁ H:=⟨rfl,hM,fun b o e=>of_hidT e,Nat.le_of_eq (hidT_size _ _),trivial,fun b hb=>absurd (show b∈([]:List Addr) from hb) (by simp),hok,.of_eq hg⟩
    refine codeAny_mono ((F _ hKb (nsK hns)).run callerA [] s₁ H ⟨[.ref a],[]⟩ [.ref a] [.ref a] _ _ hr e0 (hbind s₁ (.ref a)) (.cons rfl .nil) (hsp H hO hS)) fun r s' h=>?_
    cases r with
    | error e=>exact (hCX H e s' h).elim
    | ok fl=>
      cases fl with
      | next=>exact False.elim h
      | brk=>exact False.elim h
      | cont=>exact False.elim h
      | ret u=>
        obtain ⟨v,H',os,bare,un,hok',r',q⟩:=h
        have q':v=.bl true:=q
        subst q'
        obtain rfl:u=Value.bool true:=r'
        refine ⟨rfl,OldK.of_keep fun b o e=>?_,os,bare⟩
        cases q:H b with
        | none=>exact un.keep b o e q (by intro z;exact absurd (show b∈([]:List Addr) from z) (by simp)) (by simp)
        | some u=>
          rcases hO b with z | ⟨ob,xs,z⟩
          · rw [q] at z;cases z
          · have z2:=un.frzs b ob _ z
            obtain ⟨e1,_⟩:=hok b _ z
            obtain ⟨e2,_⟩:=hok' b _ z2
            rw [e] at e1;cases e1
            exact e2
  cases hk:K.lookup a with
  | some o=>
    have e:=KX a o hk
    rw [ha] at e
    cases e
    refine core (fun _=>none) (fun _=>.inl rfl) (.inr ⟨_,vs.toArray,_,hk,rfl,rfl,rfl,by rw [List.size_toArray,lenV];exact hl,by simpa using rv⟩) (fun b u z=>by have z':(none:Option HO)=some u:=z;cases z') (fun b z=>absurd rfl z) fun z=>absurd rfl z
  | none=>
    refine core (fun b=>if b=a then some (.frz { cls:=.type "list",data:=.seq vs.toArray } (.lst (ns.map V.int))) else none) (fun b=>?_) (.inl (.inr ⟨{ cls:=.type "list",data:=.seq vs.toArray },if_pos rfl⟩)) (fun b u z=>?_) (fun b z=>?_) fun _=>hk
    · by_cases hb:b=a
      · exact .inr ⟨_,_,if_pos hb⟩
      · exact .inl (if_neg hb)
    · by_cases hb:b=a
      · have z':=(if_pos hb).symm.trans z
        cases z'
        subst hb
        exact ⟨ha,by rw [List.length_map];exact hl,vs,_,rv,ha⟩
      · have z':=(if_neg hb).symm.trans z
        cases z'
    · by_cases hb:b=a
      · exact hb
      · exact absurd (if_neg hb) z
end L2
namespace L2
open PySem PySem.Spec PyProof.Rows
abbrev KOf {K:PySem.W.Frag}{h:Heap} (_:K.In h):PySem.W.Frag:=K
theorem walk_of {l:PySem.W.OpenLaw}{n k:Nat}{q:Program}{loose:List Str}{XP:(Str→Option Value)→Heap→Prop}{YP:World→Heap→Prop}{d:DefRec}{K:Params→PySem.W.Frag}{CX:World→CXT}{sp:World→Sp}{x:Str}
    (hn:l.most=some n) (hn2:n≤sizeLine) (hdf:d.params.defaults=[]) (hr:Room k callerA)
    (hY:∀(w:World) (h:Heap),YP w h→(K w.params).In h)
    (F:∀(w:World) (mg:Str→Option Value) (fa:Addr) (h:Heap),(K w.params).In h→h.Ns mainGlobals mg→mg d.name=some (.ref fa)→
      ∃fd:FuncData,(∀(s:Shared) (u:Value),BindsTo s fd ⟨[u],[]⟩ [(x,u)])∧
        ∀base:Heap,(K w.params).In base→base.Ns mainGlobals mg→FnOk l.prog w (K w.params) mg base (CX w) k fa fd [x] (sp w))
    (hsp:∀(w:World) (H:Hp) (a:Addr) (ns:List Int),ns.length≤n→Only H→SqL (K w.params) H a (ns.map V.int)→sp w [.ref a] H (fun v _=>v=.bl true) fun _ _ _=>False)
    (hCX:∀(w:World) (H:Hp) (s:Shared) (e:Value) (s':Shared),CX w [] H s (fun _ _ _=>False) e s'→False) :
    PySem.W.WalkO q loose XP YP l.row.toRowW d [] (fun f vs=>PySem.call f vs):=by
  refine Att.attach_call hn hdf fun w s₀ s₁ mg mb fa o pm cd doc a vs ns G Y ho hd hcd hmg hobj hints hlen hg=>?_
  have KX:=hY w _ Y
  obtain ⟨fd,hb,hF⟩:=F w mg fa _ KX G.T.g hmg
  exact law_call KX G.T.g G.T.b G.T.builtins G.T.nolimit hg hobj hints (Nat.le_trans hlen hn2) hr hF hb (fun H hO hS=>hsp w H a ns hlen hO hS) fun H e s'=>hCX w H s₁ e s'
theorem walk_ofK {l:PySem.W.OpenLaw}{n k:Nat}{q:Program}{loose:List Str}{XP:(Str→Option Value)→Heap→Prop}{YP:World→Heap→Prop}{d:DefRec}{K:Params→PySem.W.Frag}{CX:CXT}{sp:PySem.W.Frag→Sp}{x:Str}
    (hn:l.most=some n) (hn2:n≤sizeLine) (hdf:d.params.defaults=[]) (hr:Room k callerA)
    (hY:∀(w:World) (h:Heap),YP w h→(K w.params).In h)
    (F:∀(w:World) (mg:Str→Option Value) (fa:Addr) (h:Heap),(K w.params).In h→h.Ns mainGlobals mg→mg d.name=some (.ref fa)→
      ∃fd:FuncData,(∀(s:Shared) (u:Value),BindsTo s fd ⟨[u],[]⟩ [(x,u)])∧
        ∀base:Heap,(K w.params).In base→base.Ns mainGlobals mg→FnOk l.prog w (K w.params) mg base CX k fa fd [x] (sp (K w.params)))
    (hsp:∀(K:PySem.W.Frag) (H:Hp) (a:Addr) (ns:List Int),ns.length≤n→Only H→SqL K H a (ns.map V.int)→sp K [.ref a] H (fun v _=>v=.bl true) fun _ _ _=>False)
    (hCX:∀(H:Hp) (s:Shared) (e:Value) (s':Shared),CX [] H s (fun _ _ _=>False) e s'→False) :
    PySem.W.WalkO q loose XP YP l.row.toRowW d [] (fun f vs=>PySem.call f vs):=
  walk_of (K:=K) (CX:=fun _=>CX) (sp:=fun w=>sp (K w.params)) hn hn2 hdf hr hY F (fun w H a ns h1 h2 h3=>hsp (K w.params) H a ns h1 h2 h3) fun _ H s e s'=>hCX H s e s'
end L2
/- THE LAST THEOREM (shape; LID, My.* are yours):
   My.Adr: a structure of the addresses that your layer names (classes, functions); My.Txt K t: a structure (Prop) of the equations over K;
   My.txt_mk : {K} {implicit addresses ..} (e1 : nsIn K mainGlobals "law" = some (some (.ref f))) (e2 : K.lookup f = some ⟨oc, od, .func (fnOf "law" "law" params body scope dV kV doc pm an cdv ct), sl⟩) (e3 : codeIn K cdv "law" = true) .. : ∃ t, My.Txt K t
set_option maxRecDepth 100000 in
set_option maxHeartbeats 0 in
theorem PySem.Challenge.cw_LID_holds : PySem.Challenge.rw_LID.Holds := by
  w_on; o_law; k_head; (case hw => w_witness2)
  k_fill
  refine L2.walk_of (l := PySem.Challenge.rw_LID) (n := 63) (k := 40) (x := "script") (CX := fun w => ..) (sp := fun _ => My.sp_law) rfl (by decide) rfl ⟨rfl, by decide, by decide⟩ (fun w h Y => PySem.W.kIn_of Y) ?F ?S ?C
  case F =>
    intro w mg fa h KX G hmg
    have T : ∃ t, My.Txt (L2.KOf KX) t := by
      dsimp only [L2.KOf]                          -- K must stand as «<heap const> w.params» for k_is
      refine' My.txt_mk ?e1 ?e2 ?e3 ..
      (case e1 => PySem.W.k_is)                    -- in the order: a name -> its address -> its object -> its parts
      (case e2 => PySem.W.k_is)
      ..
    obtain ⟨t, T⟩ := T
    have e0 := hmg.symm.trans (PySem.W.mg_of KX G T.law)
    cases e0                                       -- fa is the law's own address
    exact ⟨_, fun s u => .of_eq rfl, fun base kb nb => My.law_fn T kb nb⟩     -- if «.of_eq rfl» comes too early: refine' ⟨_, ?b, fun base kb nb => My.law_fn T kb nb⟩; exact fun s u => .of_eq rfl
  case S => exact fun w H a ns hl hO hS => ..
  case C => exact ..
(the tactic k_is has no namespace: write k_is) -/
namespace L2
open PySem PySem.Spec PyProof.Rows
def defArgs (s:Stmt):Arguments:=match s with
  | .FunctionDef _ a _ _ _ _ _ _ _ _=>a
  | _=>{ posonlyargs:=[],args:=[],vararg:=none,kwonlyargs:=[],kw_defaults:=[],kwarg:=none,defaults:=[] }
def defBody (s:Stmt):List Stmt:=match s with
  | .FunctionDef _ _ b _ _ _ _ _ _ _=>b
  | _=>[]
def defScope (s:Stmt):Scope:=match s with
  | .FunctionDef _ _ _ _ _ _ sc _ _ _=>sc
  | _=>{ kind:=.function,names:=[],isGenerator:=false,isCoroutine:=false }
abbrev CX0:CXT:=fun _ _ _ _ _ _=>False
abbrev E0:XK:=fun _ _ _=>False
theorem pass0 {X:Cx}:Passes CX0 X E0:=fun _ _ _ _ _ _ _ h=>h.elim
structure Fun (K:PySem.W.Frag) (x qual:Str) (st:Stmt) (f:Addr) (fd:FuncData):Prop where
  ex:Ex9 fun (oc:Value) (od:Option Addr) (kV doc pm:Value) (an:Option Addr) (cdv ct:Value) (osl:Array (Option Value))=>
    fd=PySem.W.fnOf x qual (defArgs st) (defBody st) (defScope st) .none kV doc pm an cdv ct∧K.lookup f=some ⟨oc,od,.func fd,osl⟩∧PySem.W.codeIn K cdv qual=true
  kp:PySem.W.keepIn K (.ref f)=true
section
variable {P:Program}{w:World}{K:PySem.W.Frag}{mg:Str→Option Value}{base:Heap}
theorem Fun.ok {x qual:Str}{st:Stmt}{f:Addr}{fd:FuncData}{N ps:List Str}{k:Nat}{sp:Sp} (F:Fun K x qual st f fd) (S:FnScope N ps (defScope st)) (len:∀vs H Q E,sp vs H Q E→vs.length=ps.length)
    (hbody:∀(cdv:Value) (A:Around) (outer:List Env) (s:Shared) (H:Hp) (vs:List V) (Q:VK) (E:XK),Room k (A.deeper (envOfC qual (defScope st) s.heap.objs.size f cdv))→sp vs H Q E→
      ∃t,PSs (cxOf CX0 P w K mg base N qual (defScope st) f cdv A outer s H E).nox (defBody st) t∧t { nx:=fun _ H'=>Q .non H',rt:=Q } (start N vs) H):FnOk P w K mg base CX0 (k+1) f fd ps sp:=by
  obtain ⟨oc,od,kV,doc,pm,an,cdv,ct,osl,rfl,lk,hcd⟩:=F.ex
  refine fn_of lk hcd S len fun A outer s H vs Q E hr hsp=>?_
  obtain ⟨t,h,q⟩:=hbody cdv A outer s H vs Q E hr hsp
  exact ⟨t,h.nox,q⟩
theorem Fun.binds {x qual:Str}{st:Stmt}{f:Addr}{fd:FuncData}{ps:List Str} (F:Fun K x qual st f fd)
    (h:∀(kV doc pm:Value) (an:Option Addr) (cdv ct:Value) (us:List Value),us.length=ps.length→bindArgs (PySem.W.fnOf x qual (defArgs st) (defBody st) (defScope st) .none kV doc pm an cdv ct) ⟨us,[]⟩=pure (ps.zip us)):Binds K fd ps []:=by
  obtain ⟨oc,od,kV,doc,pm,an,cdv,ct,osl,rfl,lk,hcd⟩:=F.ex
  exact .all (h kV doc pm an cdv ct)
theorem fun_mk {x qual:Str}{st:Stmt}{f:Addr}{oc:Value}{od an:Option Addr}{osl:Array (Option Value)}{kV doc pm cdv ct:Value} (l:K.lookup f=some ⟨oc,od,.func (PySem.W.fnOf x qual (defArgs st) (defBody st) (defScope st) .none kV doc pm an cdv ct),osl⟩)
    (c:PySem.W.codeIn K cdv qual=true) (k:PySem.W.keepIn K (.ref f)=true):Fun K x qual st f (PySem.W.fnOf x qual (defArgs st) (defBody st) (defScope st) .none kV doc pm an cdv ct):=⟨⟨oc,od,kV,doc,pm,an,cdv,ct,osl,rfl,l,c⟩,k⟩
end
section
variable {X:Cx}
theorem pv (i:Nat) {x:Str}{pos:Pos} (hN:X.N[i]?=some x:=by rfl) (hv:Vis X.env.scope x:=by first | exact Or.inl rfl | exact Or.inr (Or.inl rfl) | exact Or.inr (Or.inr rfl)) (hd:(x==("__debug__" : Str))=false:=by decide)
    (hcd:(x==("__classdict__" : Str))=false:=by decide):PE X (.Name x pos) (tVar i):=pe_var hN hv hd hcd
end
theorem iteF {A B:Prop} (h:B):if false=true then A else B:=by
  rw [if_neg Bool.false_ne_true]
  exact h
theorem iteT {A B:Prop} (h:A):if true=true then A else B:=by
  rw [if_pos rfl]
  exact h
theorem ite2 {c A B:Prop} [Decidable c] (h1:c→A) (h2:¬c→B):if c then A else B:=by
  by_cases h:c
  · rw [if_pos h]
    exact h1 h
  · rw [if_neg h]
    exact h2 h
def Same (H H':Hp):Prop:=∀b o,H b=some o→H' b=some o
theorem Same.refl (H:Hp):Same H H:=fun _ _ h=>h
theorem Same.trans {H H1 H2:Hp} (a:Same H H1) (b:Same H1 H2):Same H H2:=fun c o h=>b c o (a c o h)
theorem Same.seq {K:PySem.W.Frag}{H H':Hp}{a:Addr}{xs:List V} (e:Same H H') (h:SqL K H a xs):SqL K H' a xs:=by
  rcases h with (h | ⟨o,h⟩) | h
  · exact .inl (.inl (e _ _ h))
  · exact .inl (.inr ⟨o,e _ _ h⟩)
  · exact .inr h
end L2
namespace L2
open PySem
theorem clos_ok {scope:Scope}{env:Env} (h:∀y∈scope.names,y.2=.free→∃c,env.cells.lookup y.1=some c) :
    ∃cl,closureFor scope env=pure cl∧(∀x c,cl.lookup x=some c→env.cells.lookup x=some c)∧(∀y∈scope.names,y.2=.free→∃c,cl.lookup y.1=some c):=by
  have go:∀(names:List (Str×NameKind)) (acc:List (Str×Addr)),(∀y∈names,y.2=.free→∃c,env.cells.lookup y.1=some c)→(∀x c,acc.lookup x=some c→env.cells.lookup x=some c)→
      ∃cl,(forIn names acc (fun (x:Str×NameKind) (cs:List (Str×Addr))=>match x with
        | (name,kind)=>if (kind==.free)=true then (do let a ←cellOf env name;pure (ForInStep.yield ((name,a) :: cs))) else pure (ForInStep.yield cs)):Sem (List (Str×Addr)))=pure cl∧
        (∀x c,cl.lookup x=some c→env.cells.lookup x=some c)∧(∀y∈names,y.2=.free→∃c,cl.lookup y.1=some c)∧(∀x c,acc.lookup x=some c→∃c',cl.lookup x=some c'):=by
    intro names
    induction names with
    | nil=>intro acc _ ha;exact ⟨acc,rfl,ha,fun y hy=>(by cases hy),fun x c e=>⟨c,e⟩⟩
    | cons x r ih=>
      intro acc hn ha
      obtain ⟨name,kind⟩:=x
      rw [List.forIn_cons]
      by_cases hk:kind=.free
      · subst hk
        obtain ⟨c,hc⟩:=hn (name,.free) List.mem_cons_self rfl
        have e:cellOf env name=pure c:=by unfold cellOf;rw [hc]
        obtain ⟨cl,e1,e2,e3,e4⟩:=ih ((name,c) :: acc) (fun y hy=>hn y (List.mem_cons_of_mem _ hy)) (fun x c' hx=>by
          rw [List.lookup_cons] at hx
          split at hx
          · rename_i hb
            have:x=name:=by simpa using hb
            subst this
            cases hx;exact hc
          · exact ha x c' hx)
        refine ⟨cl,?_,e2,fun y hy hf=>?_,fun x c' hx=>?_⟩
        · simp only [beq_self_eq_true,if_true]
          rw [e,pure_bind,pure_bind]
          exact e1
        · rcases List.mem_cons.mp hy with rfl | hy
          · exact e4 name c (by simp)
          · exact e3 y hy hf
        · by_cases hb:(x==name)=true
          · have:x=name:=by simpa using hb
            subst this
            exact e4 x c (by simp)
          · exact e4 x c' (by rw [List.lookup_cons];simp only [Bool.not_eq_true] at hb;rw [hb];exact hx)
      · have hb:(kind==NameKind.free)=false:=by simpa using hk
        obtain ⟨cl,e1,e2,e3,e4⟩:=ih acc (fun y hy=>hn y (List.mem_cons_of_mem _ hy)) ha
        refine ⟨cl,?_,e2,fun y hy hf=>?_,e4⟩
        · simp only [hb,Bool.false_eq_true,if_false]
          rw [pure_bind]
          exact e1
        · rcases List.mem_cons.mp hy with rfl | hy
          · exact absurd hf hk
          · exact e3 y hy hf
  obtain ⟨cl,e1,e2,e3,_⟩:=go scope.names [] h (fun x c e=>by simp at e)
  refine ⟨cl,?_,e2,e3⟩
  unfold closureFor
  show (forIn scope.names _ _ >>= fun cs=>pure cs)=_
  rw [bind_pure]
  exact e1
section
variable {prog:Program}{w:World}{A:Around}{R:Result→Shared→Prop}{s:Shared}
theorem compLoop_all {elt target iter:Expr}{ifs:List Expr}{scope:Scope}{pos:Pos}{it acc:Value}{env:Env} (I:Nat→Shared→Prop)
    (turn:∀n s,I n s→wpAny (model prog w) A (pyNext it) (fun r s₁=>match r with
      | none=>R (.ok .next) s₁
      | some v=>wpAny (model prog w) A (letOwnedTupleGo target it v) (fun _ s₁'=>wpAny (model prog w) A (assign target env v) (fun _ s₂=>
          wpAny (model prog w) A (forIn ifs true fun c r=>if r=true then do let ok ←isTrue c env (eval c env);pure (ForInStep.yield ok) else pure (ForInStep.yield r)) (fun ok s₃=>
            if ok=true then wpAny (model prog w) A (eval elt env) (fun x s₄=>
              wpAny (model prog w) A (call (.builtin "list.append") [acc,x]) (fun _ s₅=>∃m,m<n∧I m s₅) (fun _ _=>False) s₄) (fun _ _=>False) s₃
            else ∃m,m<n∧I m s₃) (fun _ _=>False) s₂) (fun _ _=>False) s₁') (fun _ _=>False) s₁) (fun _ _=>False) s)
    (n:Nat) (h:I n s) :
    codeAny (model prog w) A (.compLoop (.ListComp elt [⟨target,iter,ifs,0⟩] scope pos) 0 it acc env) R s:=by
  refine codeAny_loop rfl I (fun n s hI=>?_) n h
  show wpAny _ A ((compTurn (.ListComp elt [⟨target,iter,ifs,0⟩] scope pos) 0 it acc env).onRaise (fun x=>do noteFrame x env;theTreesLotGoes x)) _ _ s
  refine wpAny_noted ?_
  rw [compTurn_list]
  refine wpAny_bind (wpAny_standAt (wpAny_bind (wpAny_mono (turn n s hI) (fun r s₁ h₁=>?_) fun _ _ h'=>h'.elim)))
  cases r with
  | none=>exact wpAny_pure h₁
  | some v=>
    refine wpAny_bind (wpAny_mono h₁ (fun _ s₁' h₁'=>?_) fun _ _ h'=>h'.elim)
    refine wpAny_bind (wpAny_mono h₁' (fun _ s₂ h₂=>wpAny_bind (wpAny_mono h₂ (fun ok s₃ h₃=>?_) fun _ _ h'=>h'.elim)) fun _ _ h'=>h'.elim)
    cases ok with
    | false=>exact wpAny_pure ⟨rfl,h₃⟩
    | true=>
      exact wpAny_bind (wpAny_bind (wpAny_mono h₃ (fun x s₄ h₄=>wpAny_bind (wpAny_mono h₄ (fun _ s₅ h₅=>wpAny_pure (wpAny_pure ⟨rfl,h₅⟩)) fun _ _ h'=>h'.elim)) fun _ _ h'=>h'.elim))
end
end L2
namespace L2
open PySem PySem.Spec PyProof.Rows
section
variable {X:Cx}
theorem call_isinst:CallR X (.builtin "isinstance") (fun xs H Q=>Ex4 fun x T t b=>xs=[x,.ty T]∧TyOf X.K H x t∧PySem.W.kitOne X.K t (.type T)=some b∧Q (.bl b) H):=by
  intro pins s σ H xs us Q I r h
  obtain ⟨x,T,t,b,rfl,ty,e,q⟩:=h
  obtain ⟨u,c,rfl,ru,rc⟩:=r.two
  obtain rfl:c=Value.type T:=rc
  exact isinst_ok I ru ty e fun tk=>⟨.bl b,H,I.tok tk,rfl,q⟩
end
def cxComp (X:Cx) (scope:Scope) (cl:List (Str×Addr)) (C:Addr) (N':List Str) (s:Shared) (H:Hp) (ex:List Addr) (pn:List (Addr×Obj)):Cx:=
  { X with N:=N',s₀:=s,H₀:=H,env:=compEnvC scope cl C X.env,outer:=X.stack,ex:=ex,fn:=fun _=>false,pn:=pn,xe:=fun _ _=>False }
def cst (L:Nat) (src:List Nat) (σ:St):St:=List.replicate L none++src.map fun j=>(σ[j]?).join
def Back (σ σ':St):Prop:=σ'.length=σ.length∧∀(i:Nat) v,σ[i]?=some (some v)→σ'[i]?=some (some v)
theorem back1 {x:V}{r:St}:Back (none :: r) (some x :: r):=⟨rfl,fun i v e=>by
  cases i with
  | zero=>simp at e
  | succ i=>simpa using e⟩
def PIfs (X:Cx) (ifs:List Expr) (t:TT):Prop:=
  ∀(pins:List (Addr×Obj)) (s:Shared) (σ:St) (H:Hp) (Q:Bool→Hp→Prop),Inv X pins σ H s→t σ H Q→
    wpAny (model X.prog X.w) X.A (forIn ifs true fun c r=>if r=true then do let ok ←isTrue c X.env (eval c X.env);pure (ForInStep.yield ok) else pure (ForInStep.yield r)) (TP X pins σ Q) X.xe s
def tT:TT:=fun _ H Q=>Q true H
theorem pifs_nil {X:Cx}:PIfs X [] tT:=fun _ _ _ H _ I h=>wpAny_pure ⟨H,I,h⟩
def compChk (esc:Scope) (N:List Str) (scope:Scope) (N':List Str) (L:Nat) (src:List Nat):Bool:=
  (scope.kind==.function) && scope.names.all (fun y=>y.2 != .cell && (y.2 != .local || scope.names.lookup y.1==some .local) && (y.2 != .free || esc.names.lookup y.1==some .cell || esc.names.lookup y.1==some .free)) &&
    (N'.length==L+src.length) && (List.range src.length).all fun i=>match src[i]?,N'[L+i]? with
      | some j,some x=>(N[j]?==some x) && (scope.names.lookup x==some .free)
      | _,_=>false
structure CompOk (esc:Scope) (N:List Str) (scope:Scope) (N':List Str) (L:Nat) (src:List Nat):Prop where
  kind:scope.kind=.function
  nocell:∀y∈scope.names,y.2≠.cell
  loc:∀y∈scope.names,y.2=.local→scope.names.lookup y.1=some .local
  free:∀y∈scope.names,y.2=.free→esc.names.lookup y.1=some .cell∨esc.names.lookup y.1=some .free
  len:N'.length=L+src.length
  frees:∀(i j:Nat),src[i]?=some j→∃x,N'[L+i]?=some x∧N[j]?=some x∧scope.names.lookup x=some .free
theorem compOk_of {esc:Scope}{N:List Str}{scope:Scope}{N':List Str}{L:Nat}{src:List Nat} (h:compChk esc N scope N' L src=true):CompOk esc N scope N' L src:=by
  unfold compChk at h
  simp only [Bool.and_eq_true,List.all_eq_true] at h
  obtain ⟨⟨⟨h1,h2⟩,h3⟩,h4⟩:=h
  refine ⟨by simpa using h1,fun y hy=>?_,fun y hy e=>?_,fun y hy e=>?_,by simpa using h3,fun i j e=>?_⟩
  · have:=(h2 y hy).1.1
    simpa using this
  · have:=(h2 y hy).1.2
    rw [e] at this
    simpa using this
  · have:=(h2 y hy).2
    rw [e] at this
    simpa using this
  · have hi:i<src.length:=(List.getElem?_eq_some_iff.mp e).1
    have:=h4 i (List.mem_range.mpr hi)
    rw [e] at this
    cases q:N'[L+i]? with
    | none=>rw [q] at this;simp at this
    | some x=>
      rw [q] at this
      simp only [Bool.and_eq_true,beq_iff_eq] at this
      exact ⟨x,rfl,this.1,this.2⟩
def CompW (J:It) (σc:St) (g:TG) (tt:TT) (te:TE) (D:Addr) (H1:Hp) (Q:VK):Prop:=
  ∃W:Nat→Nat→Hp→List V→Prop,(∃m,W 0 m (upd H1 D (.lst [])) [])∧∀i m H ys,W i m H ys→H D=some (.lst ys)∧
    ((J.stop i H∧Q (.ref D) H)∨(J.go i H∧ys.length<sizeLine∧∃N:Hp→List V→Prop,(∀H' ys',N H' ys'→∃m',m'<m∧W (i+1) m' H' ys')∧
      ∀x H',J.yld i H x H'→g x σc H' fun σ2 H2=>Back σc σ2∧tt σ2 H2 fun b H3=>if b=true then te σ2 H3 fun y H4=>H4 D=some (.lst ys)∧N (upd H4 D (.lst (ys++[y]))) (ys++[y]) else N H3 ys))
def tComp (wi:TI) (L:Nat) (src:List Nat) (g:TG) (tt:TT) (te:TE):TE:=fun σ H Q=>wi σ H fun J H1=>∀D,H1 D=none→CompW J (cst L src σ) g tt te D H1 Q
section
variable {X:Cx}{elt tg iter:Expr}{ifs:List Expr}{scope:Scope}{pos:Pos}{N':List Str}{L:Nat}{src:List Nat}{wi:TI}{g:TG}{tt:TT}{te:TE}
theorem comp_run (hc:X.calm=true) (ck:CompOk X.env.scope X.N scope N' L src) {cl:List (Str×Addr)}{pins:List (Addr×Obj)}{s:Shared}{σ:St}{H:Hp}{Q:VK} (I:Inv X pins σ H s)
    (hsub:∀x c,cl.lookup x=some c→X.env.cells.lookup x=some c) (hhas:∀y∈scope.names,y.2=.free→∃c,cl.lookup y.1=some c)
    (hi:PI X tg iter wi) (hg:∀cl C s H ex pn,PG (cxComp X scope cl C N' s H ex pn) tg g) (hif:∀cl C s H ex pn,PIfs (cxComp X scope cl C N' s H ex pn) ifs tt)
    (he:∀cl C s H ex pn,PE (cxComp X scope cl C N' s H ex pn) elt te) (h:tComp wi L src g tt te σ H Q) {RR:Value→Addr→Result→Shared→Prop}
    (hRR:∀D C H' f s' m,Inv X pins σ H' s'→s'.heap.Ns C m→FpOk X pins H' C→Q (.ref D) H'→RR (.ref D) C (.ok f) s') :
    wpAny (model X.prog X.w) X.A (eval iter X.env) (fun x s₁=>wpAny (model X.prog X.w) X.A (pyIter x) (fun it s₂=>wpAny (model X.prog X.w) X.A (newList []) (fun acc s₃=>
      wpAny (model X.prog X.w) X.A (newFunctionEnv scope X.env.globals cl [] X.env.qual none .none (some X.env)) (fun cenv s₄=>
        codeAny (model X.prog X.w) X.A (.compStart (.ListComp elt [⟨tg,iter,ifs,0⟩] scope pos) 0 it acc { cenv with scope:=relabel scope X.env }) (RR acc cenv.locals) s₄) X.xe s₃) X.xe s₂) X.xe s₁) X.xe s:=by
  refine thn (hi pins s σ H _ I h) fun v s1 h1=>thn h1 fun itv s2 h2=>?_
  obtain ⟨it,fp,tn,J,H2,e,I2,T,st2,f2,q⟩:=h2
  subst e
  refine wpAny_newObj_type (wpAny_newFunctionEnv ck.nocell (by intro y hy;simp at hy) (fun h₁ hns₁ hsb₁=>?_) ck.kind)
  dsimp only at hns₁ hsb₁ ⊢
  generalize hH2:s2.heap.push { cls:=.type "list",dict:=none,data:=.seq ([]:List Value).toArray }=hp2 at hns₁ hsb₁ ⊢
  have hC:hp2.objs.size=s2.heap.objs.size+1:=by rw [←hH2,Heap.size_push]
  have hDC:s2.heap.objs.size≠hp2.objs.size:=by rw [hC];exact Nat.ne_of_lt (Nat.lt_succ_self _)
  have hCle:s2.heap.objs.size≤hp2.objs.size:=by rw [hC];exact Nat.le_succ _
  have below:∀b,b<s2.heap.objs.size→b≠hp2.objs.size∧b≠s2.heap.objs.size:=fun b hb=>⟨by rw [hC];exact Nat.ne_of_lt (Nat.lt_succ_of_lt hb),Nat.ne_of_lt hb⟩
  have old:∀b o,s2.heap.get? b=some o→h₁.get? b=some o:=fun b o e=>hsb₁.extBut b o (below b (Heap.lt_size e)).1 (Heap.get?_push_of_some _ (hH2▸Heap.get?_push_of_some _ e))
  have hacc:h₁.get? s2.heap.objs.size=some { cls:=.type "list",dict:=none,data:=.seq ([]:List Value).toArray }:=hsb₁.extBut _ _ hDC (Heap.get?_push_of_some _ (hH2▸Heap.get?_push_size _ rfl))
  have hDn:H2 s2.heap.objs.size=none:=I2.fresh
  obtain ⟨W,⟨m0,w0⟩,turn⟩:=q _ hDn
  have fpo:∀b∈fp,∃o,s2.heap.get? b=some o∧∀v,o.data≠.cell v:=T.obj _ _ st2
  have fplt:∀b∈fp,b<s2.heap.objs.size:=fun b hb=>by obtain ⟨o,e,_⟩:=fpo b hb;exact Heap.lt_size e
  have hfrs:∀b∈fp,b∉frs X.stack:=fun b hb z=>by
    rcases List.mem_cons.mp (I2.stkSub b z) with z' | z'
    · exact (f2 b hb).2.1 z'
    · exact (f2 b hb).2.2.1 z'
  generalize hX:cxComp X scope cl hp2.objs.size N' s2 H2 fp (X.pn++pins)=X'
  have ok':X'.Ok:=by
    subst hX
    refine ⟨I2.ok.mod,ck.kind,I2.ok.glob,I2.ok.blt,hCle,fun x y c e1 e2=>I2.ok.inj x y c (hsub _ _ e1) (hsub _ _ e2),fun x hx=>?_,fun x c z _=>(by cases z),I2.ok.hd,I2.ok.frames,.inl rfl,fun b hb=>⟨(below b (fplt b hb)).1,fun x c e=>(f2 b hb).2.2.2.2.1 x c (hsub _ _ e)⟩,
      I2.bs,Nat.le_trans I2.ok.bsz I2.sz,fun b o e hb=>?_,hfrs,I2.stack,I2.stkFree⟩
    · -- a name that is a cell or free
      have hx':(relabel scope X.env).names.lookup x=some .cell∨(relabel scope X.env).names.lookup x=some .free:=hx
      have key:∀(names:List (Str×NameKind)),(∀y∈names,y.2≠.cell)→
          ((names.map fun (n,k)=>if (k==NameKind.free && X.env.scope.kind==.function && X.env.kindOf n==some .cell) then (n,NameKind.cell) else (n,k)).lookup x=some .cell∨
           (names.map fun (n,k)=>if (k==NameKind.free && X.env.scope.kind==.function && X.env.kindOf n==some .cell) then (n,NameKind.cell) else (n,k)).lookup x=some .free)→∃y∈names,y.1=x∧y.2=.free:=by
        intro names
        induction names with
        | nil=>intro _ h;rcases h with h | h <;> simp at h
        | cons y r ih=>
          intro hn h
          obtain ⟨n,k⟩:=y
          by_cases hb:x=n
          · subst hb
            refine ⟨(x,k),List.mem_cons_self,rfl,?_⟩
            by_cases hk:k=.free
            · exact hk
            · exfalso
              have hkb:(k==NameKind.free)=false:=by simpa using hk
              have hnc:k≠.cell:=hn (x,k) List.mem_cons_self
              simp only [List.map_cons,hkb,Bool.false_and,Bool.false_eq_true,if_false,List.lookup_cons,beq_self_eq_true,if_true] at h
              rcases h with h | h
              · exact hnc (Option.some.inj h)
              · exact hk (Option.some.inj h)
          · have hb':(x==n)=false:=by simpa using hb
            have h':((r.map fun (n,k)=>if (k==NameKind.free && X.env.scope.kind==.function && X.env.kindOf n==some .cell) then (n,NameKind.cell) else (n,k)).lookup x=some .cell∨
                (r.map fun (n,k)=>if (k==NameKind.free && X.env.scope.kind==.function && X.env.kindOf n==some .cell) then (n,NameKind.cell) else (n,k)).lookup x=some .free):=by
              rw [List.map_cons] at h
              dsimp only at h
              by_cases hcnd:(k==NameKind.free && X.env.scope.kind==.function && X.env.kindOf n==some .cell)=true
              · rw [if_pos hcnd] at h
                simpa only [List.lookup_cons,hb'] using h
              · rw [if_neg hcnd] at h
                simpa only [List.lookup_cons,hb'] using h
            obtain ⟨y,hy,e1,e2⟩:=ih (fun y hy=>hn y (List.mem_cons_of_mem _ hy)) h'
            exact ⟨y,List.mem_cons_of_mem _ hy,e1,e2⟩
      obtain ⟨y,hy,e1,e2⟩:=key scope.names ck.nocell hx'
      obtain ⟨c,hc'⟩:=hhas y hy e2
      exact ⟨c,e1▸hc'⟩
    · rcases (f2 b hb).2.2.2.1 with z | z
      · exact I2.ok.noex b o e z
      · exact absurd (Nat.lt_of_lt_of_le (Heap.lt_size e) (Nat.le_trans I2.ok.bsz z)) (Nat.lt_irrefl _)
  have stat:∀{H':Hp},(∀b∈fp,H' b=none)→∀b∈fp,FpOk X' [] H' b:=by
    subst hX
    intro H' hn b hb
    refine ⟨hn b hb,(below b (fplt b hb)).1,hfrs b hb,.inl hb,fun x c e=>(f2 b hb).2.2.2.2.1 x c (hsub _ _ e),fun p hp=>?_⟩
    have hp':p∈X.pn++pins:=by simpa [cxComp] using hp
    exact (f2 b hb).2.2.2.2.2 p hp'
  have I1:Inv X' [] (cst L src σ) (upd H2 s2.heap.objs.size (.lst [])) { s2 with heap:=h₁,toks:=s2.toks+([]:List (Str×Value)).length }:=by
    subst hX
    have up:∀b o,H2 b=some o→upd H2 s2.heap.objs.size (.lst []) b=some o:=fun b o e=>by rw [upd_ne (ne_of_none e hDn)];exact e
    have upn:∀b,b<s2.heap.objs.size→H2 b=none→upd H2 s2.heap.objs.size (.lst []) b=none:=fun b hb e=>by rw [upd_ne (Nat.ne_of_lt hb)];exact e
    refine ⟨ok',rfl,I2.bare,Un.laid old (Nat.le_refl _) hDn,⟨_,hns₁,fun i x v e1 e2 e3=>?_⟩,fun x c e=>?_,?_,fun x c e=>?_,fun p hp=>?_,I2.hok.laid old (Nat.le_refl _) ⟨Nat.zero_le _,[],0,.nil,hacc⟩,?_⟩
    · -- the names of the def around
      have hiL:L≤i:=by
        by_cases hlt:i<L
        · exfalso
          unfold cst at e2
          rw [List.getElem?_append_left (by simpa using hlt),List.getElem?_replicate,if_pos hlt] at e2
          cases e2
        · trivial
      have e2':(src.map fun j=>(σ[j]?).join)[i - L]?=some (some v):=by
        unfold cst at e2
        rw [List.getElem?_append_right (by simpa using hiL),List.length_replicate] at e2
        exact e2
      rw [List.getElem?_map] at e2'
      cases hj:src[i - L]? with
      | none=>rw [hj] at e2';cases e2'
      | some j=>
        rw [hj] at e2'
        have e3':(σ[j]?).join=some v:=Option.some.inj e2'
        have hσ:σ[j]?=some (some v):=by
          cases q:σ[j]? with
          | none=>rw [q] at e3';cases e3'
          | some o=>rw [q] at e3';exact congrArg some e3'
        obtain ⟨x',g1,g2,g3⟩:=ck.frees (i - L) j hj
        have:L+(i - L)=i:=by trivial
        rw [this] at g1
        have ex:x'=x:=Option.some.inj (g1.symm.trans e1)
        subst ex
        have hfree:=ck.free _ (PySem.mem_of_lookup g3) rfl
        obtain ⟨m,hn,hl⟩:=I2.loc
        obtain ⟨u,r,l⟩:=hl j x' v g2 hσ (hfree.elim (fun z=>.inr (.inl z)) fun z=>.inr (.inr z))
        refine ⟨u,r,.inr ⟨?_,?_⟩⟩
        · -- its kind in the block
          have key:∀(names:List (Str×NameKind)),names.lookup x'=some .free→
              ((names.map fun (n,k)=>if (k==NameKind.free && X.env.scope.kind==.function && X.env.kindOf n==some .cell) then (n,NameKind.cell) else (n,k)).lookup x'=some .cell∨
               (names.map fun (n,k)=>if (k==NameKind.free && X.env.scope.kind==.function && X.env.kindOf n==some .cell) then (n,NameKind.cell) else (n,k)).lookup x'=some .free):=by
            intro names
            induction names with
            | nil=>intro h;simp at h
            | cons y r ih=>
              intro h
              obtain ⟨n,k⟩:=y
              by_cases hb:x'=n
              · subst hb
                simp only [List.lookup_cons,beq_self_eq_true,if_true] at h
                have hk:k=.free:=Option.some.inj h
                subst hk
                rw [List.map_cons]
                dsimp only
                by_cases hcnd:(NameKind.free==NameKind.free && X.env.scope.kind==.function && X.env.kindOf x'==some .cell)=true
                · rw [if_pos hcnd];left;simp [List.lookup_cons]
                · rw [if_neg hcnd];right;simp [List.lookup_cons]
              · have hb':(x'==n)=false:=by simpa using hb
                have h':=ih (by simpa only [List.lookup_cons,hb'] using h)
                rw [List.map_cons]
                dsimp only
                by_cases hcnd:(k==NameKind.free && X.env.scope.kind==.function && X.env.kindOf n==some .cell)=true
                · rw [if_pos hcnd];simpa only [List.lookup_cons,hb'] using h'
                · rw [if_neg hcnd];simpa only [List.lookup_cons,hb'] using h'
          exact key scope.names g3
        · obtain ⟨c,hcl⟩:=hhas _ (PySem.mem_of_lookup g3) rfl
          have hcx:=hsub _ _ hcl
          rcases l with ⟨k1,_⟩ | ⟨_,c',e4,z⟩
          · exfalso
            have k1':X.env.scope.names.lookup x'=some .local:=k1
            rcases hfree with z | z
            · rw [z] at k1';cases k1'
            · rw [z] at k1';cases k1'
          · rw [hcx] at e4
            cases e4
            obtain ⟨o,ho,hd⟩:=z
            exact ⟨c,hcl,o,old _ _ ho,hd⟩
    · obtain ⟨v,o,ho,hd⟩:=I2.cell x c (hsub _ _ e)
      exact ⟨v,o,old _ _ ho,hd⟩
    · show upd H2 s2.heap.objs.size (.lst []) hp2.objs.size=none
      rw [upd_ne (Ne.symm hDC)]
      exact I2.hok.fresh hCle
    · obtain ⟨v,o,ho,hd⟩:=I2.cell x c (hsub _ _ e)
      exact upn c (Heap.lt_size ho) (I2.freeC x c (hsub _ _ e))
    · have hp':p∈X.pn++pins:=by simpa [cxComp] using hp
      obtain ⟨e,n,ne,nf,d⟩:=I2.pin p hp'
      have hlt:=Heap.lt_size e
      refine ⟨old _ _ e,upn _ hlt n,(below _ hlt).1,fun z=>?_,d⟩
      rcases List.mem_cons.mp (I2.stkSub _ z) with z' | z'
      · exact ne z'
      · exact nf z'
    · show (cst L src σ).length=N'.length
      unfold cst
      rw [List.length_append,List.length_replicate,List.length_map,ck.len]
  have eA:X'.A=X.A:=by subst hX;rfl
  have eP:X'.prog=X.prog:=by subst hX;rfl
  have eW:X'.w=X.w:=by subst hX;rfl
  have eK:X'.K=X.K:=by subst hX;rfl
  have ec:X'.calm=true:=by subst hX;exact hc
  have exe:X'.xe=fun _ _=>False:=by subst hX;rfl
  have eE:X'.env=compEnvC scope cl hp2.objs.size X.env:=by subst hX;rfl
  have hg':PG X' tg g:=by subst hX;exact hg _ _ _ _ _ _
  have hif':PIfs X' ifs tt:=by subst hX;exact hif _ _ _ _ _ _
  have he':PE X' elt te:=by subst hX;exact he _ _ _ _ _ _
  have aft:∀{H':Hp}{s':Shared},Inv X' [] (cst L src σ) H' s'→Inv X pins σ H' s'∧(∃m,s'.heap.Ns hp2.objs.size m)∧FpOk X pins H' hp2.objs.size:=by
    subst hX
    intro H' s' J
    refine ⟨I2.call' (ch:=fp) J.os J.base J.hok J.bare fun b hb=>⟨(f2 b hb).2.2.2.1,(f2 b hb).2.1,(f2 b hb).2.2.2.2.1,(f2 b hb).2.2.2.2.2⟩,?_,I2.fpOk hCle J.free⟩
    obtain ⟨m,hn,_⟩:=J.loc
    exact ⟨m,hn⟩
  have st1:tn 0 h₁:=T.keep _ _ _ st2 fun b hb o e=>old b o e
  have loop:∀s₃:Shared,s₃={ s2 with heap:=h₁,toks:=s2.toks+([]:List (Str×Value)).length }→
      codeAny (model X.prog X.w) X.A (.compLoop (.ListComp elt [⟨tg,iter,ifs,0⟩] scope pos) 0 (.ref it) (.ref s2.heap.objs.size) (compEnvC scope cl hp2.objs.size X.env))
        (RR (.ref s2.heap.objs.size) hp2.objs.size) s₃:=by
    rintro s₃ rfl
    refine compLoop_all (fun n s'=>Ex3 fun i H' ys=>Inv X' [] (cst L src σ) H' s'∧tn i s'.heap∧(∀b∈fp,H' b=none)∧W i n H' ys) ?_ m0
      ⟨0,_,[],I1,st1,fun b hb=>(by rw [upd_ne (below b (fplt b hb)).2];exact (f2 b hb).1),w0⟩
    rintro n s3 ⟨i,H3,ys,I3,st3,fr3,w3⟩
    obtain ⟨hD,alt⟩:=turn i n H3 ys w3
    rcases alt with ⟨stop,qn⟩ | ⟨go,hlen,N,hN,step⟩
    · have d:=T.done X' eP eW eK ec i [] s3 (cst L src σ) H3 (fun _ _=>False) I3 (stat fr3) st3 stop
      rw [eA] at d
      refine thn d fun r s4 ⟨hr,I4⟩=>?_
      subst hr
      obtain ⟨J,⟨m,hn⟩,fpC⟩:=aft I4
      exact hRR _ _ H3 .next s4 m J hn fpC qn
    · have d:=T.item X' eP eW eK ec i [] s3 (cst L src σ) H3 (fun _ _=>False) I3 (stat fr3) st3 go
      rw [eA] at d
      refine thn d fun r s4 ⟨u,hr,h4⟩=>?_
      subst hr
      refine thn h4 fun _ s5 ⟨x,H5,I5,r5,y5,st5,fr5⟩=>?_
      have I5':=I5.pinned (stat fr5) (T.obj _ _ st5)
      have a1:=hg' _ s5 (cst L src σ) H5 x u _ I5' r5 (step x H5 y5)
      rw [eP,eW,eA,eE,exe] at a1
      refine thn a1 fun _ s6 ⟨σ6,H6,I6,bk,q6⟩=>?_
      have a2:=hif' _ s6 σ6 H6 _ I6 q6
      rw [eP,eW,eA,eE,exe] at a2
      refine thn a2 fun b s7 ⟨H7,I7,q7⟩=>?_
      have again:∀{H8:Hp}{s8:Shared}{ys':List V},Inv X' ([]++pinsAt fp s5.heap) σ6 H8 s8→N H8 ys'→∃m,m<n∧Ex3 fun i H' ys=>Inv X' [] (cst L src σ) H' s8∧tn i s8.heap∧(∀b∈fp,H' b=none)∧W i m H' ys:=fun {H8 s8 ys'} I8 n8=>by
        obtain ⟨m',hm,w8⟩:=hN H8 ys' n8
        refine ⟨m',hm,i+1,H8,ys',(I8.unpinned).weak bk.1.symm bk.2,T.keep _ _ _ st5 fun b hb o e=>(I8.pin (b,o) (List.mem_append_right _ (List.mem_append_right _ (mem_pinsAt hb e)))).1,fun b hb=>?_,w8⟩
        obtain ⟨o,e,d⟩:=T.obj _ _ st5 b hb
        exact (I8.pin (b,o) (List.mem_append_right _ (List.mem_append_right _ (mem_pinsAt hb e)))).2.1
      cases b with
      | false=>
        rw [if_neg Bool.false_ne_true] at q7 ⊢
        exact again I7 q7
      | true=>
        rw [if_pos rfl] at q7 ⊢
        have a3:=he' _ s7 σ6 H7 _ I7 q7
        rw [eP,eW,eA,eE,exe] at a3
        refine thn a3 fun xv s8 ⟨y,H8,I8,r8,hD8,q8⟩=>?_
        have a4:=mt_append (X:=X') _ s8 σ6 H8 (.ref s2.heap.objs.size) [y] (.ref s2.heap.objs.size) [xv] (fun _ H'=>H'=upd H8 s2.heap.objs.size (.lst (ys++[y]))) I8 rfl (.cons r8 .nil) ⟨_,ys,y,rfl,rfl,hD8,hlen,rfl⟩
        rw [eP,eW,eA,exe] at a4
        refine thn a4 fun _ s9 ⟨_,H9,I9,_,e9⟩=>?_
        subst e9
        exact again I9 q8
  exact codeAny_compStart_list (loop _ rfl) (T.self _ 0 _ _ _ st1 (loop _ rfl))
theorem pe_comp (hc:X.calm=true) (ck:compChk X.env.scope X.N scope N' L src=true) (hi:PI X tg iter wi) (hg:∀cl C s H ex pn,PG (cxComp X scope cl C N' s H ex pn) tg g) (hif:∀cl C s H ex pn,PIfs (cxComp X scope cl C N' s H ex pn) ifs tt)
    (he:∀cl C s H ex pn,PE (cxComp X scope cl C N' s H ex pn) elt te) (hs:∀x,foldedSetIterable iter X.env x=pure x:=by intro _;rfl) :
    PE X (.ListComp elt [⟨tg,iter,ifs,0⟩] scope pos) (tComp wi L src g tt te):=by
  intro pins s σ H Q I h
  have ck:=compOk_of ck
  obtain ⟨cl,hclos,hsub,hhas⟩:=clos_ok (scope:=scope) (env:=X.env) fun y hy e=>I.ok.has y.1 (ck.free y hy e)
  rw [eval_ListComp]
  refine wpAny_comprehension_free (use:=none) rfl hs hclos ck.kind ck.loc (comp_run hc ck I hsub hhas hi hg hif he h (RR:=fun acc C=>compPost (model X.prog X.w) X.A X.xe none (EP X pins σ Q) acc C) ?_)
  intro D C H' f s' m J hn fpC q
  refine ⟨m,hn,fun h' hsb=>⟨.ref D,H',?_,rfl,q⟩⟩
  obtain ⟨f0,f1,f2,f3,f4,f5⟩:=fpC
  exact J.turned (t':=s'.toks) (fun b o hb e=>(hsb.2 b hb).trans e) f0 f1 f3 f4 f5
theorem ps_setComp {j:Nat}{y:Str}{py spos:Pos} (hN:X.N.Nodup) (hj:X.N[j]?=some y) (hy:X.env.scope.names.lookup y=some .local) (hsw:swapsWith (.ListComp elt [⟨tg,iter,ifs,0⟩] scope pos) (some (.Name y py)) spos.line X.env=pure true)
    (hc:X.calm=true) (ck:compChk X.env.scope X.N scope N' L src=true) (hi:PI X tg iter wi) (hg:∀cl C s H ex pn,PG (cxComp X scope cl C N' s H ex pn) tg g) (hif:∀cl C s H ex pn,PIfs (cxComp X scope cl C N' s H ex pn) ifs tt)
    (he:∀cl C s H ex pn,PE (cxComp X scope cl C N' s H ex pn) elt te) (hs:∀x,foldedSetIterable iter X.env x=pure x:=by intro _;rfl) :
    PS X (.Assign [.Name y py] (.ListComp elt [⟨tg,iter,ifs,0⟩] scope pos) spos) (tAsg (tComp wi L src g tt te) (gName j)):=by
  intro pins s σ H D I h
  have ck:=compOk_of ck
  obtain ⟨cl,hclos,hsub,hhas⟩:=clos_ok (scope:=scope) (env:=X.env) fun y hy e=>I.ok.has y.1 (ck.free y hy e)
  rw [exec_Assign_Name_used _ _ _ _ hsw]
  refine wpAny_bind (wpAny_standAt (wpAny_bind ?_))
  show wpAny _ X.A (do let _ ←comprehension (.ListComp elt [⟨tg,iter,ifs,0⟩] scope pos) scope X.env _ (newList []) false (eval iter X.env) (some (assign (.Name y py) X.env))) _ _ s
  refine wpAny_bind (wpAny_mono (wpAny_comprehension_free (use:=some (assign (.Name y py) X.env)) (Q:=fun _ s'=>SP X pins D .next s') rfl hs hclos ck.kind ck.loc
    (comp_run hc ck I hsub hhas hi hg hif he h (RR:=fun acc C=>compPost (model X.prog X.w) X.A X.xe (some (assign (.Name y py) X.env)) (fun _ s'=>SP X pins D .next s') acc C) ?_)) (fun _ s' hq=>wpAny_pure (wpAny_pure hq)) fun _ _ e=>e)
  intro L' C H' f s' m J hn fpC q
  show wpAny _ X.A (assign (.Name y py) X.env (.ref L')) _ _ _
  refine wpAny_assign_Name (store_ok2 J hN hj (.inl hy) (v:=.ref L') rfl (fun s2 J2 hsb=>?_) (.inr hy))
  obtain ⟨f0,f1,f2,f3,f4,f5⟩:=fpC
  obtain ⟨a,hsb,ha⟩:=hsb
  have hCa:C≠a:=by
    rcases ha with rfl | ha
    · exact f1
    · exact fun z=>f4 _ _ ha z.symm
  refine ⟨m,hn.sameBut hsb hCa,fun h' hsb'=>⟨_,H',?_,q⟩⟩
  exact J2.turned (t':=s2.toks) (fun b o hb e=>(hsb'.2 b hb).trans e) f0 f1 f3 f4 f5
end
theorem comp_over {J:It}{n:Nat}{H1:Hp}{D:Addr}{σc:St}{g:TG}{tt:TT}{te:TE}{Q:VK} (Pv:Nat→Hp→List V→Prop) (hz:n≤sizeLine) (h0:Pv 0 (upd H1 D (.lst [])) [])
    (hD:∀i H ys,Pv i H ys→H D=some (.lst ys)∧ys.length≤i)
    (hgo:∀i H ys,i<n→Pv i H ys→J.go i H) (hst:∀H ys,Pv n H ys→J.stop n H)
    (hs:∀i H ys x H',i<n→Pv i H ys→J.yld i H x H'→g x σc H' fun σ2 H2=>Back σc σ2∧tt σ2 H2 fun b H3=>if b=true then te σ2 H3 fun y H4=>H4 D=some (.lst ys)∧Pv (i+1) (upd H4 D (.lst (ys++[y]))) (ys++[y]) else Pv (i+1) H3 ys)
    (hd:∀H ys,Pv n H ys→Q (.ref D) H):CompW J σc g tt te D H1 Q:=by
  refine ⟨fun i m H ys=>m=n - i∧i≤n∧Pv i H ys,⟨n,by simp,Nat.zero_le _,h0⟩,?_⟩
  rintro i m H ys ⟨rfl,hi,p⟩
  obtain ⟨q1,q2⟩:=hD i H ys p
  refine ⟨q1,?_⟩
  by_cases hlt:i<n
  · exact .inr ⟨hgo i H ys hlt p,by trivial,Pv (i+1),fun H' ys' p'=>⟨n - (i+1),by trivial,rfl,hlt,p'⟩,fun x H' y=>hs i H ys x H' hlt p y⟩
  · have e:i=n:=by trivial
    subst e
    exact .inl ⟨hst H ys p,hd H ys p⟩
theorem comp_each {J:It}{n:Nat}{H1:Hp}{D:Addr}{σc:St}{g:TG}{te:TE}{Q:VK} (Pv:Nat→Hp→List V→Prop) (hz:n≤sizeLine) (h0:Pv 0 (upd H1 D (.lst [])) [])
    (hD:∀i H ys,Pv i H ys→H D=some (.lst ys)∧ys.length≤i)
    (hgo:∀i H ys,i<n→Pv i H ys→J.go i H) (hst:∀H ys,Pv n H ys→J.stop n H)
    (hs:∀i H ys x H',i<n→Pv i H ys→J.yld i H x H'→g x σc H' fun σ2 H2=>Back σc σ2∧te σ2 H2 fun y H4=>H4 D=some (.lst ys)∧Pv (i+1) (upd H4 D (.lst (ys++[y]))) (ys++[y]))
    (hd:∀H ys,Pv n H ys→Q (.ref D) H):CompW J σc g tT te D H1 Q:=by
  refine comp_over Pv hz h0 hD hgo hst (fun i H ys x H' hi p y=>?_) hd
  have e:=hs i H ys x H' hi p y
  have q:(fun (σ2:St) (H2:Hp)=>Back σc σ2∧tT σ2 H2 fun b H3=>if b=true then te σ2 H3 fun y H4=>H4 D=some (.lst ys)∧Pv (i+1) (upd H4 D (.lst (ys++[y]))) (ys++[y]) else Pv (i+1) H3 ys) =
      (fun σ2 H2=>Back σc σ2∧te σ2 H2 fun y H4=>H4 D=some (.lst ys)∧Pv (i+1) (upd H4 D (.lst (ys++[y]))) (ys++[y])):=by
    funext σ2 H2
    unfold tT
    dsimp only
    rw [if_pos rfl]
  rw [q]
  exact e
end L2
namespace L2
open PySem PySem.Spec PyProof.Rows
section
variable {X:Cx}{pins:List (Addr×Obj)}{σ:St}{H:Hp}{s:Shared}{h':Heap}
theorem Inv.turnedNew {t':Nat}{ch:List Addr}{T:Addr}{o:HO} (I:Inv X pins σ H s) (hf:∀b∈ch,FpOk X pins H b) (k:∀b u,b∉ch→s.heap.get? b=some u→h'.get? b=some u)
    (hT:s.heap.objs.size≤T) (new:ObjOk X.prog X.w (upd H T o) h' T o):Inv X pins σ (upd H T o) { s with heap:=h',toks:=t' }:=by
  have hn:H T=none:=I.hok.fresh hT
  refine I.step (g':=s.gens) (d':=s.drawn) (ch:=ch) (fun b hb=>?_) (fun b o _ _ hc e _=>k b o hc e) (fun b o _ _ hc e _=>⟨o.slots,k b o hc e⟩) (fun b o hc e n=>?_)
    (fun b o hc e=>⟨o,k b o hc e⟩) (fun b xs e=>?_) (fun b o u e=>?_) (fun b ps e=>?_) (fun m hm=>?_) (fun b u e=>?_) I.bare
  · obtain ⟨f0,f1,f2,f3,f4,f5⟩:=hf b hb
    exact ⟨f3,f1,f4,f5⟩
  · rw [upd_ne (Nat.ne_of_lt (Nat.lt_of_lt_of_le (Heap.lt_size e) hT))];exact n
  · rw [upd_ne (ne_of_none e hn)];exact e
  · rw [upd_ne (ne_of_none e hn)];exact e
  · exact ⟨#[],by rw [upd_ne (ne_of_none e hn),e];simp⟩
  · obtain ⟨o,es,ep,ho,r⟩:=hm
    exact ⟨o,es,ep,k _ o (fun z=>(hf _ z).2.1 rfl) ho,r⟩
  · by_cases hb:b=T
    · subst hb;rw [upd_same] at e;cases e;exact new
    · rw [upd_ne hb] at e
      refine (I.hok b u e).stay (fun c v hc q=>k c v (fun z=>?_) q) (fun c q=>by rw [upd_ne (ne_of_none q hn)];exact q) fun c xs q=>by rw [upd_ne (ne_of_none q hn)];exact q
      have hcn:=(hf c z).1
      rcases hc with rfl | hc
      · rw [e] at hcn;cases hcn
      · rw [hc] at hcn;cases hcn
end
section
variable {X:Cx}
end
def Ite (K:PySem.W.Frag) (a:Addr):It:=
  ⟨fun i H=>Ex2 fun xs x=>SqL K H a xs∧xs[i]?=some x,fun i H v H'=>Ex2 fun T x=>H T=none∧v=.ref T∧H'=upd H T (.tup [.int (i:Int),x])∧∀xs,SqL K H a xs→xs[i]?=some x,fun i H=>∃xs,SqL K H a xs∧xs.length≤i⟩
theorem turn_enum {P:Program}{w:World}{K:PySem.W.Frag}{es:List Expr}{kk:Nat}{pos:Pos} (a e it:Addr) (hne:e≠it) :
    Turn P w K (.Tuple es kk pos) (Ite K a) [e,it] e (fun i h=>(∃old,IsEnum h e it i old)∧h.IsListIter it a i) where
  mem:=by simp
  obj:=fun i h st b hb=>by
    obtain ⟨⟨old,he⟩,o,e1,c,d⟩:=st
    have hb':b=e∨b=it:=by simpa using hb
    rcases hb' with rfl | rfl
    · exact ⟨_,he,fun v z=>by
        have z':Data.fields _=Data.cell v:=z
        cases z'⟩
    · exact ⟨o,e1,fun v z=>by rw [d] at z;cases z⟩
  keep:=fun i h h' st k=>by
    obtain ⟨⟨old,he⟩,hi⟩:=st
    exact ⟨⟨old,k e (by simp) _ he⟩,hi.at fun o q=>k it (by simp) o q⟩
  item:=by
    intro X hP hw hK hc i pins s σ H E I hf st hg
    subst hP hw hK
    obtain ⟨⟨old,he⟩,hit⟩:=st
    obtain ⟨xs,x,hq,hx⟩:=hg
    obtain ⟨its,rv,p,hz⟩:=I.list hq
    obtain ⟨u,hu,ru⟩:=rv.get hx
    have hnT:H s.heap.objs.size=none:=I.fresh
    refine wpAny_pyNext_enum_item he hit p.isList (x:=u) (by simpa using hu) hne fun h' ho hit' hT hsz hk=>?_
    refine ⟨_,rfl,wpAny_letOwnedTupleGo_enum (s:={ s with heap:=h',toks:=s.toks+1 }) ho fun h'' he'' hs''=>?_⟩
    have helt:e<s.heap.objs.size:=Heap.lt_size he
    have hilt:it<s.heap.objs.size:=by obtain ⟨_,y,_⟩:=hit;exact Heap.lt_size y
    have hT'':h''.get? s.heap.objs.size=some { cls:=.type "tuple",data:=.seq #[.int i s.toks,u] }:=(hs''.2 _ (Nat.ne_of_gt helt)).trans hT
    refine ⟨.ref s.heap.objs.size,upd H s.heap.objs.size (.tup [.int (i:Int),x]),I.turnedNew (ch:=[e,it]) (t':=s.toks+1) hf (fun b o hb q=>?_) (Nat.le_refl _) ?_,rfl,⟨_,x,hnT,rfl,rfl,fun ys hy=>by rw [I.list_inj hy hq];exact hx⟩,⟨⟨u,?_⟩,hit'.extBut hs''.extBut (Ne.symm hne)⟩,fun b hb=>?_⟩
    · have h1:b≠e:=fun z=>hb (by simp [z])
      have h2:b≠it:=fun z=>hb (by simp [z])
      exact (hs''.2 b h1).trans (hk b o h1 h2 q)
    · exact ⟨by show 2≤sizeLine;decide,[.int i s.toks,u],.cons ⟨_,rfl⟩ (.cons ru .nil),⟨_,hT'',rfl,_,rfl⟩,_,hT'',rfl⟩
    · simpa using he''
    · have hb':b=e∨b=it:=by simpa using hb
      have hlt:b<s.heap.objs.size:=by rcases hb' with rfl | rfl <;> assumption
      rw [upd_ne (Nat.ne_of_lt hlt)]
      exact (hf b hb).1
  done:=by
    intro X hP hw hK hc i pins s σ H E I hf st hg
    subst hP hw hK
    obtain ⟨⟨old,he⟩,hit⟩:=st
    obtain ⟨xs,hq,hx⟩:=hg
    obtain ⟨its,rv,p,hz⟩:=I.list hq
    obtain ⟨f0,f1,f2,f3,f4,f5⟩:=hf it (by simp)
    have hl:=rv.length
    exact wpAny_pyNext_enum_end (I.ok.hd hc) he hit p.isList (by simp;trivial) fun h' eb=>⟨rfl,I.turned (t':=s.toks) (fun b o hb e=>eb b o hb e) f0 f1 f3 f4 f5⟩
  self:=fun _ _ _ _ _ st h=>by
    obtain ⟨⟨old,he⟩,_⟩:=st
    exact wpAny_pyIter_enum he h
def iEnum (K:PySem.W.Frag) (ta:TA):TI:=fun σ H R=>ta σ H fun vs H1=>∃a,vs=[.ref a]∧(∃xs,SqL K H1 a xs)∧R (Ite K a) H1
theorem pi_enum {X:Cx}{es:List Expr}{kk:Nat}{tp:Pos}{a:Expr}{ta:TA}{p pos:Pos} (hg:Gl X "enumerate") (hm:X.mg "enumerate" = none) (ha:PA X [a] ta) (hs:starEach [a] X.env=[(false,eval a X.env)]:=by rfl) :
    PI X (.Tuple es kk tp) (.Call (.Name "enumerate" p) [a] [] pos) (iEnum X.K ta):=by
  intro pins s σ H R I h
  refine Call_ (ld_blt I hg hm boot_enumerate (PyProof.Rows.callWith_type1 (thn (ha pos pins s σ H _ I h) fun us s1 ⟨vs,H1,I1,r1,q1⟩=>?_) hs rfl))
  obtain ⟨a,rfl,⟨xs,hq⟩,q⟩:=q1
  obtain ⟨u,rfl,ru⟩:=r1.one
  obtain rfl:u=.ref a:=ru
  obtain ⟨its,rv,p,hz⟩:=I1.list hq
  refine call_enumerate_list p.isList fun h' hE hI hsz hk=>wpAny_pyIter_enum hE ?_
  have I2:Inv X pins σ H1 { s1 with heap:=h',toks:=s1.toks }:=I1.kept hk
  refine ⟨s1.heap.objs.size+1,[s1.heap.objs.size+1,s1.heap.objs.size],_,_,H1,rfl,I2,turn_enum a (s1.heap.objs.size+1) s1.heap.objs.size (Nat.succ_ne_self _),⟨⟨_,hE⟩,hI⟩,fun b hb=>?_,q⟩
  have hb':b=s1.heap.objs.size+1∨b=s1.heap.objs.size:=by simpa using hb
  have hle:s1.heap.objs.size≤b:=by rcases hb' with rfl | rfl <;> trivial
  exact I1.fpOk hle (I1.hok.fresh hle)
end L2
namespace L2
open PySem PySem.Spec PyProof.Rows
theorem boot_b_len:bootBuiltins "len" = some (.builtin "len"):=by decide +kernel
theorem boot_b_abs:bootBuiltins "abs" = some (.builtin "abs"):=by decide +kernel
theorem boot_b_max:bootBuiltins "max" = some (.builtin "max"):=by decide +kernel
theorem boot_b_divmod:bootBuiltins "divmod" = some (.builtin "divmod"):=by decide +kernel
theorem boot_b_isinstance:bootBuiltins "isinstance" = some (.builtin "isinstance"):=by decide +kernel
theorem boot_ty_int:bootBuiltins "int" = some (.type "int"):=by decide +kernel
theorem boot_ty_list:bootBuiltins "list" = some (.type "list"):=by decide +kernel
theorem pe_ty {X:Cx}{x:Str}{T:String}{pos:Pos} (hg:Gl X x) (hm:X.mg x=none) (hv:bootBuiltins x=some (.type T)) (hn:x≠"__name__" := by decide) (hd:(x==("__debug__" : Str))=false:=by decide):PE X (.Name x pos) (tC (.ty T)):=
  pe_bltn (v:=.ty T) hg hm hv rfl hn hd
mutual
inductive IsD (E:Addr→Prop) (H:Hp):V→PyData→Prop
  | non:IsD E H .non .none
  | bl (b:Bool):IsD E H (.bl b) (.bool b)
  | int (i:Int):IsD E H (.int i) (.int i)
  | str (x:Str):IsD E H (.str x) (.str x)
  | lst {a:Addr}{xs:List V}{ds:List PyData} (h:H a=some (.lst xs)) (ne:¬E a) (r:IsAll E H xs ds):IsD E H (.ref a) (.list ds)
  | tup {a:Addr}{xs:List V}{ds:List PyData} (h:H a=some (.tup xs)) (r:IsAll E H xs ds):IsD E H (.ref a) (.tuple ds)
inductive IsAll (E:Addr→Prop) (H:Hp):List V→List PyData→Prop
  | nil:IsAll E H [] []
  | cons {x:V}{xs:List V}{d:PyData}{ds:List PyData} (h:IsD E H x d) (r:IsAll E H xs ds):IsAll E H (x :: xs) (d :: ds)
end
structure SameE (E:Addr→Prop) (H H':Hp):Prop where
  old:∀a o,¬E a→H a=some o→H' a=some o
  tup:∀a xs,H a=some (.tup xs)→H' a=some (.tup xs)
theorem SameE.trans {E:Addr→Prop}{H H1 H2:Hp} (a:SameE E H H1) (b:SameE E H1 H2):SameE E H H2:=⟨fun c o n h=>b.old c o n (a.old c o n h),fun c xs h=>b.tup c xs (a.tup c xs h)⟩
theorem Same.toE {E:Addr→Prop}{H H':Hp} (a:Same H H'):SameE E H H':=⟨fun c o _ h=>a c o h,fun c xs h=>a c _ h⟩
theorem Same.new {H:Hp}{p:Addr}{o:HO} (h:H p=none):Same H (upd H p o):=fun b u e=>by rw [upd_ne (ne_of_none e h)];exact e
mutual
theorem IsD.reads {E:Addr→Prop}{P:Program}{w:World}{H:Hp}{h:Heap} (ok:HOk P w H h):∀{v:V}{d:PyData},IsD E H v d→∀{u:Value},RelV v u→∃as,Reads h u d as
  | _,_,.non,u,r=>by obtain rfl:u=.none:=r;exact ⟨_,.none⟩
  | _,_,.bl b,u,r=>by obtain rfl:u=.bool b:=r;exact ⟨_,.bool b⟩
  | _,_,.int i,u,r=>by obtain ⟨t,rfl⟩:=r;exact ⟨_,.int i t⟩
  | _,_,.str x,u,r=>by obtain ⟨t,rfl⟩:=r;exact ⟨_,.str x t⟩
  | _,_,.lst (a:=a) (xs:=xs) e _ q,u,r=>by
    obtain rfl:u=.ref a:=r
    obtain ⟨_,its,n,rv,e1⟩:=(show ObjOk P w H h a (.lst xs) from ok a _ e)
    obtain ⟨as,ra⟩:=IsAll.reads ok q rv
    exact ⟨_,.list e1 rfl rfl (by simpa using ra)⟩
  | _,_,.tup (a:=a) (xs:=xs) e q,u,r=>by
    obtain rfl:u=.ref a:=r
    obtain ⟨_,its,rv,⟨o,e1,c,n,dd⟩,_⟩:=(show ObjOk P w H h a (.tup xs) from ok a _ e)
    obtain ⟨as,ra⟩:=IsAll.reads ok q rv
    exact ⟨_,.tuple e1 c dd (by simpa using ra)⟩
theorem IsAll.reads {E:Addr→Prop}{P:Program}{w:World}{H:Hp}{h:Heap} (ok:HOk P w H h):∀{vs:List V}{ds:List PyData},IsAll E H vs ds→∀{us:List Value},Vals vs us→∃as,ReadsAll h us ds as
  | _,_,.nil,us,r=>by cases r;exact ⟨_,.nil⟩
  | _,_,.cons q qs,us,r=>by
    cases r with
    | cons r1 rr=>
      obtain ⟨as,h1⟩:=IsD.reads ok q r1
      obtain ⟨bs,h2⟩:=IsAll.reads ok qs rr
      exact ⟨_,.cons h1 h2⟩
end
section
variable {X:Cx}
def CDivB (_ j:Int):Prop:=0<j∧j.natAbs.log2<9000
theorem op_fdivB:OpR X (binaryOp .FloorDiv) (rI CDivB fun i j=>.int (i / j)):=opI fun i j _ _ _ _ _ hc q=>by
  rw [←Int.fdiv_eq_ediv_of_nonneg _ (Int.le_of_lt hc.1)] at q
  exact floordiv_int (Int.ne_of_gt hc.1) q (.inl (PyProof.noPylong_of_log2 hc.2))
end
end L2
namespace L2
open PySem PySem.Spec PyProof.Rows
def tyN:PyData→String
  | .none => "NoneType"
  | .bool _ => "bool"
  | .int _ => "int"
  | .str _ => "str"
  | .list _ => "list"
  | .tuple _ => "tuple"
  | .dict _ => "dict"
theorem IsD.ty {K:PySem.W.Frag}{E:Addr→Prop}{H:Hp}{v:V}{d:PyData} (h:IsD E H v d):TyOf K H v (.type (tyN d)):=by
  cases h with
  | non=>exact .non
  | bl b=>exact .bl b
  | int i=>exact .int i
  | str x=>exact .str x
  | lst h ne r=>exact .lst h
  | tup h r=>exact .tup h
def isLstB:PyData→Bool
  | .list _=>true
  | _=>false
theorem kit_list {K:PySem.W.Frag} (d:PyData):PySem.W.kitOne K (.type (tyN d)) (.type "list")=some (isLstB d):=by cases d <;> rfl
inductive rIsi_ (K:PySem.W.Frag) (xs:List V) (H:Hp) (Q:VK):Prop
  | mk (x:_) (T:_) (t:_) (b:_) (h0:xs=[x,.ty T]) (h1:TyOf K H x t) (h2:PySem.W.kitOne K t (.type T)=some b) (h3:Q (.bl b) H)
def rIsi (K:PySem.W.Frag):List V→Hp→VK→Prop:=fun xs H Q=>rIsi_ K xs H Q
end L2
namespace L2
open PySem PySem.Spec PyProof.Rows
section
variable {X:Cx}
theorem call_divmodB:CallR X (.builtin "divmod") (fun xs H Q=>Ex2 fun i j=>xs=[.int i,.int j]∧CDivB i j∧∀p,H p=none→Q (.ref p) (upd H p (.tup [.int (i / j),.int (i % j)]))):=by
  intro pins s σ H xs us Q I r h
  obtain ⟨i,j,rfl,⟨h1,h2⟩,q⟩:=h
  obtain ⟨u,w',rfl,⟨t,rfl⟩,⟨t',rfl⟩⟩:=vals2 r
  refine divmod_int (by trivial) ?_ (.inl (PyProof.noPylong_of_log2 h2))
  rw [Int.fdiv_eq_ediv_of_nonneg i (by trivial),Int.fmod_eq_emod_of_nonneg i (by trivial)]
  have hn:H s.heap.objs.size=none:=I.hok.fresh (Nat.le_refl _)
  refine ⟨.ref s.heap.objs.size,_,?_,rfl,q _ hn⟩
  refine I.laid (fun b o e=>Heap.get?_push_of_some _ e) (Nat.le_refl _) ⟨by simp only [List.length_cons,List.length_nil];rw [sizeLine_eq];decide,[.int (i / j) s.toks,.int (i % j) (s.toks+1)],.cons ⟨_,rfl⟩ (.cons ⟨_,rfl⟩ .nil),?_⟩
  exact ⟨⟨_,Heap.get?_push_size s.heap rfl,rfl,0,rfl⟩,_,Heap.get?_push_size s.heap rfl,rfl⟩
end
theorem b01 (c:Bool):-(2 ^ 64)<(if c=true then (1:Int) else 0)∧(if c=true then (1:Int) else 0)<2 ^ 64:=by cases c <;> decide
theorem abs_nn (x:Int):0≤(if x<0 then -x else x):=by split <;> trivial
theorem mul01 {x:Int} (c:Bool) (h:0≤x):0≤x*(if c=true then (1:Int) else 0):=by cases c <;> simp [h]
theorem atI_int {ms:List Int}{k:Int} (h0:0≤k) (h:k.toNat<ms.length):atI (ms.map V.int) k=some (V.int ms[k.toNat]):=by
  have q:=atI_nat (xs:=ms.map V.int) (j:=k.toNat) (v:=V.int ms[k.toNat]) (by rw [List.getElem?_map];simp [h])
  rwa [Int.toNat_of_nonneg h0] at q
def Bx (H:Hp) (b:Addr) (t:Int):Prop:=∃c x:Int,H b=some (.lst [.int c,.int x,.int t])∧0≤c∧0≤x∧x<2147483647
abbrev Eb (b:Addr):Addr→Prop:=fun a=>a=b
theorem Bx.same {H H':Hp}{b:Addr}{t:Int} (h:Bx H b t) (k:Same H H'):Bx H' b t:=by
  obtain ⟨c,x,e,r⟩:=h
  exact ⟨c,x,k _ _ e,r⟩
theorem sameE_upd {H H1:Hp}{b:Addr}{xs:List V}{o:HO} (k:Same H H1) (hb:H1 b=some (.lst xs)):SameE (Eb b) H (upd H1 b o):=
  ⟨fun a u n h=>by rw [upd_ne n];exact k a u h,fun a ys h=>by
    have e:=k a _ h
    rw [upd_ne (ne_of e hb (by intro z;cases z))];exact e⟩
inductive spBox_ (K:PySem.W.Frag) (vs:List V) (H:Hp) (Q:VK):Prop
  | mk (a:Addr) (ms:List Int) (k:Int) (h0:vs=[.ref a,.int k]) (h1:SqL K H a (ms.map V.int)) (h2:0≤k) (h3:k≤63) (h4:∀p H',H p=none→Same H H'→Bx H' p 0→Q (.ref p) H')
def spBox (K:PySem.W.Frag):Sp:=fun vs H Q _=>spBox_ K vs H Q
inductive spTake_ (vs:List V) (H:Hp) (Q:VK):Prop
  | mk (b:Addr) (many t:Int) (h0:vs=[.ref b,.int many]) (h1:Bx H b t) (h2:0<many) (h3:many.natAbs.log2<9000) (h4:0≤t) (h5:t≤1000000) (h6:∀r t' H',0≤r→r<many→t≤t'→t'≤t+1→SameE (Eb b) H H'→Bx H' b t'→Q (.int r) H')
def spTake:Sp:=fun vs H Q _=>spTake_  vs H Q
end L2
namespace L2
open PySem PySem.Spec PyProof.Rows
def nodupB:List Str→Bool
  | []=>true
  | x :: r=>!r.contains x && nodupB r
theorem nodupS:∀l:List Str,nodupB l=true→l.Nodup
  | [],_=>List.nodup_nil
  | x :: r,h=>by
    unfold nodupB at h
    simp only [Bool.and_eq_true,Bool.not_eq_true',List.contains_eq_mem,decide_eq_false_iff_not] at h
    exact List.nodup_cons.mpr ⟨h.1,nodupS r h.2⟩
inductive rLen_ (K:PySem.W.Frag) (xs:List V) (H:Hp) (Q:VK):Prop
  | mk (p:_) (ys:_) (h0:xs=[.ref p]) (h1:(SqL K H p ys∨SqT K H p ys)) (h2:Q (.int ys.length) H)
def rLen (K:PySem.W.Frag):List V→Hp→VK→Prop:=fun xs H Q=>rLen_ K xs H Q
section
variable {X:Cx}{K:PySem.W.Frag}
theorem isinst_k (e:X.K=K:=by rfl):CallR X (.builtin "isinstance") (rIsi K):=by subst e;exact fun pins s σ H xs us Q I r ⟨x,T,t,b,h1,h2,h3,q⟩=>call_isinst pins s σ H xs us Q I r ⟨x,T,t,b,h1,h2,h3,q⟩
theorem len_k (e:X.K=K:=by rfl):CallR X (.builtin "len") (rLen K):=by subst e;exact fun pins s σ H xs us Q I r ⟨p,ys,h1,h2,q⟩=>call_len_seq pins s σ H xs us Q I r ⟨p,ys,h1,h2,q⟩
theorem ixL_k (e:X.K=K:=by rfl):IxR X (rIxL K):=by subst e;exact ix_list
theorem pg_tup_k {pos:Pos}{es:List Expr}{k:Nat}{t:TGs}{n:Nat} (hc:X.calm=true) (h:PGs X es t) (e:X.K=K:=by rfl)
    (hn:(assignEach es X.env).length=n:=by rfl) (hst:(assignEach es X.env).findIdx? (·.1)=none:=by rfl):PG X (.Tuple es k pos) (gTup K n t):=by
  subst e;exact pg_tup hc h hn hst
end
end L2
namespace L2
open PySem PySem.Spec PyProof.Rows
def notStar:Expr→Bool
  | .Starred ..=>false
  | _=>true
theorem star_cons {e:Expr}{es:List Expr}{env:Env} (h:notStar e=true):starEach (e :: es) env=(false,eval e env) :: starEach es env:=by
  cases e <;> first | rfl | (simp [notStar] at h)
section
variable {X:Cx}{e:Expr}{es:List Expr}{te:TE}{t:TA}
theorem pa_c (ha:PE X e te) (hr:PA X es t) (hs:notStar e=true:=by rfl):PA X (e :: es) (tCons te t):=pa_cons ha hr (star_cons hs)
theorem pw (i:Nat) {x:Str}{pos:Pos} (hv:Vis X.env.scope x) (hN:X.N[i]?=some x:=by rfl) (hd:(x==("__debug__" : Str))=false:=by decide) (hcd:(x==("__classdict__" : Str))=false:=by decide):PE X (.Name x pos) (tVar i):=pe_var hN hv hd hcd
end
end L2
namespace KM
theorem gcd_zero_abs (n:Int):((Int.gcd n 0:Nat):Int)=if n<0 then -n else n:=by
  rw [Int.gcd_zero_right]
  split <;> trivial
theorem gcd_emod (n d:Int):Int.gcd d (n % d)=Int.gcd n d:=by
  by_cases h:d=0
  · subst h;rw [Int.emod_zero,Int.gcd_comm]
  · apply Nat.dvd_antisymm
    · apply Int.dvd_gcd
      · have h1:((Int.gcd d (n % d):Nat):Int) ∣ d:=Int.gcd_dvd_left ..
        have h2:((Int.gcd d (n % d):Nat):Int) ∣ n % d:=Int.gcd_dvd_right ..
        have h3:=Int.dvd_add h2 (Int.dvd_mul_of_dvd_left (c:=n / d) h1)
        rw [Int.emod_add_mul_ediv] at h3
        exact h3
      · exact Int.gcd_dvd_left ..
    · apply Int.dvd_gcd
      · exact Int.gcd_dvd_right ..
      · rw [Int.emod_def]
        exact Int.dvd_sub (Int.gcd_dvd_left ..) (Int.dvd_mul_of_dvd_left (Int.gcd_dvd_right ..))
end KM
namespace KM
def low (n d:Int):Int×Int:=if 0<d then (n / (Int.gcd n d:Nat),d / (Int.gcd n d:Nat)) else (-n / (Int.gcd n d:Nat),-d / (Int.gcd n d:Nat))
theorem gcd_pos {n d:Int} (h:d≠0):0<Int.gcd n d:=by
  apply Nat.pos_of_ne_zero
  intro e
  exact h (Int.gcd_eq_zero_iff.mp e).2
theorem gcd_abs (n d:Int):Int.gcd (if n<0 then -n else n) (if d<0 then -d else d)=Int.gcd n d:=by
  split <;> split <;> simp [Int.gcd_neg,Int.neg_gcd]
theorem low_spec (n d:Int) (h:d≠0):1≤(low n d).2∧(low n d).1*d=n*(low n d).2∧Int.gcd (low n d).1 (low n d).2=1∧(low n d).1.natAbs≤n.natAbs∧(low n d).2.natAbs≤d.natAbs:=by
  have g0:=gcd_pos (n:=n) h
  have gi:((Int.gcd n d:Nat):Int)≠0:=by trivial
  have d1:((Int.gcd n d:Nat):Int) ∣ n:=Int.gcd_dvd_left ..
  have d2:((Int.gcd n d:Nat):Int) ∣ d:=Int.gcd_dvd_right ..
  obtain ⟨a,ha⟩:=d1
  obtain ⟨b,hb⟩:=d2
  have ea:n / ((Int.gcd n d:Nat):Int)=a:=by
    conv=>lhs;lhs;rw [ha]
    exact Int.mul_ediv_cancel_left _ gi
  have eb:d / ((Int.gcd n d:Nat):Int)=b:=by
    conv=>lhs;lhs;rw [hb]
    exact Int.mul_ediv_cancel_left _ gi
  have ena:-n / ((Int.gcd n d:Nat):Int)=-a:=by
    have:-n=((Int.gcd n d:Nat):Int)*(-a):=by rw [Int.mul_neg];trivial
    rw [this]
    exact Int.mul_ediv_cancel_left _ gi
  have enb:-d / ((Int.gcd n d:Nat):Int)=-b:=by
    have:-d=((Int.gcd n d:Nat):Int)*(-b):=by rw [Int.mul_neg];trivial
    rw [this]
    exact Int.mul_ediv_cancel_left _ gi
  have hco:Int.gcd a b=1:=by
    have:=Int.gcd_ediv_gcd_ediv_gcd (i:=n) (j:=d) g0
    rw [ea,eb] at this
    exact this
  have hgp:(0:Int)<((Int.gcd n d:Nat):Int):=by trivial
  have habs:n.natAbs=Int.gcd n d*a.natAbs:=by
    conv=>lhs;rw [ha]
    rw [Int.natAbs_mul];rfl
  have hbbs:d.natAbs=Int.gcd n d*b.natAbs:=by
    conv=>lhs;rw [hb]
    rw [Int.natAbs_mul];rfl
  have la:a.natAbs≤n.natAbs:=by rw [habs];exact Nat.le_mul_of_pos_left _ g0
  have lb:b.natAbs≤d.natAbs:=by rw [hbbs];exact Nat.le_mul_of_pos_left _ g0
  have hab:a*d=n*b:=by
    generalize ((Int.gcd n d:Nat):Int)=g at ha hb
    subst ha hb
    rw [Int.mul_comm g a,Int.mul_assoc]
  unfold low
  split
  · rename_i hd
    refine ⟨?_,?_,?_,?_,?_⟩
    · show 1≤d / _
      rw [eb]
      have:0<b:=by
        apply Int.pos_of_mul_pos_right (a:=((Int.gcd n d:Nat):Int)) _ hgp
        rw [←hb];exact hd
      trivial
    · show n / _*d=n*(d / _)
      rw [ea,eb];exact hab
    · show Int.gcd (n / _) (d / _)=1
      rw [ea,eb];exact hco
    · show (n / _).natAbs≤_
      rw [ea];exact la
    · show (d / _).natAbs≤_
      rw [eb];exact lb
  · rename_i hd
    refine ⟨?_,?_,?_,?_,?_⟩
    · show 1≤-d / _
      rw [enb]
      have:0 < -b:=by
        apply Int.pos_of_mul_pos_right (a:=((Int.gcd n d:Nat):Int)) _ hgp
        rw [Int.mul_neg,←hb];trivial
      trivial
    · show -n / _*d=n*(-d / _)
      rw [ena,enb,Int.neg_mul,Int.mul_neg,hab]
    · show Int.gcd (-n / _) (-d / _)=1
      rw [ena,enb,Int.gcd_neg,Int.neg_gcd];exact hco
    · show (-n / _).natAbs≤_
      rw [ena,Int.natAbs_neg];exact la
    · show (-d / _).natAbs≤_
      rw [enb,Int.natAbs_neg];exact lb
end KM
namespace KM
section
variable {p0 p1 q0 q1:Int}
end
end KM
namespace KM
abbrev Fra:=Int×Int
end KM
namespace KM
end KM
namespace L2
open PySem PySem.Spec PyProof.Rows
section
variable {prog:Program}{w:World}{A:Around}{E:Value→Shared→Prop}{s:Shared}
theorem nextOf_tup {it t:Addr}{i:Nat}{its:Array Value}{x:Value}{Q:Value→Shared→Prop} (hit:s.heap.IsTupleIter it t i) (ht:s.heap.IsTuple t its) (hx:its[i]?=some x)
    (q:∀h',h'.IsTupleIter it t (i+1)→Heap.SameBut it s.heap h'→Q x { s with heap:=h' }):wpAny (model prog w) A (Builtin.SmallTypes.nextOf (.ref it)) Q E s:=by
  obtain ⟨o,e1,e2,e3⟩:=id hit;obtain ⟨u,e4,_,k,e5⟩:=ht;unfold Builtin.SmallTypes.nextOf
  refine wpAny_bind (wpAny_callSpecial?_slot (name:=Str.ofString "__next__") hit.typeIs F.slot_tuple_iterator_next (wpAny_call_entry F.slot_tuple_iterator_next hit.typeIs F.entry_tuple_iterator_next ?_ (F.args_tuple_iterator_next_1 _)))
  show wpAny _ _ (field (.ref it) 0 >>= _) _ _ s;refine wpAny_bind (wpAny_field e1 e3 (x:=.ref t) rfl ?_)
  show wpAny _ _ (if (Value.ref t==Value.none)=true then _ else _) _ _ s;rw [if_neg (show ¬((Value.ref t==Value.none)=true) from Bool.false_ne_true)]
  show wpAny _ _ (field (.ref it) 1 >>= _) _ _ s;refine wpAny_bind (wpAny_field e1 e3 (x:=.int i 0) rfl ?_)
  show wpAny _ _ (seqItems? (.ref t) >>= _) _ _ s;refine wpAny_bind (wpAny_seqItems e4 e5 ?_)
  simp only [Int.toNat_natCast,hx];refine wpAny_bind (wpAny_setField e1 e3 (by simp) (wpAny_pure ⟨x,rfl,wpAny_pure (q _ ?_ (Heap.SameBut.update ..))⟩))
  exact ⟨_,Heap.get?_update_self _ e1 (Obj.isFreed_of_fields (Obj.data_mapFields e3 _)),(Obj.cls_mapFields ..).trans e2,by rw [Obj.data_mapFields e3];simp [rawInt]⟩
theorem nextOf_tupEnd {it t:Addr}{i:Nat}{its:Array Value}{Q:Value→Shared→Prop} (hh:A.handled=none) (hit:s.heap.IsTupleIter it t i) (ht:s.heap.IsTuple t its) (hx:its[i]?=none)
    (q:∀h' e,Heap.ExtBut it s.heap h'→(∃o,h'.get? e=some o∧o.cls=.type "StopIteration")→E (.ref e) { s with heap:=h' }):wpAny (model prog w) A (Builtin.SmallTypes.nextOf (.ref it)) Q E s:=by
  obtain ⟨o,e1,e2,e3⟩:=id hit;obtain ⟨u,e4,_,k,e5⟩:=ht;unfold Builtin.SmallTypes.nextOf
  refine wpAny_bind (wpAny_callSpecial?_slot (name:=Str.ofString "__next__") hit.typeIs F.slot_tuple_iterator_next (wpAny_call_entry F.slot_tuple_iterator_next hit.typeIs F.entry_tuple_iterator_next ?_ (F.args_tuple_iterator_next_1 _)))
  show wpAny _ _ (field (.ref it) 0 >>= _) _ _ s;refine wpAny_bind (wpAny_field e1 e3 (x:=.ref t) rfl ?_)
  show wpAny _ _ (if (Value.ref t==Value.none)=true then _ else _) _ _ s;rw [if_neg (show ¬((Value.ref t==Value.none)=true) from Bool.false_ne_true)]
  show wpAny _ _ (field (.ref it) 1 >>= _) _ _ s;refine wpAny_bind (wpAny_field e1 e3 (x:=.int i 0) rfl ?_)
  show wpAny _ _ (seqItems? (.ref t) >>= _) _ _ s;refine wpAny_bind (wpAny_seqItems e4 e5 ?_)
  simp only [Int.toNat_natCast,hx];refine wpAny_bind (wpAny_rule (wpAny_bind (wpAny_setField e1 e3 (by simp) ?_)))
  show wpAny _ _ (newExc (.type "StopIteration") [] >>= _) _ _ _;refine wpAny_bind ?_;simp only [newExc,newTuple]
  refine wpAny_bind (wpAny_newObj_type ?_ (by size_fits));refine wpAny_bind (m:=firstArgMember _ _) (wpAny_of_eq (a:=Value.none) (by first | rfl | (simp only [firstArgMember];rfl)) ?_);refine wpAny_newObj_type ?_ (by size_fits)
  simp only [raiseNew];refine wpAny_bind (wpAny_handled ?_);first | rw [show A.in1.handled=none from hh] | rw [hh]
  refine wpAny_bind (wpAny_pure (wpAny_throw ?_));exact q _ _ (((Heap.SameBut.update ..).extBut.push _).push _) ⟨_,Heap.get?_push_size _ rfl,rfl⟩
end
def SqK (h:Heap) (l:Addr) (its:Array Value):Bool→Prop
  | true=>h.IsList l its
  | false=>h.IsTuple l its
def ItK (h:Heap) (it l:Addr) (i:Nat):Bool→Prop
  | true=>h.IsListIter it l i
  | false=>h.IsTupleIter it l i
theorem ItK.at {h h':Heap}{it l:Addr}{i:Nat}:∀{b:Bool},ItK h it l i b→(∀o,h.get? it=some o→h'.get? it=some o)→ItK h' it l i b
  | true,q,k=>Heap.IsListIter.at q k
  | false,q,k=>Heap.IsTupleIter.at q k
theorem SqK.lt {h:Heap}{l:Addr}{its:Array Value}:∀{b:Bool},SqK h l its b→l<h.objs.size
  | true,⟨_,e,_⟩=>Heap.lt_size e
  | false,⟨_,e,_⟩=>Heap.lt_size e
theorem ItK.some {h:Heap}{it l:Addr}{i:Nat}:∀{b:Bool},ItK h it l i b→∃o,h.get? it=some o∧∀v,o.data≠.cell v
  | true,⟨o,e,_,d⟩=>⟨o,e,fun v z=>by rw [d] at z;cases z⟩
  | false,⟨o,e,_,d⟩=>⟨o,e,fun v z=>by rw [d] at z;cases z⟩
theorem drawsK {prog:Program}{w:World}{A:Around} (hh:A.handled=none) (it l:Addr) (hne:l≠it) (its:Array Value):∀b:Bool,
    Draws prog w A it [it,l] its.size (fun i v=>its[i]?=some v) (fun i h=>ItK h it l i b∧SqK h l its b)
  | true=>Draws.list hh it l hne its
  | false=>{
    live:=fun _ _ st=>let ⟨o,ho,_⟩:=st.1;⟨o,ho⟩
    frame:=fun _ _ _ st hk=>⟨Heap.IsTupleIter.at st.1 fun o e=>hk it (by simp) o e,Heap.IsTuple.at st.2 fun o e=>hk l (by simp) o e⟩
    item:=fun i s Q E hi st q=>nextOf_tup st.1 st.2 (x:=its[i]) (by simp [hi]) fun h' it' same=>q _ h' s.toks (by simp [hi]) ⟨it',Heap.IsTuple.extBut st.2 same.extBut hne⟩ same
    done:=fun s Q E st q=>nextOf_tupEnd hh st.1 st.2 (by simp) q }
end L2
namespace L2
open PySem PySem.Spec PyProof.Rows
section
variable {prog:Program}{w:World}{A:Around}{E:Value→Shared→Prop}{s:Shared}
variable {z TI TO i1 i2 l1 l2:Addr}{k:Nat}{xs ys:Array Value}{a b:Value}{c1 c2:Bool}
end
end L2
namespace L2
open PySem PySem.Spec PyProof.Rows
section
variable {prog:Program}{w:World}{A:Around}{E:Value→Shared→Prop}{s:Shared}
end
theorem Inv.turnedL {X:Cx}{pins:List (Addr×Obj)}{σ:St}{H:Hp}{s:Shared}{h':Heap}{t':Nat}{ch:List Addr} (I:Inv X pins σ H s) (hf:∀b∈ch,FpOk X pins H b) (k:∀b u,b∉ch→s.heap.get? b=some u→h'.get? b=some u) :
    Inv X pins σ H { s with heap:=h',toks:=t' }:=by
  refine I.step (g':=s.gens) (d':=s.drawn) (ch:=ch) (fun b hb=>?_) (fun b o _ _ hc e _=>k b o hc e) (fun b o _ _ hc e _=>⟨o.slots,k b o hc e⟩) (fun _ _ _ _ n=>n)
    (fun b o hc e=>⟨o,k b o hc e⟩) (fun _ _ e=>e) (fun _ _ _ e=>e) (fun b ps e=>⟨#[],by rw [e];simp⟩) (fun m hm=>?_) (fun b u e=>?_) I.bare
  · obtain ⟨f0,f1,f2,f3,f4,f5⟩:=hf b hb
    exact ⟨f3,f1,f4,f5⟩
  · obtain ⟨o,es,ep,ho,r⟩:=hm
    exact ⟨o,es,ep,k _ o (fun z=>(hf _ z).2.1 rfl) ho,r⟩
  · refine (I.hok b u e).stay (fun c v hc q=>k c v (fun z=>?_) q) (fun _ q=>q) fun _ _ q=>q
    have hcn:=(hf c z).1
    rcases hc with rfl | hc
    · rw [e] at hcn;cases hcn
    · rw [hc] at hcn;cases hcn
def SqC (K:PySem.W.Frag) (H:Hp) (a:Addr) (xs:List V):Bool→Prop
  | true=>SqL K H a xs
  | false=>SqT K H a xs
theorem Inv.seqC {X:Cx}{pins:List (Addr×Obj)}{σ:St}{H:Hp}{s:Shared}{a:Addr}{xs:List V} (I:Inv X pins σ H s):∀{c:Bool},SqC X.K H a xs c→∃its:List Value,Vals xs its∧SqK s.heap a its.toArray c
  | true,q=>let ⟨its,rv,p,_⟩:=I.list q;⟨its,rv,p.isList⟩
  | false,q=>let ⟨its,rv,p,_⟩:=I.tuple q;⟨its,rv,p⟩
theorem Inv.seqC_inj {X:Cx}{pins:List (Addr×Obj)}{σ:St}{H:Hp}{s:Shared}{a:Addr}{xs ys:List V} (I:Inv X pins σ H s):∀{c:Bool},SqC X.K H a xs c→SqC X.K H a ys c→xs=ys
  | true,p,q=>I.list_inj p q
  | false,p,q=>I.tuple_inj p q
end L2
namespace L2
open PySem PySem.Spec PyProof.Rows
section
variable {X:Cx}{K:PySem.W.Frag}
end
def Sz (m:Nat) (i:Int):Prop:=i.natAbs<2 ^ m
theorem Sz.mono {m n:Nat}{i:Int} (h:Sz m i) (k:m≤n):Sz n i:=Nat.lt_of_lt_of_le h (Nat.pow_le_pow_right (by decide) k)
theorem Sz.le {m:Nat}{i j:Int} (h:Sz m j) (k:i.natAbs≤j.natAbs):Sz m i:=Nat.lt_of_le_of_lt k h
theorem Sz.log {m:Nat}{i:Int} (h:Sz m i) (h0:i≠0):i.natAbs.log2<m:=(Nat.log2_lt (by trivial)).mpr h
section
variable {X:Cx}
end
end L2
namespace L2
open PySem PySem.Spec PyProof.Rows
end L2
namespace L2
open PySem PySem.Spec PyProof.Rows
abbrev fr (z:Int×Int):HO:=.tup [.int z.1,.int z.2]
structure Fb (b:Nat) (n d:Int):Prop where
  sn:Sz b n
  sd:Sz b d
  pos:1≤d
  co:Int.gcd n d=1
theorem Fb.low {b:Nat}{n d:Int} (h1:Sz b n) (h2:Sz b d) (hd:d≠0):Fb b (KM.low n d).1 (KM.low n d).2:=by
  obtain ⟨a,_,c,e,f⟩:=KM.low_spec n d hd
  exact ⟨h1.le e,h2.le f,a,c⟩
end L2
namespace L2
open PySem PySem.Spec PyProof.Rows
structure Nw (H:Hp) (p:Addr) (o:HO) (H':Hp):Prop where
  fr:H p=none
  sm:Same H H'
  at':H' p=some o
theorem Nw.mk' {H:Hp}{p:Addr}{o:HO} (h:H p=none):Nw H p o (upd H p o):=⟨h,Same.new h,upd_same⟩
section
variable {X:Cx}{es:List Expr}{t:TA}{pos:Pos}{K:PySem.W.Frag}
def tTupA (t:TA):TE:=fun σ H Q=>t σ H fun xs H1=>xs.length≤10000∧∀p H',Nw H1 p (.tup xs) H'→Q (.ref p) H'
def tLstA (t:TA):TE:=fun σ H Q=>t σ H fun xs H1=>xs.length≤10000∧∀p H',Nw H1 p (.lst xs) H'→Q (.ref p) H'
theorem sz_of {n:Nat} (h:n≤10000):n≤sizeLine:=by rw [sizeLine_eq];trivial
theorem pe_tupA {x1} (h:PA X es t):PE X (.Tuple es x1 pos) (tTupA t):=by
  intro pins s σ H Q I hq
  refine wpAny_Tuple_spliced (thn (h pos pins s σ H _ I hq) fun us s1 ⟨xs,H1,I1,r,z',q⟩=>⟨by rw [←r.length];exact sz_of z',?_⟩)
  have z:=sz_of z'
  have hf:H1 s1.heap.objs.size=none:=I1.hok.fresh (Nat.le_refl _)
  refine ⟨.ref s1.heap.objs.size,upd H1 s1.heap.objs.size (.tup xs),I1.laid (t':=s1.toks) (fun b u e=>Heap.get?_push_of_some _ e) (Nat.le_refl _) ?_,rfl,q _ _ (.mk' hf)⟩
  exact ⟨z,us,r,⟨_,Heap.get?_push_size _ rfl,rfl,_,rfl⟩,_,Heap.get?_push_size _ rfl,rfl⟩
theorem pe_lstA (h:PA X es t):PE X (.List es pos) (tLstA t):=by
  intro pins s σ H Q I hq
  refine wpAny_List_spliced (thn (h pos pins s σ H _ I hq) fun us s1 ⟨xs,H1,I1,r,z',q⟩=>⟨by rw [←r.length];exact sz_of z',?_⟩)
  have z:=sz_of z'
  have hf:H1 s1.heap.objs.size=none:=I1.hok.fresh (Nat.le_refl _)
  refine ⟨.ref s1.heap.objs.size,upd H1 s1.heap.objs.size (.lst xs),I1.laid (t':=s1.toks) (fun b u e=>Heap.get?_push_of_some _ e) (Nat.le_refl _) ?_,rfl,q _ _ (.mk' hf)⟩
  exact ⟨z,us,0,r,Heap.get?_push_size _ rfl⟩
inductive rCatA_ (x:V) (y:V) (H:Hp) (Q:VK):Prop
  | mk (l:_) (b:_) (xs:_) (zs:_) (h0:x=.ref l) (h1:y=.ref b) (h2:H l=some (.lst xs)) (h3:H b=some (.lst zs)) (h4:xs.length+zs.length≤10000) (h5:∀p H',Nw H p (.lst (xs++zs)) H'→Q (.ref p) H')
def rCatA:R2:=fun x y H Q=>rCatA_  x y H Q
theorem op_catA:OpR X (binaryOp .Add) rCatA:=fun pins s σ H x y v u Q I rx ry ⟨l,b,xs,zs,e1,e2,h1,h2,hz,q⟩=>
  op_cat pins s σ H x y v u Q I rx ry ⟨l,b,xs,zs,e1,e2,h1,h2,sz_of hz,fun p hp=>q p _ (.mk' hp)⟩
inductive rListA_ (K:PySem.W.Frag) (xs:List V) (H:Hp) (Q:VK):Prop
  | mk (p:_) (ys:_) (h0:xs=[.ref p]) (h1:(SqL K H p ys∨SqT K H p ys)) (h2:∀l H',Nw H l (.lst ys) H'→Q (.ref l) H')
def rListA (K:PySem.W.Frag):List V→Hp→VK→Prop:=fun xs H Q=>rListA_ K xs H Q
theorem call_list_ofA (e:X.K=K:=by rfl):CallR X (.type "list") (rListA K):=by
  subst e
  exact fun pins s σ H xs us Q I r ⟨p,ys,e,h,q⟩=>call_list_of pins s σ H xs us Q I r ⟨p,ys,e,h,fun l hl=>q l _ (.mk' hl)⟩
end
structure Ch (H:Hp) (p:Addr) (xs:List V) (H':Hp):Prop where
  at':H' p=some (.lst xs)
  ol:∀a o,a≠p→H a=some o→H' a=some o
  fre:∀a,a≠p→H a=none→H' a=none
theorem Ch.mk' {H:Hp}{p:Addr}{xs:List V}:Ch H p xs (upd H p (.lst xs)):=⟨upd_same,fun a o n h=>by rw [upd_ne n];exact h,fun a n h=>by rw [upd_ne n];exact h⟩
section
variable {X:Cx}
inductive rAppA_ (x:V) (vs:List V) (H:Hp) (Q:VK):Prop
  | mk (l:_) (xs:_) (y:_) (h0:x=.ref l) (h1:vs=[y]) (h2:H l=some (.lst xs)) (h3:xs.length≤10000) (h4:∀H',Ch H l (xs++[y]) H'→Q .non H')
def rAppA:V→List V→Hp→VK→Prop:=fun x vs H Q=>rAppA_  x vs H Q
theorem mt_appendA:MtM X "list.append" rAppA:=fun pins s σ H x vs v us Q I rx rv ⟨l,xs,y,e1,e2,h,hz,q⟩=>mt_append pins s σ H x vs v us Q I rx rv ⟨l,xs,y,e1,e2,h,(by rw [sizeLine_eq];trivial),q _ .mk'⟩
end
end L2
namespace L2
open PySem PySem.Spec PyProof.Rows
theorem Bx.ch {H H':Hp}{b p:Addr}{t:Int}{xs:List V} (h:Bx H b t) (k:Ch H p xs H') (ne:b≠p):Bx H' b t:=by
  obtain ⟨c,x,e,q⟩:=h
  exact ⟨c,x,k.ol b _ ne e,q⟩
theorem Bx.ne {H:Hp}{b p:Addr}{t:Int} (h:Bx H b t) (hp:H p=none):b≠p:=fun z=>by
  obtain ⟨c,x,e,_⟩:=h
  rw [z,hp] at e;cases e
end L2
namespace L2
open PySem PySem.Spec PyProof.Rows
section
variable {X:Cx}{e:Expr}{te:TE}{st:Expr}{ts:TO}{p2 pos:Pos}{K:PySem.W.Frag}
end
end L2
namespace L2
open PySem PySem.Spec PyProof.Rows
end L2
namespace L2
open PySem PySem.Spec PyProof.Rows
def S (l:List Nat):Str:=⟨l.toArray⟩
theorem S_app (a b:List Nat):S a++S b=S (a++b):=by
  show (⟨a.toArray++b.toArray⟩:Str)=⟨(a++b).toArray⟩
  simp
theorem S_len (a:List Nat):(S a).length=a.length:=by
  show a.toArray.size=_
  simp
theorem S_list (a:List Nat):(S a).cps.toList=a:=rfl
theorem join_flat:∀ls:List (List Nat),Str.join (S []) (ls.map S)=S ls.flatten
  | []=>rfl
  | [a]=>by
    show S a=S (a++[])
    rw [List.append_nil]
  | a :: b :: r=>by
    have e:Str.join (S []) ((a :: b :: r).map S)=S a++S []++Str.join (S []) ((b :: r).map S):=rfl
    rw [e,join_flat (b :: r),S_app,S_app,List.append_nil]
    rfl
section
variable {X:Cx}{K:PySem.W.Frag}
inductive rJoin_ (K:PySem.W.Frag) (x:V) (vs:List V) (H:Hp) (Q:VK):Prop
  | mk (a:_) (ls:_) (h0:x=.str (S [])) (h1:vs=[.ref a]) (h2:SqL K H a ((ls:List (List Nat)).map fun l=>V.str (S l))) (h3:(ls.map (·.length)).sum≤10000) (h4:Q (.str (S ls.flatten)) H)
def rJoin (K:PySem.W.Frag):V→List V→Hp→VK→Prop:=fun x vs H Q=>rJoin_ K x vs H Q
theorem vals_strs {ls:List (List Nat)}:∀{us:List Value},Vals (ls.map fun l=>V.str (S l)) us→StrsAre us (ls.map S):=by
  induction ls with
  | nil=>intro us h;cases h;exact .nil
  | cons l r ih=>
    intro us h
    cases h with
    | cons h t=>
      obtain ⟨tk,rfl⟩:=h
      exact .cons _ _ (ih t)
theorem mt_join (ek:X.K=K:=by rfl):MtR X "str.join" (rJoin K):=by
  subst ek
  intro pins s σ H x vs v us Q I rx rv h
  obtain ⟨a,ls,rfl,rfl,hS,hz,q⟩:=h
  obtain ⟨t,rfl⟩:=rx
  obtain ⟨u,rfl,ru⟩:=rv.one
  obtain rfl:u=Value.ref a:=ru
  obtain ⟨its,r,ht,_⟩:=I.list hS
  have e1:((ls.map S).map (·.length)).sum=(ls.map (·.length)).sum:=by
    rw [List.map_map]
    congr 1
  refine join_list (ys:=ls.map S) ht.isList (by simpa using vals_strs r) ?_ fun t' k=>?_
  · rw [e1,show (S []).length=0 from rfl]
    trivial
  · have:=join_plain_closes (S []) (ls.map S)
    rw [eq_of_beq this,join_flat]
    exact ⟨.str (S ls.flatten),H,I.tok k,⟨_,rfl⟩,q⟩
end
end L2
namespace L2
open PySem PySem.Spec PyProof.Rows
end L2
namespace L2
open PySem PySem.Spec PyProof.Rows
def strT (x:Str):Prop:=x.length≤300∧∀c∈x.cps.toList,c<128
mutual
inductive Wt:PyData→Nat→Nat→Prop
  | non {k:Nat}:Wt .none 1 k
  | bl (b:Bool) {k:Nat}:Wt (.bool b) 1 k
  | int {i:Int} (h:Sz 1900 i) {k:Nat}:Wt (.int i) 1 k
  | str {x:Str} (h:strT x) {k:Nat}:Wt (.str x) 1 k
  | list {xs:List PyData}{n k:Nat} (h:WtL xs n k):Wt (.list xs) (n+1) (k+1)
  | tuple {xs:List PyData}{n k:Nat} (h:WtL xs n k):Wt (.tuple xs) (n+1) (k+1)
inductive WtL:List PyData→Nat→Nat→Prop
  | nil {k:Nat}:WtL [] 0 k
  | cons {x:PyData}{xs:List PyData}{m n k:Nat} (h:Wt x m k) (r:WtL xs n k):WtL (x :: xs) (m+n) k
end
mutual
theorem Wt.deep:∀{d:PyData}{n k:Nat},Wt d n k→∀{l:Nat},k≤l→Wt d n l
  | _,_,_,.non,_,_=>.non
  | _,_,_,.bl b,_,_=>.bl b
  | _,_,_,.int h,_,_=>.int h
  | _,_,_,.str h,_,_=>.str h
  | _,_,_,.list h,l,hl=>by
    obtain ⟨m,rfl⟩:∃m,l=m+1:=⟨l - 1,by trivial⟩
    exact .list (WtL.deep h (by trivial))
  | _,_,_,.tuple h,l,hl=>by
    obtain ⟨m,rfl⟩:∃m,l=m+1:=⟨l - 1,by trivial⟩
    exact .tuple (WtL.deep h (by trivial))
theorem WtL.deep:∀{ds:List PyData}{n k:Nat},WtL ds n k→∀{l:Nat},k≤l→WtL ds n l
  | _,_,_,.nil,_,_=>.nil
  | _,_,_,.cons h r,_,hl=>.cons (Wt.deep h hl) (WtL.deep r hl)
end
theorem Wt.pos {d:PyData}{n k:Nat} (h:Wt d n k):1≤n:=by cases h <;> trivial
mutual
theorem Wt.dep:∀{d:PyData}{n k:Nat},Wt d n k→d.depth≤k
  | _,_,_,.non=>by simp [PyData.depth]
  | _,_,_,.bl b=>by simp [PyData.depth]
  | _,_,_,.int h=>by simp [PyData.depth]
  | _,_,_,.str h=>by simp [PyData.depth]
  | _,_,_,.list h=>by simp only [PyData.depth];exact Nat.succ_le_succ (WtL.dep h)
  | _,_,_,.tuple h=>by simp only [PyData.depth];exact Nat.succ_le_succ (WtL.dep h)
theorem WtL.dep:∀{ds:List PyData}{n k:Nat},WtL ds n k→PyData.depthAll ds≤k
  | _,_,_,.nil=>by simp [PyData.depthAll]
  | _,_,_,.cons h r=>by simp only [PyData.depthAll];exact Nat.max_le.mpr ⟨Wt.dep h,WtL.dep r⟩
end
mutual
theorem Wt.sho:∀{d:PyData}{n k:Nat},Wt d n k→d.showable=true
  | _,_,_,.non=>by simp [PyData.showable]
  | _,_,_,.bl b=>by simp [PyData.showable]
  | _,_,_,.int (i:=i) h=>by
    simp only [PyData.showable,decide_eq_true_iff]
    by_cases h0:i=0
    · subst h0;decide
    · exact Nat.lt_trans (h.log h0) (by decide)
  | _,_,_,.str h=>by simp [PyData.showable]
  | _,_,_,.list h=>by simp only [PyData.showable];exact WtL.sho h
  | _,_,_,.tuple h=>by simp only [PyData.showable];exact WtL.sho h
theorem WtL.sho:∀{ds:List PyData}{n k:Nat},WtL ds n k→PyData.showableAll ds=true
  | _,_,_,.nil=>by simp [PyData.showableAll]
  | _,_,_,.cons h r=>by simp only [PyData.showableAll,Bool.and_eq_true];exact ⟨Wt.sho h,WtL.sho r⟩
end
mutual
theorem Wt.nod:∀{d:PyData}{n k:Nat},Wt d n k→d.hasDict=false
  | _,_,_,.non=>by simp [PyData.hasDict]
  | _,_,_,.bl b=>by simp [PyData.hasDict]
  | _,_,_,.int h=>by simp [PyData.hasDict]
  | _,_,_,.str h=>by simp [PyData.hasDict]
  | _,_,_,.list h=>by simp only [PyData.hasDict];exact WtL.nod h
  | _,_,_,.tuple h=>by simp only [PyData.hasDict];exact WtL.nod h
theorem WtL.nod:∀{ds:List PyData}{n k:Nat},WtL ds n k→PyData.hasDictAll ds=false
  | _,_,_,.nil=>by simp [PyData.hasDictAll]
  | _,_,_,.cons h r=>by simp only [PyData.hasDictAll,Bool.or_eq_false_iff];exact ⟨Wt.nod h,WtL.nod r⟩
end
mutual
theorem Wt.len:∀{d:PyData}{n k:Nat},Wt d n k→d.shown.length+2≤3010*n
  | _,_,_,.non=>by
    rw [PyData.shown]
    decide +kernel
  | _,_,_,.bl b=>by
    rw [PyData.shown]
    cases b <;> decide +kernel
  | _,_,_,.int (i:=i) h=>by
    rw [PyData.shown]
    have hl:i.natAbs.log2<1920:=by
      by_cases h0:i=0
      · subst h0;decide
      · exact Nat.lt_trans (h.log h0) (by decide)
    have:=int_text_len_1921 hl
    trivial
  | _,_,_,.str (x:=x) h=>by
    rw [PyData.shown]
    have:=PySem.StrLaws.reprText_len x (fun c hc=>Nat.lt_trans (h.2 c hc) (by decide))
    have:=h.1
    trivial
  | _,_,_,.list (xs:=xs) (n:=n) h=>by
    rw [PyData.shown]
    have h1:=listText_len_le (PyData.shownAll xs)
    have h2:=WtL.len h
    trivial
  | _,_,_,.tuple (xs:=xs) (n:=n) h=>by
    rw [PyData.shown]
    have h1:=tupleText_len_le (PyData.shownAll xs)
    have h2:=WtL.len h
    trivial
theorem WtL.len:∀{ds:List PyData}{n k:Nat},WtL ds n k→((PyData.shownAll ds).map (·.length)).sum+2*(PyData.shownAll ds).length≤3010*n
  | _,_,_,.nil=>by simp [PyData.shownAll]
  | _,_,_,.cons (x:=x) (xs:=xs) (m:=m) (n:=n) h r=>by
    rw [PyData.shownAll,List.map_cons,List.sum_cons,List.length_cons]
    have h1:=Wt.len h
    have h2:=WtL.len r
    have h3:=h.pos
    trivial
end
end L2
namespace L2
open PySem PySem.Spec PyProof.Rows
mutual
theorem Wt.can:∀{d:PyData}{n k:Nat},Wt d n k→d.canLay0=true
  | _,_,_,.non=>by simp [PyData.canLay0]
  | _,_,_,.bl b=>by simp [PyData.canLay0]
  | _,_,_,.int h=>by simp [PyData.canLay0]
  | _,_,_,.str (x:=x) h=>by
    simp only [PyData.canLay0]
    unfold PySem.PyData.strOk
    rw [Array.all_eq_true]
    intro i hi
    have:=h.2 x.cps[i] (by simp)
    simp
    trivial
  | _,_,_,.list h=>by simp only [PyData.canLay0];exact WtL.can h
  | _,_,_,.tuple h=>by simp only [PyData.canLay0];exact WtL.can h
theorem WtL.can:∀{ds:List PyData}{n k:Nat},WtL ds n k→PyData.canLayAll0 ds=true
  | _,_,_,.nil=>by simp [PyData.canLayAll0]
  | _,_,_,.cons h r=>by simp only [PyData.canLayAll0,Bool.and_eq_true];exact ⟨Wt.can h,WtL.can r⟩
end
section
variable {X:Cx}
inductive rEqD_ (ne:Bool) (x:V) (y:V) (H:Hp) (Q:VK):Prop
  | mk (d e:PyData) (E F:Addr→Prop) (m n k l:Nat) (h0:IsD E H x d) (h1:IsD F H y e) (h2:Wt d m k) (h3:Wt e n l) (h4:k≤60) (h5:Q (.bl (if ne then !PyData.eqv d e else PyData.eqv d e)) H)
def rEqD (ne:Bool):R2:=fun x y H Q=>rEqD_ ne x y H Q
theorem op_neD (hu:X.A.units+64<cLine):OpR X (compareOp .NotEq) (rEqD true):=by
  intro pins s σ H x y v u Q I rx ry h
  obtain ⟨d,e,E,F,m,n,k,l,hd,he,wd,we,hk,q⟩:=h
  obtain ⟨as,ra⟩:=hd.reads I.hok rx
  obtain ⟨bs,rb⟩:=he.reads I.hok ry
  exact PySem.SeqAt.compareNe_reads ra rb wd.can we.can (by have:=wd.dep;trivial) ⟨.bl _,H,I,rfl,q⟩
inductive rStrW_ (xs:List V) (H:Hp) (Q:VK):Prop
  | mk (a:Addr) (d:PyData) (E:Addr→Prop) (n k:Nat) (h0:xs=[.ref a]) (h1:IsD E H (.ref a) d) (h2:Wt d n k) (h3:n≤5500) (h4:k≤50) (h5:Q (.str d.shown) H)
def rStrW:List V→Hp→VK→Prop:=fun xs H Q=>rStrW_  xs H Q
end
abbrev frD (p:KM.Fra):PyData:=.tuple [.int p.1,.int p.2]
theorem wtL_map {α:Type}{f:α→PyData}{m k:Nat}:∀{xs:List α},(∀x∈xs,Wt (f x) m k)→WtL (xs.map f) (m*xs.length) k
  | [],_=>.nil
  | x :: r,h=>by
    have e:m*(x :: r).length=m+m*r.length:=by rw [List.length_cons,Nat.mul_succ,Nat.add_comm]
    rw [e]
    exact .cons (h x (by simp)) (wtL_map fun y hy=>h y (List.mem_cons_of_mem _ hy))
end L2
namespace L2
open PySem PySem.Spec PyProof.Rows
end L2
namespace L2
open PySem PySem.Spec PyProof.Rows
end L2
namespace L2
end L2
namespace L2
open PySem PySem.Spec PyProof.Rows
end L2
namespace L2
end L2
namespace L2
open PySem PySem.Spec PyProof.Rows
end L2
namespace L2
open PySem PySem.Spec PyProof.Rows
open AutoSeq1 (wpAny_loadPart')
set_option maxHeartbeats 4000000 in
theorem enumNewT (l:Addr) (its:Array Value) (n:Nat) (dct:Option Addr) (sl:Array (Option Value)) :
    Meets (Builtin.«enumerate.__new__» ⟨[.type "enumerate",.ref l],[]⟩) (fun _ R s=>s.heap.get? l=some { cls:=.type "tuple",dict:=dct,data:=.seq its n,slots:=sl }∧
      R (.ok (.ret (.ref (s.heap.push { cls:=.type "tuple_iterator",data:=.fields #[.ref l,.int 0 0] }).objs.size))) { s with heap:=(s.heap.push { cls:=.type "tuple_iterator",data:=.fields #[.ref l,.int 0 0] }).push { cls:=.type "enumerate",data:=.fields #[.none,.bool false,.ref s.heap.objs.size,rawInt 0,.none,.none] } }):=
  .of_wp fun prog w A R s h=>by
    obtain ⟨hp,g,d,tk,os⟩:=s;obtain ⟨hl,h⟩:=h;have hsub:=sub_enumerate
    have hT:Heap.IsTuple (Shared.heap ⟨hp,g,d,tk,os⟩) l its:=⟨_,hl,rfl,n,rfl⟩
    wp_walk using wpAny_loadPart' hl
    refine wpAny_stack_any fun st=>wpAny_pure ?_;split
    · rename_i c _ _ _ _ _;cases (c==Value.type "enumerate")
      · wp_walk using wpAny_loadPart' hl,wpAny_pyIter_tuple hT
        exact ⟨_,rfl,h⟩
      · wp_walk using wpAny_loadPart' hl,wpAny_pyIter_tuple hT
        exact ⟨_,rfl,h⟩
    · wp_walk using wpAny_loadPart' hl,wpAny_pyIter_tuple hT
      exact ⟨_,rfl,h⟩
section
variable {prog:Program}{w:World}{A:Around}{E:Value→Shared→Prop}{s:Shared}
theorem call_enumK {l:Addr}{its:Array Value}{Q:Value→Shared→Prop}:∀{c:Bool},SqK s.heap l its c→
    (∀h',IsEnum h' (s.heap.objs.size+1) s.heap.objs.size 0 .none→ItK h' s.heap.objs.size l 0 c→(∀b o,s.heap.get? b=some o→h'.get? b=some o)→Q (.ref (s.heap.objs.size+1)) { s with heap:=h' })→
    wpAny (model prog w) A (call (.type "enumerate") [.ref l]) Q E s
  | true,q,h=>call_enumerate_list q fun h' a b _ k=>h h' a b k
  | false,q,h=>by
    obtain ⟨⟨c,dct,dt,sl⟩,hl,hc,n,hd⟩:=q
    dsimp only at hc hd
    subst hc hd
    refine callType_new F.called_enumerate (by decide) (F.typeCall_enumerate_1 _) (F.newCall_enumerate_1 _) (fun obj=>F.args_object_init_2 obj _) F.entry_enumerate_new (enumNewT l its n dct sl) ⟨hl,?_⟩
    have hz:(s.heap.push { cls:=.type "tuple_iterator",data:=.fields #[.ref l,.int 0 0] }).objs.size=s.heap.objs.size+1:=Heap.size_push ..
    show _∧_
    rw [hz]
    have he:IsEnum ((s.heap.push { cls:=.type "tuple_iterator",data:=.fields #[.ref l,.int 0 0] }).push { cls:=.type "enumerate",data:=.fields #[.none,.bool false,.ref s.heap.objs.size,rawInt 0,.none,.none] }) (s.heap.objs.size+1) s.heap.objs.size 0 .none:=by
      rw [←hz];exact Heap.get?_push_size _ rfl
    exact ⟨⟨_,he,rfl⟩,h _ he ⟨_,Heap.get?_push_of_some _ (Heap.get?_push_size _ rfl),rfl,rfl⟩ fun b o e=>Heap.get?_push_of_some _ (Heap.get?_push_of_some _ e)⟩
end
def IteK (K:PySem.W.Frag) (a:Addr) (c:Bool):It:=
  ⟨fun i H=>Ex2 fun xs x=>SqC K H a xs c∧xs[i]?=some x,fun i H v H'=>Ex2 fun T x=>H T=none∧v=.ref T∧H'=upd H T (.tup [.int (i:Int),x])∧∀xs,SqC K H a xs c→xs[i]?=some x,fun i H=>∃xs,SqC K H a xs c∧xs.length=i⟩
theorem turn_enumK {P:Program}{w:World}{K:PySem.W.Frag}{es:List Expr}{kk:Nat}{pos:Pos} (a e it:Addr) (c:Bool) (hne:e≠it) (hae:a≠e) (hai:a≠it) :
    Turn P w K (.Tuple es kk pos) (IteK K a c) [e,it] e (fun i h=>(∃old,IsEnum h e it i old)∧ItK h it a i c) where
  mem:=by simp
  obj:=fun i h st b hb=>by
    obtain ⟨⟨old,he⟩,hi⟩:=st
    have hb':b=e∨b=it:=by simpa using hb
    rcases hb' with rfl | rfl
    · exact ⟨_,he,fun v z=>by have z':Data.fields _=Data.cell v:=z;cases z'⟩
    · exact hi.some
  keep:=fun i h h' st k=>by
    obtain ⟨⟨old,he⟩,hi⟩:=st
    exact ⟨⟨old,k e (by simp) _ he⟩,hi.at fun o q=>k it (by simp) o q⟩
  item:=by
    intro X hP hw hK hc i pins s σ H E I hf st hg
    subst hP hw hK
    obtain ⟨⟨old,he⟩,hit⟩:=st
    obtain ⟨xs,x,hq,hx⟩:=hg
    obtain ⟨its,rv,p⟩:=I.seqC hq
    obtain ⟨u,hu,ru⟩:=rv.get hx
    have hnT:H s.heap.objs.size=none:=I.fresh
    have hiu:i<its.length:=(List.getElem?_eq_some_iff.mp hu).1
    have D:=drawsK (prog:=X.prog) (w:=X.w) (A:=X.A.in1) (I.ok.hd hc) it a hai its.toArray c
    refine wpAny_pyNext_enum_itemD D he ⟨hit,p⟩ (by simpa using hiu) hne (by simp;exact ⟨hne,Ne.symm hae⟩) fun u' h' tk hP ho st' hT hsz hk=>?_
    have eu:u=u':=by
      have:its.toArray[i]?=some u':=hP
      rw [List.getElem?_toArray,hu] at this
      exact Option.some.inj this
    subst eu
    refine ⟨_,rfl,wpAny_letOwnedTupleGo_enum (s:={ s with heap:=h',toks:=tk+1 }) ho fun h'' he'' hs''=>?_⟩
    have helt:e<s.heap.objs.size:=Heap.lt_size he
    have hilt:it<s.heap.objs.size:=let ⟨_,y,_⟩:=hit.some;Heap.lt_size y
    have hT'':h''.get? s.heap.objs.size=some { cls:=.type "tuple",data:=.seq #[.int i tk,u] }:=(hs''.2 _ (Nat.ne_of_gt helt)).trans hT
    refine ⟨.ref s.heap.objs.size,upd H s.heap.objs.size (.tup [.int (i:Int),x]),I.turnedNew (ch:=[e,it]) (t':=tk+1) hf (fun b o hb q=>?_) (Nat.le_refl _) ?_,rfl,⟨_,x,hnT,rfl,rfl,fun ys hy=>by rw [I.seqC_inj hy hq];exact hx⟩,⟨⟨u,?_⟩,st'.1.at fun o q=>(hs''.2 _ (Ne.symm hne)).trans q⟩,fun b hb=>?_⟩
    · have h1:b≠e:=fun z=>hb (by simp [z])
      have h2:b≠it:=fun z=>hb (by simp [z])
      exact (hs''.2 b h1).trans (hk b o h1 h2 q)
    · exact ⟨by show 2≤sizeLine;decide,[.int i tk,u],.cons ⟨_,rfl⟩ (.cons ru .nil),⟨_,hT'',rfl,_,rfl⟩,_,hT'',rfl⟩
    · simpa using he''
    · have hb':b=e∨b=it:=by simpa using hb
      have hlt:b<s.heap.objs.size:=by rcases hb' with rfl | rfl <;> assumption
      rw [upd_ne (Nat.ne_of_lt hlt)]
      exact (hf b hb).1
  done:=by
    intro X hP hw hK hc i pins s σ H E I hf st hg
    subst hP hw hK
    obtain ⟨⟨old,he⟩,hit⟩:=st
    obtain ⟨xs,hq,hx⟩:=hg
    obtain ⟨its,rv,p⟩:=I.seqC hq
    have hl:=rv.length
    have D:=drawsK (prog:=X.prog) (w:=X.w) (A:=X.A.in1) (I.ok.hd hc) it a hai its.toArray c
    have ei:i=its.toArray.size:=by simp;trivial
    refine wpAny_pyNext_enum_endD D he (by rw [ei] at hit;exact ⟨hit,p⟩) fun h' eb=>⟨rfl,I.turnedL (ch:=[e,it]) (t':=s.toks) hf fun b o hb q=>eb b o (fun z=>hb (by simp [z])) q⟩
  self:=fun _ _ _ _ _ st h=>by
    obtain ⟨⟨old,he⟩,_⟩:=st
    exact wpAny_pyIter_enum he h
def iEnumK (K:PySem.W.Frag) (ta:TA):TI:=fun σ H R=>ta σ H fun vs H1=>Ex2 fun a c=>vs=[.ref a]∧(∃xs,SqC K H1 a xs c)∧R (IteK K a c) H1
theorem pi_enumK {X:Cx}{K:PySem.W.Frag}{es:List Expr}{kk:Nat}{tp:Pos}{a:Expr}{ta:TA}{p pos:Pos} (hg:Gl X "enumerate") (hm:X.mg "enumerate" = none) (ha:PA X [a] ta) (hs:starEach [a] X.env=[(false,eval a X.env)]:=by rfl) (ek:X.K=K:=by rfl) :
    PI X (.Tuple es kk tp) (.Call (.Name "enumerate" p) [a] [] pos) (iEnumK K ta):=by
  subst ek
  intro pins s σ H R I h
  refine Call_ (ld_blt I hg hm boot_enumerate (PyProof.Rows.callWith_type1 (thn (ha pos pins s σ H _ I h) fun us s1 ⟨vs,H1,I1,r1,q1⟩=>?_) hs rfl))
  obtain ⟨a,c,rfl,⟨xs,hq⟩,q⟩:=q1
  obtain ⟨u,rfl,ru⟩:=r1.one
  obtain rfl:u=.ref a:=ru
  obtain ⟨its,rv,p⟩:=I1.seqC hq
  have d1:=p.lt
  refine call_enumK p fun h' hE hI hk=>wpAny_pyIter_enum hE ?_
  have I2:Inv X pins σ H1 { s1 with heap:=h',toks:=s1.toks }:=I1.kept hk
  refine ⟨s1.heap.objs.size+1,[s1.heap.objs.size+1,s1.heap.objs.size],_,_,H1,rfl,I2,turn_enumK a (s1.heap.objs.size+1) s1.heap.objs.size c (Nat.succ_ne_self _) (Nat.ne_of_lt (Nat.lt_succ_of_lt d1)) (Nat.ne_of_lt d1),⟨⟨_,hE⟩,hI⟩,fun b hb=>?_,q⟩
  have hb':b=s1.heap.objs.size+1∨b=s1.heap.objs.size:=by simpa using hb
  have hle:s1.heap.objs.size≤b:=by rcases hb' with rfl | rfl <;> trivial
  exact I1.fpOk hle (I1.hok.fresh hle)
section
variable {X:Cx}
end
end L2
namespace L2
open PySem PySem.Spec PyProof.Rows
end L2
namespace L2
open PySem PySem.Spec PyProof.Rows
section
variable {z:Nat}{E:Addr→Prop}{H H':Hp}{n m k:Nat}{v:V}{xs ys:List V}
end
section
variable {X:Cx}
end
end L2
namespace HT
open PySem PySem.Spec PyProof.Rows
section
variable {prog:Program}{w:World}{A:Around}{E:Value→Shared→Prop}{s:Shared}
end
end HT
namespace L2
open PySem PySem.Spec PyProof.Rows
section
variable {X:Cx}{K:PySem.W.Frag}
end
end L2
namespace L2
open PySem PySem.Spec PyProof.Rows
section
variable {prog:Program}{w:World}{A:Around}{R:Result→Shared→Prop}{it:Addr}{fp wr:List Addr}{G:Array GenState→Array GenState→Prop}{P:Nat→Value→Prop}{St:Nat→Shared→Prop}
end
section
variable {prog:Program}{w:World}{A:Around}{E:Value→Shared→Prop}{s:Shared}
end
section
variable {X:Cx}{K:PySem.W.Frag}{e:Expr}{te:TE}{p1 p2 p3 p4:Pos}
end
end L2
namespace L2
open PySem PySem.Spec PyProof.Rows
section
variable {X:Cx}{K:PySem.W.Frag}{o e:Expr}{es:List Expr}{to:TE}{t:TA}{name:Str}{apos cpos:Pos}{T id:String}{r:V→List V→Hp→VK→Prop}
theorem pe_bm_k (pa:PlainAttrs T) (slot:Slot T name id) (hty:typeOf (.builtin id)=pure (.type "method_descriptor")) (hm:MtR X id r) (ho:PE X o to) (ha:PA X (e :: es) t) (ek:X.K=K:=by rfl)
    (h1:attributeBase o name X.env (eval o X.env)=eval o X.env:=by rfl)
    (h2:((backTo cpos (starEach (e :: es) X.env)).all (fun x=>!x.1) && (backToKw cpos (keywordEach [] X.env)).all (fun x=>x.1.isSome) && decide ((e :: es).length+([]:List Keyword).length+(if ([]:List Keyword).isEmpty then 0 else 1)<30))=true:=by rfl)
    (h3:(apos.endLine==cpos.line)=true:=by rfl) (h4:starEach (e :: es) X.env=(false,eval e X.env) :: starEach es X.env:=by rfl) (h5:(backTo cpos (starEach es X.env)).any (·.1)=false:=by rfl) :
    PE X (.Call (.Attribute o name apos) (e :: es) [] cpos) (tBM K T r to t):=by
  subst ek
  exact pe_bm pa slot hty hm ho ha h1 h2 h3 h4 h5
end
end L2
namespace L2
theorem seqH {t u:TS}{D:Ends}{σ:St}{H:Hp} (h:∀D':Ends,(∀σ' H',u D σ' H'→D'.nx σ' H')→t D' σ H):tSeq t u D σ H:=h { D with nx:=u D } fun _ _ z=>z
theorem bodyH {t:TS}{D:Ends}{σ:St}{H:Hp} (h:∀D':Ends,(∀σ' H',D.nx σ' H'→D'.nx σ' H')→t D' σ H):t D σ H:=h D fun _ _ z=>z
end L2
namespace L2
open PySem PySem.Spec PyProof.Rows
section
variable {X:Cx}
end
end L2
namespace L2
open PySem PySem.Spec PyProof.Rows
section
variable {K:PySem.W.Frag}{a a1 a2 D:Addr}{H1:Hp}{σc:St}{g:TG}{te:TE}{tt:TT}{Q:VK}{xs ys:List V}
end
end L2
namespace L2
end L2
namespace L2
open PySem PySem.Spec PyProof.Rows
section
variable {X:Cx}{tg:Expr}
end
end L2
namespace L2
open PySem PySem.Spec PyProof.Rows
section
variable {X:Cx}{K:PySem.W.Frag}{o e:Expr}{es:List Expr}{to:TE}{t:TA}{name:Str}{apos cpos:Pos}{id:String}{r:V→List V→Hp→VK→Prop}
end
end L2
namespace L2
open PySem PyProof.Rows
section
variable {X:Cx}{elt tg iter:Expr}{ifs:List Expr}{scope:Scope}{pos:Pos}{N':List Str}{L:Nat}{src:List Nat}{wi:TI}{g:TG}{tt:TT}{te:TE}
end
end L2
namespace HT
open PySem PySem.Spec PyProof.Rows
section
variable {prog:Program}{w:World}{A:Around}{E:Value→Shared→Prop}{s:Shared}
end
end HT
namespace L2
open PySem PySem.Spec PyProof.Rows
section
variable {X:Cx}{K:PySem.W.Frag}
end
section
variable {X:Cx}{e:Expr}{te:TE}{st:Expr}{ts:TO}{p2 pos:Pos}
end
end L2
namespace L2
open PySem PySem.Spec PyProof.Rows
end L2
namespace L2
open PySem PySem.Spec PyProof.Rows
section
variable {H H' H'':Hp}{z n k m:Nat}{v:V}{E:Addr→Prop}{b th th' p:Addr}{xs ys zs:List V}
end
section
variable {E:Addr→Prop}{z:Nat}{H0:Hp}{σ:St}{n k m:Nat}{te tb:TE}{ta:TA}{v:V}{i:Nat}{p:Addr}{xs:List V}{K:PySem.W.Frag}
end
section
variable {b th:Addr}{H0:Hp}{σ:St}{zs:List V}{ta:TA}{te:TE}{n i:Nat}{Q:VK}{K:PySem.W.Frag}
end
end L2
namespace L2
open PySem PySem.Spec PyProof.Rows
theorem seqA {te:TE}{i:Nat}{u:TS}{D:Ends}{σ:St}{H:Hp} (h:∀Q:VK,(∀v H',u D (σ.set i (some v)) H'→Q v H')→te σ H Q):tSeq (tAsg te (gName i)) u D σ H:=h _ fun _ _ z=>z
theorem len1 {α:Type}{P:List α→Prop} (h:∀a,P [a]):∀us:List α,us.length=1→P us:=fun us hl=>by
  cases us with
  | nil=>cases hl
  | cons a r=>cases r with
    | nil=>exact h a
    | cons b r=>simp at hl
theorem len2 {α:Type}{P:List α→Prop} (h:∀a b,P [a,b]):∀us:List α,us.length=2→P us:=fun us hl=>by
  cases us with
  | nil=>cases hl
  | cons a r=>exact len1 (P:=fun r=>P (a :: r)) (fun b=>h a b) r (by simpa using hl)
end L2
namespace L2
open PySem PySem.Spec PyProof.Rows
section
variable {X:Cx}{a:Expr}{ta:TA}{p p2 pos pos2:Pos}
end
end L2
namespace L2
open PySem PySem.Spec PyProof.Rows
section
variable {prog:Program}{w:World}{A:Around}{E:Value→Shared→Prop}{s:Shared}
variable {z TI TO i1 i2 l1 l2 T:Addr}{k:Nat}{xs ys:Array Value}{bb:Bool}{c1 c2:Bool}{oT:Obj}
end
end L2
namespace L2
open PySem PySem.Spec PyProof.Rows
section
variable {prog:Program}{w:World}{A:Around}{E:Value→Shared→Prop}{R:Result→Shared→Prop}
variable {z TI TO i1 i2 l1 l2 d:Addr}{xs ys:Array Value}{c1 c2:Bool}{ks:List Key}
end
section
variable {X:Cx}{K:PySem.W.Frag}{a b:Expr}{ta:TA}{p1 p2 p3 p4:Pos}
end
section
variable {X:Cx}
end
end L2
namespace L2
open PySem PySem.Spec PyProof.Rows
section
variable {prog:Program}{w:World}{A:Around}{E:Value→Shared→Prop}{s:Shared}
variable {n l1 l2 l3 T:Nat}{k:Nat}{xs ys zs:Array Value}{bb:Bool}{oT:Obj}
end
end L2
namespace L2
open PySem PySem.Spec PyProof.Rows
section
variable {prog:Program}{w:World}{A:Around}{E:Value→Shared→Prop}{s:Shared}
variable {n l1 l2 l3:Nat}{k:Nat}{xs ys zs:Array Value}
end
section
variable {prog:Program}{w:World}{A:Around}{E:Value→Shared→Prop}{R:Result→Shared→Prop}
variable {n l1 l2 l3:Nat}{xs ys zs:Array Value}
end
section
variable {prog:Program}{w:World}{A:Around}{E:Value→Shared→Prop}{s:Shared}
end
section
variable {X:Cx}{pins:List (Addr×Obj)}{σ:St}{H:Hp}{s:Shared}{h':Heap}
end
section
variable {X:Cx}{K:PySem.W.Frag}{a b c:Expr}{ta:TA}{p1 p2 p3 p4:Pos}
end
end L2
namespace L2
open PySem PySem.Spec PyProof.Rows
section
variable {prog:Program}{w:World}{A:Around}{E:Value→Shared→Prop}{s:Shared}
end
section
variable {prog:Program}{w:World}{A:Around}{E:Value→Shared→Prop}{R:Result→Shared→Prop}
variable {l it d:Nat}{vs:Array Value}{ks:List Key}{us:List Value}
end
section
variable {X:Cx}
end
end L2
namespace L2
open PySem PySem.Spec PyProof.Rows
section
variable {X:Cx}
end
end L2
namespace L2
open PySem PySem.Spec PyProof.Rows
section
variable {X:Cx}
end
section
variable {prog:Program}{w:World}{A:Around}{R:Result→Shared→Prop}{s:Shared}
end
section
variable {X:Cx}{kx vx tg iter:Expr}{ifs:List Expr}{scope:Scope}{pos:Pos}{N':List Str}{L:Nat}{src:List Nat}{wi:TI}{g:TG}{tt:TT}{tk tv:TE}
end
end L2
namespace KM
variable {ls:List (List Nat)}{es done:List Edge}{W u:List Nat→Rat}{S:List (List Nat)}{q:List Nat}{m:Rat}
end KM
namespace L2
open PySem PySem.Spec PyProof.Rows
section
variable {z:Nat}{E:Addr→Prop}{H H':Hp}{n m k:Nat}{v:V}{xs ys:List V}
end
section
variable {X:Cx}{K:PySem.W.Frag}
end
end L2
namespace L2
open PySem PySem.Spec PyProof.Rows
section
variable {X:Cx}
end
end L2
namespace L2
open PySem
end L2
namespace L2
open PySem PySem.Spec PyProof.Rows
section
variable {prog:Program}{w:World}{A:Around}{E:Value→Shared→Prop}{hp:Heap}{gs:Array GenState}{dr:Drawn}{tk:Nat}{os:OsState}
variable {nm qn:Str}{C N:Addr}{bs bm bB:List Value}{hd:Bool}{sn:List Str}{sb:List Value}{ab:Bool}{cl:Option Bool}{dd:Option Addr}{k0 k1 k2 k3 k5:Option Value}{B nw ni:String}
theorem tcall_excI (FB:ExcBaseFacts B nw ni bB) (T:OwnTail hp bB bm) {mN:Str→Option Value}{us:List Value}{fI:Addr}{oI:Obj}{R:Fin→Shared→Prop}
    (eC:hp.get? C=some (excClassObj nm qn C N bs bm hd sn sb ab cl dd k0 k1 k2 k3 k5 nw)) (eN:hp.Ns N mN) (eI:mN "__init__" = some (.ref fI)) (ef:hp.get? fI=some oI) (ec:oI.cls=.type "function") (lu:us.length≤sizeLine)
    (go:∀h1 x,Heap.MadeExcOf hp h1 x (.ref C) us→wpAny (model prog w) A (call (.ref fI) (.ref x :: us)) (fun r s1=>r=.none∧R (.done (.ret (.ref x))) s1) E ⟨h1,gs,dr,tk,os⟩) :
    wpAny (model prog w) A (Builtin.«type.__call__» ⟨.ref C :: us,[]⟩) R E ⟨hp,gs,dr,tk,os⟩:=by
  repeat (first | with_reducible refine wpAny_madeBy_exc eC ?_ | with_reducible refine wpAny_loadPart_at eC ?_ | wp_step)
  refine codeAny_call_builtin_code (Code.quiet_builtin _ FB.quiet) (wpAny_check_new_subT FB T eC ?_)
  refine codeAny_exc_new_subT FB T eC ?_ lu
  show wpAny _ _ _ _ _ _
  have up:∀b o,hp.get? b=some o→((hp.push { cls:=.type "tuple",data:=.seq us.toArray }).push { cls:=.ref C,data:=.fields #[.ref hp.objs.size,.none,.none,.none,.bool false,.none] }).get? b=some o:=fun b o e=>Heap.get?_push_of_some _ (Heap.get?_push_of_some _ e)
  have at1:((hp.push { cls:=.type "tuple",data:=.seq us.toArray }).push { cls:=.ref C,data:=.fields #[.ref hp.objs.size,.none,.none,.none,.bool false,.none] }).get? (hp.objs.size+1)=some { cls:=.ref C,data:=.fields #[.ref hp.objs.size,.none,.none,.none,.bool false,.none] }:=by heap_get
  have me:Heap.MadeExcOf hp ((hp.push { cls:=.type "tuple",data:=.seq us.toArray }).push { cls:=.ref C,data:=.fields #[.ref hp.objs.size,.none,.none,.none,.bool false,.none] }) (hp.objs.size+1) (.ref C) us:=
    ⟨up,Heap.get?_none_of_le (Nat.le_succ _),hp.objs.size,at1,Heap.get?_none_of_le (Nat.le_refl _),Heap.get?_push_of_some _ (Heap.get?_push_at rfl rfl)⟩
  have cc:(Value.ref C :: bm).contains (.ref C)=true:=by simp
  have f1:=up _ _ ef
  unfold isInstance
  repeat (first | with_reducible refine wpAny_loadPart_at at1 ?_ | (with_reducible refine wpAny_isSubtype_exc (up _ _ eC) ?_;rw [cc]) | wp_step)
  show wpAny _ _ (typeLookup (.ref C) _) _ _ _
  refine wpAny_typeLookup_tail (up _ _ eC) (eN.keeps up) (T.keeps up) FB.mroIs FB.init.lookup ?_
  rw [eI]
  refine wpAny_holding (wpAny_bind ?_)
  unfold bindSpecial
  refine wpAny_bind (wpAny_typeOf (T := "function") ⟨_,f1,ec⟩ ?_)
  rw [if_pos (by decide)]
  refine wpAny_pure (wpAny_bind (wpAny_mono (go _ _ me) (fun r s1 hr=>?_) fun _ _ z=>z))
  obtain ⟨rfl,hR⟩:=hr
  wp_walk
  exact hR
theorem call_excI (FB:ExcBaseFacts B nw ni bB) (T:OwnTail hp bB bm) {mN:Str→Option Value}{us:List Value}{fI:Addr}{oI:Obj}{R:Value→Shared→Prop}
    (eC:hp.get? C=some (excClassObj nm qn C N bs bm hd sn sb ab cl dd k0 k1 k2 k3 k5 nw)) (eN:hp.Ns N mN) (eI:mN "__init__" = some (.ref fI)) (ef:hp.get? fI=some oI) (ec:oI.cls=.type "function") (lu:us.length≤sizeLine)
    (go:∀h1 x,Heap.MadeExcOf hp h1 x (.ref C) us→wpAny (model prog w) (A.under (.builtin "type.__call__" ⟨.ref C :: us,[]⟩)) (call (.ref fI) (.ref x :: us)) (fun r s1=>r=.none∧R (.ref x) s1) E ⟨h1,gs,dr,tk,os⟩) :
    wpAny (model prog w) A (call (.ref C) us) R E ⟨hp,gs,dr,tk,os⟩:=by
  have l1:=tc_lookup
  have l2:=tc_bind (.ref C)
  have ty:(⟨hp,gs,dr,tk,os⟩:Shared).TypeIs (.ref C) "type" := ⟨_,eC,rfl⟩
  refine wpAny_call (codeAny_of_tree ?_)
  show wpAny _ _ (callAny (.ref C) _) _ _ _
  repeat (any_goals (first | assumption | with_reducible refine wpAny_loadPart_at eC ?_ | wp_step))
  exact ⟨rfl,codeAny_call_builtin_at (Code.quiet_builtin _ (by decide +kernel)) entry_typeCall (wpAny_check_type_call_sub eC (tcall_excI FB T eC eN eI ef ec lu fun h1 x m=>go h1 x m))⟩
end
end L2
namespace L2
open PySem PySem.Spec PyProof.Rows PySem.W
section
variable {prog:Program}{w:World}{A:Around}{E:Value→Shared→Prop}{s:Shared}{K:Frag}{x C:Addr}{ox:Obj}{od:Option Obj}{name:Str}{fill expr:Bool}
abbrev exGa (K:Frag) (C:Addr):Bool:=findIn K (.ref C) "__getattribute__" == some (some (.builtin "BaseException.__getattribute__")) && findIn K (.ref C) "__getattr__" == some none && mroIn K C (.type "BaseException")==some true
theorem exGa_of {K:Frag}{C:Addr} (h:exGa K C=true):findIn K (.ref C) "__getattribute__" = some (some (.builtin "BaseException.__getattribute__"))∧findIn K (.ref C) "__getattr__" = some none∧mroIn K C (.type "BaseException")=some true:=by
  simp only [exGa,Bool.and_eq_true,beq_iff_eq] at h
  exact ⟨h.1.1,h.1.2,h.2⟩
theorem exGa_call {tk:Tok}{R:Result→Shared→Prop}{f:Builtin.ObjectAttr.Found} (X:K.In s.heap) (I:InstAt s.heap x ox C od) (g:exGa K C=true) (hf:findObj K C od name=some f)
    (h:wpAny (model prog w) A.in1 (match f with | .value v=>ret v | .bind g a=>Builtin.ObjectAttr.bindTo g a (.ref x) (.ref C) | .missing=>unsupported "") (fun fin s'=>match fin with | .done (.ret v)=>R (.ok (.ret v)) s' | _=>False) (fun _ _=>False) s) (hm:f≠.missing) :
    codeAny (model prog w) A (.call (.builtin "BaseException.__getattribute__") ⟨[.ref x,.str name tk],[]⟩) R s:=by
  obtain ⟨g1,g2,g3⟩:=exGa_of g
  have sub:Looks (model prog w) s.heap (isInstance (.ref x) (.type "BaseException")) true:=I.type.andThen (looks_mroIn X g3)
  refine codeAny_call_builtin PySem.F.attr_ValueError.ga.plain PySem.F.entry_bexc_ga (@check_slot (model prog w) _ _ s "BaseException.__getattribute__" "BaseException" "__getattribute__" (.ref x) [.str name tk] [] _ (by decide +kernel) (by decide +kernel) sub (PySem.F.args_bexc_ga _ _) ?_)
  have L1:=looks_find (M:=model prog w) X I hf
  have L0:=I.type (M:=model prog w)
  unfold Builtin.«object.__getattribute__»
  refine wpAny_bind (wpAny_pure (wpAny_bind (wpAny_pure (wpAny_bind (L0.here (wpAny_bind (L1.here ?_)))))))
  cases f with
  | missing=>exact absurd rfl hm
  | value v=>
    refine wpAny_mono h (fun fin s' z=>?_) fun _ _ z=>z.elim
    rcases fin with (_ | _ | _ | _) | _ <;> first | exact z | exact z.elim
  | bind g a=>
    refine wpAny_mono h (fun fin s' z=>?_) fun _ _ z=>z.elim
    rcases fin with (_ | _ | _ | _) | _ <;> first | exact z | exact z.elim
theorem exGa_by {tk:Tok}{Q:Value→Shared→Prop}{f:Builtin.ObjectAttr.Found} (X:K.In s.heap) (I:InstAt s.heap x ox C od) (g:exGa K C=true) (hf:findObj K C od name=some f) (hm:f≠.missing)
    (h:wpAny (model prog w) A.in1 (match f with | .value v=>ret v | .bind g a=>Builtin.ObjectAttr.bindTo g a (.ref x) (.ref C) | .missing=>unsupported "") (fun fin s'=>match fin with | .done (.ret v)=>wpAny (model prog w) A (handedOut v) Q E s' | _=>False) (fun _ _=>False) s) :
    wpAny (model prog w) A (getAttrBy (.ref x) (.str name tk) fill expr) Q E s:=by
  obtain ⟨g1,g2,g3⟩:=exGa_of g
  have L0:=I.type (M:=model prog w)
  have L1:=looks_findIn (M:=model prog w) X g1
  have L2:=looks_findIn (M:=model prog w) X g2
  unfold getAttrBy
  refine wpAny_holding (wpAny_bind (L0.here (wpAny_bind (L1.here ?_))))
  dsimp only
  rw [show (onTheHeap (Value.ref C) && Value.builtin "BaseException.__getattribute__" == Value.builtin "object.__getattribute__")=false from by rw [show (Value.builtin "BaseException.__getattribute__" == Value.builtin "object.__getattribute__")=false from by decide +kernel,Bool.and_false],if_neg (by decide)]
  unfold getAttrByItsOwn hookBefore
  rw [if_pos (show onTheHeap (Value.ref C)=true from rfl)]
  refine wpAny_bind (L2.here (wpAny_bind (wpAny_attempt (wpAny_holding ?_))))
  unfold callGetattribute
  rw [show (expr && onTheHeap (Value.builtin "BaseException.__getattribute__"))=false by cases expr <;> rfl,if_neg (by decide)]
  unfold boundAndCalled
  rw [PySem.F.attr_ValueError.ga.bind]
  refine wpAny_bind (wpAny_pure (wpAny_call (exGa_call X I g hf (wpAny_mono h (fun fin s' z=>?_) fun _ _ z=>z) hm)))
  rcases fin with (_ | _ | _ | _) | _ <;> first | exact z | exact z.elim
theorem exGet {v:Value}{Q:Value→Shared→Prop} (X:K.In s.heap) (I:InstAt s.heap x ox C od) (g:exGa K C=true) (hf:findObj K C od name=some (.value v)) (hh:handedIn v=true) (h:Q v { s with toks:=s.toks+1 }) :
    wpAny (model prog w) A (getAttr (.ref x) name expr) Q E s:=by
  unfold getAttr
  refine wpAny_bind (wpAny_mkText (exGa_by (s:={ s with toks:=s.toks+1 }) X I g hf (fun z=>nomatch z) (wpAny_pure ?_)))
  show wpAny _ _ (handedOut v) _ _ _
  rw [handedOut_of hh]
  exact wpAny_pure h
abbrev exCl (K:Frag) (C:Addr):Bool:=exGa K C && (clsIn K C).isSome && findIn K (.ref C) "__class__" == some (some (.builtin "object.__class__")) && specialIn K (.builtin "object.__class__") "__get__" == some (some (.builtin "getset_descriptor.__get__")) && takesIn K (.builtin "object.__class__")==some true && mroIn K C (.type "object")==some true
theorem exCl_of {K:Frag}{C:Addr} (h:exCl K C=true):exGa K C=true∧(clsIn K C).isSome=true∧findIn K (.ref C) "__class__" = some (some (.builtin "object.__class__"))∧specialIn K (.builtin "object.__class__") "__get__" = some (some (.builtin "getset_descriptor.__get__"))∧takesIn K (.builtin "object.__class__")=some true∧mroIn K C (.type "object")=some true:=by
  unfold exCl at h
  simp only [Bool.and_eq_true,beq_iff_eq] at h
  obtain ⟨⟨⟨⟨⟨a,b⟩,c⟩,d⟩,e⟩,f⟩:=h
  exact ⟨by unfold exGa;simp only [Bool.and_eq_true,beq_iff_eq];exact a,b,c,d,e,f⟩
theorem findObj_cl (g:exCl K C=true):findObj K C od "__class__" = some (.bind (.builtin "getset_descriptor.__get__") (.builtin "object.__class__")):=by
  obtain ⟨_,hc,ha,hg,ht,_⟩:=exCl_of g
  obtain ⟨cd,hc⟩:=Option.isSome_iff_exists.mp hc
  unfold findObj
  rw [hc,Option.bind_some,ha,Option.bind_some]
  dsimp only
  rw [hg,Option.bind_some]
  dsimp only
  rw [ht,Option.bind_some]
theorem exClass {Q:Option Value→Shared→Prop} (X:K.In s.heap) (I:InstAt s.heap x ox C od) (g:exCl K C=true) (h:Q (some (.ref C)) { s with toks:=s.toks+1 }):wpAny (model prog w) A (getAttr? (.ref x) "__class__") Q E s:=by
  obtain ⟨g0,_,_,_,_,gm⟩:=exCl_of g
  unfold getAttr? getAttrBy?
  refine wpAny_bind (wpAny_mkText (wpAny_bind (wpAny_attempt (exGa_by (s:={ s with toks:=s.toks+1 }) X I g0 (findObj_cl g) (fun z=>nomatch z) ?_))))
  show wpAny _ _ (holding [_] (call _ _) >>= ret) _ _ _
  refine wpAny_bind (wpAny_holding (wpAny_call (class_get (s:={ s with toks:=s.toks+1 }) (ox:=ox) (od:=od) X I gm (wpAny_pure (handed_on rfl (wpAny_pure h))))))
theorem kitx_exc (g:exCl K C=true):KitX K (.ref x) (.ref C) (fun h=>Ex2 fun ox od=>InstAt h x ox C od) where
  ty:=fun _ _ _ ⟨_,_,I⟩=>I.type
  it:=fun _ _ X _=>by
    obtain ⟨cd,hc⟩:=Option.isSome_iff_exists.mp (exCl_of g).2.1
    unfold clsIn at hc
    split at hc
    · rename_i ho
      intro A' Q' E' s' k q
      unfold isType loadHead
      exact wpAny_bind (wpAny_loadPart (k _ _ (X _ _ ho)) (wpAny_pure q))
    · cases hc
  ne:=fun h tp dd its n sl X htp=>by
    obtain ⟨cd,hc⟩:=Option.isSome_iff_exists.mp (exCl_of g).2.1
    refine Bool.eq_false_iff.mpr fun q=>?_
    obtain rfl:C=tp:=Value.ref.inj (beq_iff_eq.mp q)
    unfold clsIn at hc
    split at hc
    · rename_i ho
      have z:=(X _ _ ho).symm.trans htp
      cases z
    · cases hc
  ca:=fun X ⟨_,_,I⟩ k=>exClass X I g k
end
end L2
namespace L2
open PySem PySem.Spec PyProof.Rows PySem.W PySem.Builtin.ObjectAttr
def ownThenVE:List Value→Bool
  | .ref _ :: r=>ownThenVE r
  | l=>l==[.type "ValueError",.type "Exception",.type "BaseException",.type "object"]
theorem refuse_ve (self:Value):refuseLoop self "__setattr__" [.type "ValueError",.type "Exception",.type "BaseException",.type "object"]=pure ():=by kernel_rfl
theorem refuse_own (self:Value):∀{l:List Value},ownThenVE l=true→refuseLoop self "__setattr__" l=pure ()
  | .ref c :: r,e=>by rw [refuseLoop_ref];exact refuse_own self e
  | [],e=>by cases beq_iff_eq.mp (show (([]:List Value)==_)=true from e)
  | .none :: r,e=>by rw [beq_iff_eq.mp (show (_==_)=true from e)];exact refuse_ve self
  | .bool _ :: r,e=>by rw [beq_iff_eq.mp (show (_==_)=true from e)];exact refuse_ve self
  | .int _ _ :: r,e=>by rw [beq_iff_eq.mp (show (_==_)=true from e)];exact refuse_ve self
  | .float _ _ :: r,e=>by rw [beq_iff_eq.mp (show (_==_)=true from e)];exact refuse_ve self
  | .str _ _ :: r,e=>by rw [beq_iff_eq.mp (show (_==_)=true from e)];exact refuse_ve self
  | .bytes _ _ :: r,e=>by rw [beq_iff_eq.mp (show (_==_)=true from e)];exact refuse_ve self
  | .type _ :: r,e=>by rw [beq_iff_eq.mp (show (_==_)=true from e)];exact refuse_ve self
  | .builtin _ :: r,e=>by rw [beq_iff_eq.mp (show (_==_)=true from e)];exact refuse_ve self
abbrev exSt (K:Frag) (C:Addr) (name:Str):Bool:=(clsIn K C).any (fun cd=>ownThenVE cd.mro && cd.hasDict) && findIn K (.ref C) "__setattr__" == some (some (.builtin "object.__setattr__")) && takerIn K C name==some none && mroIn K C (.type "object")==some true
theorem ns1_small {h:Heap}{a:Addr}{name:Str}{v:Value} (n:h.Ns1 a fun y=>if y=name then some v else none):∃o,h.get? a=some o∧o.data.pastItsLine=none:=by
  obtain ⟨o,es,ep,e,d,sk,uq,f⟩:=n
  refine ⟨o,e,?_⟩
  rw [d]
  refine pastItsLine_dict ?_
  have key:∀x∈es,∃t,x.key=.str name t:=fun x hx=>by
    obtain ⟨m,t,hm⟩:=sk x hx
    have q:=f m
    by_cases c:m=name
    · exact ⟨t,by rw [hm,c]⟩
    · dsimp only at q
      rw [if_neg c] at q
      simp only [nsFind,findBy,Option.map_eq_none_iff,Array.find?_eq_none] at q
      have:=q x hx
      rw [hm] at this
      simp [Value.isStr] at this
  have small:es.toList.length≤1:=by
    unfold UniqKeys at uq
    cases el:es.toList with
    | nil=>simp
    | cons x r=>
      cases r with
      | nil=>simp
      | cons y r=>
        rw [el] at uq
        obtain ⟨t1,k1⟩:=key x (Array.mem_toList_iff.mp (by rw [el];simp))
        obtain ⟨t2,k2⟩:=key y (Array.mem_toList_iff.mp (by rw [el];simp))
        exfalso
        exact (List.pairwise_cons.mp uq).1 y (by simp) name (by rw [k1];simp [Value.isStr]) (by rw [k2];simp [Value.isStr])
  rw [Array.length_toList] at small
  rw [sizeLine_eq]
  trivial
section
variable {prog:Program}{w:World}{A:Around}{E:Value→Shared→Prop}{s:Shared}{K:Frag}{x C:Addr}{ox:Obj}{name:Str}{v:Value}
abbrev dict0:Obj:={ cls:=.type "dict",data:=.dict #[] }
theorem exOsa {tk:Tok}{R:Result→Shared→Prop} (X:K.In s.heap) (I:InstAt s.heap x ox C none) {vs:Array Value} (hf:ox.data=.fields vs) (g:exSt K C name=true)
    (h:∀h' tk',h'.Ns1 s.heap.objs.size (fun y=>if y=name then some v else none)→h'.get? x=some { ox with dict:=some s.heap.objs.size }→(∀b o,b≠x→s.heap.get? b=some o→h'.get? b=some o)→R (.ok (.ret .none)) { s with heap:=h',toks:=tk' }) :
    codeAny (model prog w) A (.call (.builtin "object.__setattr__") ⟨[.ref x,.str name tk,v],[]⟩) R s:=by
  have SF:=PySem.F.store_object
  unfold exSt at g
  simp only [Bool.and_eq_true,beq_iff_eq] at g
  obtain ⟨⟨⟨g1,g2⟩,g3⟩,g4⟩:=g
  obtain ⟨cd,hc,hp⟩:=any_some g1
  rw [Bool.and_eq_true] at hp
  have sub:Looks (model prog w) s.heap (isInstance (.ref x) (.type "object")) true:=I.type.andThen (looks_mroIn X g4)
  refine codeAny_call_builtin SF.slot.plain SF.entry (@check_slot (model prog w) _ _ s "object.__setattr__" "object" "__setattr__" (.ref x) [.str name tk,v] [] _ SF.kind SF.split sub (SF.args (.ref x) (.str name tk) v) ?_)
  obtain ⟨attr,ha,hr⟩:=Option.bind_eq_some_iff.mp g3
  have lm:Looks (model prog w) s.heap (mroOf (.ref C)) cd.mro:=(looks_clsIn X hc).andThen .now
  have lt:Looks (model prog w) s.heap (storeTaker? attr) none:=by
    cases attr with
    | none=>exact .now
    | some a=>
      obtain ⟨b,hb,e⟩:=Option.map_eq_some_iff.mp hr
      refine (looks_takesIn X hb).andThen ?_
      cases b with
      | true=>cases e
      | false=>exact .now
  rw [osa_eq,refuse_eq]
  refine wpAny_bind (wpAny_bind (I.type.here (wpAny_bind (lm.here ?_))))
  rw [refuse_own _ hp.1]
  refine wpAny_pure (wpAny_bind (I.type.here (wpAny_bind ((looks_findIn X ha).here (wpAny_bind (lt.here ?_))))))
  obtain ⟨hx,hcl,hn,hd⟩:=I
  obtain ⟨oc,odi,oda,osl⟩:=ox
  dsimp only at hcl hd hn hf
  subst hcl hf
  have e0:odi=none:=by
    cases odi with
    | none=>rfl
    | some d=>exact hd.elim
  subst e0
  refine wpAny_bind (wpAny_pure (wpAny_bind (wpAny_bind (wpAny_loadPart hx (wpAny_bind ((looks_clsIn X hc).here ?_))))))
  rw [hp.2,if_neg (by decide)]
  show wpAny _ _ (alloc dict0 >>= fun d=>update x (fun o=>{ o with dict:=some d }) >>= fun _=>dictMade (.ref C) x d) _ _ _
  refine wpAny_bind (wpAny_alloc (wpAny_bind ?_))
  have lx:x<s.heap.objs.size:=Heap.lt_size hx
  have hx1:(s.heap.push dict0).get? x=some ⟨.ref C,none,.fields vs,osl⟩:=Heap.get?_push_of_some _ hx
  have nd:s.heap.objs.size≠x:=Nat.ne_of_gt lx
  have hd1:((s.heap.push dict0).update x fun o=>{ o with dict:=some s.heap.objs.size }).get? s.heap.objs.size=some dict0:=by
    rw [Heap.get?_update_other _ _ (Ne.symm nd)]
    exact Heap.get?_push_size _ rfl
  refine wpAny_update hx1 ?_
  refine wpAny_pure ?_
  show wpAny _ _ (storeInDict s.heap.objs.size (.str name tk) name v) _ _ _
  have n0:((s.heap.push dict0).update x fun o=>{ o with dict:=some s.heap.objs.size }).Ns1 s.heap.objs.size (fun _=>none):=Heap.Ns1.of_empty ⟨dict0,#[],_,hd1,rfl,(fun e he=>absurd he (by simp)),fun _=>rfl⟩
  unfold storeInDict
  refine wpAny_bind (wpAny_pure (wpAny_bind (wpAny_nsSet1 n0 fun h2 n2 sb=>wpAny_bind ?_)))
  obtain ⟨o2,e2,p2⟩:=ns1_small n2
  refine wpAny_lookBehind e2 p2 (wpAny_pure ?_)
  refine h h2 _ n2 ?_ fun b o nb hb=>?_
  · rw [sb.2 x (Ne.symm nd)]
    exact Heap.get?_update_self _ hx1 rfl
  · rw [sb.2 b (Nat.ne_of_lt (Heap.lt_size hb)),Heap.get?_update_other _ _ (Ne.symm nb)]
    exact Heap.get?_push_of_some _ hb
theorem exSet {Q:Unit→Shared→Prop} (X:K.In s.heap) (I:InstAt s.heap x ox C none) {vs:Array Value} (hf:ox.data=.fields vs) (g:exSt K C name=true)
    (h:∀h' tk',h'.Ns1 s.heap.objs.size (fun y=>if y=name then some v else none)→h'.get? x=some { ox with dict:=some s.heap.objs.size }→(∀b o,b≠x→s.heap.get? b=some o→h'.get? b=some o)→Q () { s with heap:=h',toks:=tk' }) :
    wpAny (model prog w) A (setAttr (.ref x) name v) Q E s:=by
  have g2:findIn K (.ref C) "__setattr__" = some (some (.builtin "object.__setattr__")):=by
    unfold exSt at g
    simp only [Bool.and_eq_true,beq_iff_eq] at g
    exact g.1.1.2
  exact set_plain X I g2 (exOsa (s:={ s with toks:=s.toks+1 }) X I hf g fun h' tk' a b c=>h h' tk' a b c)
end
end L2
namespace L2
open PySem PySem.Spec PyProof.Rows PySem.W PySem.Builtin.ObjectAttr
abbrev mroVE:List Value:=[.type "ValueError",.type "Exception",.type "BaseException",.type "object"]
def xcIn (K:Frag) (C:Addr) (ini:Option Value):Bool:=match K.lookup C with
  | some ⟨.type "type",_,.cls cd,sl⟩=>(match cd.mro,sl.toList with
    | .ref D :: bm,[_,_,_,_,some (.builtin n),_]=>D==C && (n == "ValueError.__new__" && (!cd.hasDel && (tailIn K mroVE bm && (nsOkIn K cd.ns && nsIn K cd.ns "__init__" == some ini))))
    | _,_=>false)
  | _=>false
theorem nsv_of {K:Frag}{h:Heap}{N:Addr}{mp:Str→Option Value}{n:Str}{v:Value} (X:K.In h) (G:h.Ns N mp) (e:nsIn K N n=some (some v)):mp n=some v:=by
  obtain ⟨ob,es,ep,ho,hd,_,f⟩:=G
  unfold nsIn at e
  split at e
  · rename_i q
    have z:=X _ _ q
    rw [ho] at z
    cases z
    cases hd
    split at e
    · rename_i he
      cases e
      rw [←f]
      unfold nsFind findBy
      rw [←Array.find?_toList,he];rfl
    · split at e <;> cases e
  · cases e
theorem xc_of {K:Frag}{h:Heap}{C:Addr}{ini:Option Value} (X:K.In h) (q:xcIn K C ini=true):∃nm qn N bs bm hd sn sb ab cl dd k0 k1 k2 k3 k5 mN,
    h.get? C=some (excClassObj nm qn C N bs bm hd sn sb ab cl dd k0 k1 k2 k3 k5 "ValueError.__new__")∧h.Ns N mN∧OwnTail h mroVE bm∧mN "__init__" = ini:=by
  unfold xcIn at q
  split at q
  · rename_i dd cd sl ho
    split at q
    · rename_i D bm k0 k1 k2 k3 n k5 hm hs
      rw [Bool.and_eq_true,Bool.and_eq_true,Bool.and_eq_true,Bool.and_eq_true,Bool.and_eq_true,beq_iff_eq,beq_iff_eq,beq_iff_eq,Bool.not_eq_true'] at q
      obtain ⟨rfl,rfl,dl,tl,ok,hi⟩:=q
      obtain ⟨nm,bs,mro,ns,qn,hd,sn,sub,ab,col,del⟩:=cd
      dsimp only at hm dl ok hi
      subst hm dl
      obtain rfl:sl=#[k0,k1,k2,k3,some (.builtin "ValueError.__new__"),k5]:=by
        obtain ⟨l⟩:=sl
        simp only at hs
        rw [hs]
      have nm1:h.Ns ns (h.nsMap ns):=.of_isNs (isNs_of_in X ok)
      refine ⟨nm,qn,ns,bs,bm,hd,sn,sub,ab,col,dd,k0,k1,k2,k3,k5,_,X _ _ ho,nm1,tail_of_in X tl,?_⟩
      cases ini with
      | none=>exact nsMap_none_of_in X ok hi
      | some v=>exact nsv_of X nm1 hi
    · cases q
  · cases q
section
variable {prog:Program}{w:World}{A:Around}{E:Value→Shared→Prop}{s:Shared}{K:Frag}{x C:Addr}{ox:Obj}{od:Option Obj}{a0:Value}
theorem exInit {u:Value}{Q:Value→Shared→Prop}{ini:Option Value} (X:K.In s.heap) (I:InstAt s.heap x ox C od) (hf:ox.data=.fields #[a0,.none,.none,.none,.bool false,.none]) (hm:xcIn K C ini=true)
    (h:∀h',h'.get? x=some { ox with data:=.fields #[.ref s.heap.objs.size,.none,.none,.none,.bool false,.none] }→(∀b o,b≠x→s.heap.get? b=some o→h'.get? b=some o)→Q .none { s with heap:=h' }) :
    wpAny (model prog w) A (call (.builtin "ValueError.__init__") [.ref x,u]) Q E s:=by
  have FB:=PySem.F.excBase_ValueError
  obtain ⟨nm,qn,N,bs,bm,hd,sn,sb,ab,cl,dd,k0,k1,k2,k3,k5,mN,eC,eN,T,_⟩:=xc_of X hm
  have hx:=I.at_
  have hc:=I.cls
  obtain ⟨oc,odi,oda,osl⟩:=ox
  dsimp only at hf hc hx
  subst hf hc
  obtain ⟨hp,gs,dr,tk,os⟩:=s
  dsimp only at eC eN T hx
  refine wpAny_call (codeAny_call_builtin FB.init.plain FB.initEntry (wpAny_check_init_subT FB T eC hx rfl ?_))
  have lx:x<hp.objs.size:=Heap.lt_size hx
  have hx1:(hp.push { cls:=.type "tuple",data:=.seq #[u] }).get? x=some ⟨.ref C,odi,.fields #[a0,.none,.none,.none,.bool false,.none],osl⟩:=Heap.get?_push_of_some _ hx
  unfold Builtin.«BaseException.__init__»
  refine wpAny_bind (wpAny_newTuple (wpAny_bind ?_))
  unfold Builtin.BaseException.bexcPut
  refine wpAny_bind (wpAny_field hx1 rfl rfl (wpAny_bind (wpAny_setField hx1 rfl (by show 0<6;decide) ?_)))
  have fin:wpAny (model prog w) A.in1 (ret .none) (fun fin s'=>match fin with | .done f=>(match Except.ok f with | Except.ok (Flow.ret v)=>Q v s' | Except.ok _=>False | Except.error e=>E e s') | .again c'=>False) (fun e s'=>E e s') ⟨(hp.push { cls:=.type "tuple",data:=.seq #[u] }).update x (Obj.mapFields (·.setIfInBounds 0 (.ref hp.objs.size))),gs,dr,tk,os⟩:=by
    refine wpAny_pure (h _ ?_ fun b o nb hb=>?_)
    · exact Heap.get?_update_self _ hx1 rfl
    · rw [Heap.get?_update_other _ _ (Ne.symm nb)]
      exact Heap.get?_push_of_some _ hb
  have fin2:=wpAny_mono fin (Q':=fun fin s'=>match fin with | .done f=>(match (Except.ok f:Result) with | Except.ok (Flow.ret v)=>Q v s' | Except.ok _=>False | Except.error e=>E e s') | .again c'=>c'.quiet=true∧codeAny (model prog w) A c' (fun r s'=>match r with | Except.ok (Flow.ret v)=>Q v s' | Except.ok _=>False | Except.error e=>E e s') s') (fun f s' z=>by
    cases f with
    | done f=>exact z
    | again c=>exact z.elim) fun _ _ z=>z
  split
  · exact wpAny_letGo fin2
  · exact wpAny_pure fin2
end
end L2
namespace L2
open PySem PySem.Spec PyProof.Rows
theorem ObjOk.there {P:Program}{w:World}{H:Hp}{h:Heap}{a:Addr}{o:HO} (x:ObjOk P w H h a o):∃u,h.get? a=some u:=by
  cases o with
  | lst xs=>obtain ⟨_,_,_,_,e⟩:=x;exact ⟨_,e⟩
  | tup xs=>obtain ⟨_,_,_,⟨_,e,_⟩,_⟩:=x;exact ⟨_,e⟩
  | dK kvs=>obtain ⟨_,_,_,_,o,_,_,e,_⟩:=x;exact ⟨_,e⟩
  | dT kvs=>obtain ⟨_,_,_,_,o,_,_,e,_⟩:=x;exact ⟨_,e⟩
  | set S n=>obtain ⟨o,_,_,_,e,_⟩:=x;exact ⟨_,e⟩
  | ins C dx fs=>obtain ⟨_,_,_,e,_⟩:=x;exact ⟨_,e⟩
  | own y=>obtain ⟨_,e⟩:=x;exact ⟨_,e⟩
  | xd fs=>obtain ⟨_,⟨_,_,_,e,_⟩,_⟩:=x;exact ⟨_,e⟩
  | rng lo hi=>obtain ⟨_,_,_,e⟩:=x;exact ⟨_,e⟩
  | frz ob u=>obtain ⟨e,_⟩:=x;exact ⟨_,e⟩
  | tbl ps=>exact ⟨_,show h.get? a=some _ from x⟩
  | met f y=>exact ⟨_,show h.get? a=some _ from x⟩
  | ext φ=>obtain ⟨_,e,_⟩:=x;exact e
theorem HOk.none' {P:Program}{w:World}{H:Hp}{h:Heap}{a:Addr} (x:HOk P w H h) (e:h.get? a=none):H a=none:=by
  cases q:H a with
  | none=>rfl
  | some u=>obtain ⟨o,z⟩:=(x a u q).there;rw [e] at z;cases z
section
variable {X:Cx}{pins:List (Addr×Obj)}{σ:St}{H:Hp}{s:Shared}{h':Heap}
theorem Inv.laidN {a:Addr}{o:HO}{t':Nat} (I:Inv X pins σ H s) (k:∀b u,s.heap.get? b=some u→h'.get? b=some u) (hn:s.heap.get? a=none) (new:ObjOk X.prog X.w (upd H a o) h' a o) :
    Inv X pins σ (upd H a o) { s with heap:=h',toks:=t' }:=by
  have hH:=I.hok.none' hn
  have ne:∀{b:Addr}{u:HO},H b=some u→b≠a:=fun q z=>by rw [z,hH] at q;cases q
  refine I.un ⟨fun b u q _ _ _=>k b u q,fun b u q _ _ _=>⟨u.slots,k b u q⟩,fun b u q n _=>?_,fun b u q _=>⟨u,k b u q⟩,fun b xs q=>?_,fun b u xs q=>?_,fun b ps q=>⟨#[],?_⟩⟩ fun b u e=>?_
  · rw [upd_ne (fun z=>by rw [z,hn] at q;cases q)];exact n
  · rw [upd_ne (ne q)];exact q
  · rw [upd_ne (ne q)];exact q
  · rw [upd_ne (ne q),q];simp
  · by_cases hb:b=a
    · subst hb;rw [upd_same] at e;cases e;exact new
    · rw [upd_ne hb] at e
      exact (I.hok b u e).stay (fun c v _ q=>k c v q) (fun c q=>by rw [upd_ne (ne q)];exact q) fun c xs q=>by rw [upd_ne (ne q)];exact q
end
def excP (x C:Addr) (dx:Option Addr) (h:Heap):Prop:=Ex2 fun a0 sl=>h.get? x=some ⟨.ref C,dx,.fields #[a0,.none,.none,.none,.bool false,.none],sl⟩
def excO (x C:Addr) (dx:Option Addr):HO:=.ext (excP x C dx)
theorem excO_ok {P:Program}{w:World}{H:Hp}{h:Heap}{x C:Addr}{dx:Option Addr} (e:excP x C dx h):ObjOk P w H h x (excO x C dx):=
  ⟨e,let ⟨_,_,q⟩:=e;⟨_,q⟩,fun h1 h2 ⟨a0,sl,q⟩ k=>⟨a0,sl,k _ q⟩⟩
theorem exc_get {P:Program}{w:World}{H:Hp}{h:Heap}{x C:Addr}{dx:Option Addr} (ok:HOk P w H h) (e:H x=some (excO x C dx)):excP x C dx h:=(ok x _ e).1
section
variable {X:Cx}{C f:Addr}{x:Str}{p pos:Pos}{e:Expr}{es:List Expr}{t:TA}{k:Nat}{fd:FuncData}{ps:List Str}{sp:Sp}{E:XK}
def tExcN (C:Addr) (t:TA):TE:=fun σ H Q=>t σ H fun vs H1=>vs.length≤10000∧∀y H',Nw H1 y (excO y C none) H'→Q (.ref y) H'
theorem run_excN {pins:List (Addr×Obj)}{σ:St}{H:Hp}{s:Shared}{Q:VK}{us:List Value}{vs:List V} (q:xcIn X.K C none=true) (I:Inv X pins σ H s) (r:Vals vs us) (hl:vs.length≤10000)
    (h:∀y H',Nw H y (excO y C none) H'→Q (.ref y) H'):wpAny (model X.prog X.w) X.A (call (.ref C) us) (EP X pins σ Q) X.xe s:=by
  obtain ⟨nm,qn,N,bs,bm,hd,sn,sb,ab,cl,dd,k0,k1,k2,k3,k5,mN,eC,eN,T,eI⟩:=xc_of I.kIn q
  have FB:=PySem.F.excBase_ValueError
  obtain ⟨hp,gs,dr,tk,os⟩:=s
  refine wpAny_call_exc_subT FB T eC eN eI (fun h1 y m=>?_) (by rw [←r.length];exact sz_of hl)
  obtain ⟨a0,e1,_,_⟩:=m.there
  exact ⟨.ref y,_,I.laidN (t':=tk) m.keeps m.new (excO_ok ⟨_,_,e1⟩),rfl,h y _ (.mk' (I.hok.none' m.new))⟩
theorem pe_excN (q:xcIn X.K C none=true) (kp:PySem.W.keepIn X.K (.ref C)=true) (hg:Gl X x) (hm:X.mg x=some (.ref C)) (ha:PA X (e :: es) t) (hdb:(x==("__debug__" : Str))=false:=by decide)
    (he:starEach (e :: es) X.env=(false,eval e X.env) :: starEach es X.env:=by rfl) (hpl:(backTo pos (starEach es X.env)).any (·.1)=false:=by rfl):PE X (.Call (.Name x p) (e :: es) [] pos) (tExcN C t):=by
  intro pins s σ H Q I h
  refine wpAny_Call_Name_kw (ld_glob I hg hm ?_ hdb)
  exact PySem.W.callWith_K (h₀:=X.base) I.ok.mod.kin kp (thn (ha pos pins s σ H _ I h) fun us s1 ⟨vs,H1,I1,r,hl,q1⟩=>⟨I1.kIn,run_excN q I1 r hl q1⟩) he hpl
def tExcI (C:Addr) (sp:Sp) (t:TA):TE:=fun σ H Q=>t σ H fun vs H1=>vs.length≤10000∧∀y H',Nw H1 y (excO y C none) H'→sp (.ref y :: vs) H' (fun v H2=>v=.non∧Q (.ref y) H2) E0
theorem fn_cls {K:PySem.W.Frag}{h:Heap}{f:Addr} (KX:K.In h) (q:PySem.W.isFn K (.ref f)=true):∃o,h.get? f=some o∧o.cls=.type "function" := by
  unfold PySem.W.isFn at q
  rw [beq_iff_eq] at q
  unfold PySem.W.typeIn at q
  obtain ⟨o,e,z⟩:=Option.map_eq_some_iff.mp q
  exact ⟨o,KX _ _ e,z⟩
theorem run_excI {pins:List (Addr×Obj)}{σ:St}{H:Hp}{s:Shared}{Q:VK}{us:List Value}{vs:List V} (q:xcIn X.K C (some (.ref f))=true) (fn:PySem.W.isFn X.K (.ref f)=true) (F:FnOk X.prog X.w X.K X.mg X.base CX0 k f fd ps sp) (hr:Room (k+1) X.A) (hb:Binds X.K fd ps [])
    (I:Inv X pins σ H s) (r:Vals vs us) (hl:vs.length≤10000) (h:∀y H',Nw H y (excO y C none) H'→sp (.ref y :: vs) H' (fun v H2=>v=.non∧Q (.ref y) H2) E0):wpAny (model X.prog X.w) X.A (call (.ref C) us) (EP X pins σ Q) X.xe s:=by
  obtain ⟨nm,qn,N,bs,bm,hd,sn,sb,ab,cl,dd,k0,k1,k2,k3,k5,mN,eC,eN,T,eI⟩:=xc_of I.kIn q
  obtain ⟨oI,ef,ec⟩:=fn_cls I.kIn fn
  have FB:=PySem.F.excBase_ValueError
  obtain ⟨hp,gs,dr,tk,os⟩:=s
  refine call_excI FB T eC eN eI ef ec (by rw [←r.length];exact sz_of hl) fun h1 y m=>?_
  obtain ⟨a0,e1,_,_⟩:=m.there
  have I2:=I.laidN (t':=tk) m.keeps m.new (excO_ok (H:=upd H y (excO y C none)) ⟨_,_,e1⟩)
  have hq:=h y _ (.mk' (I.hok.none' m.new))
  have r2:Vals (V.ref y :: vs) (Value.ref y :: us):=.cons rfl r
  have ln:(Value.ref y :: us).length=ps.length:=by rw [←r2.length];exact F.len _ _ _ _ hq
  have hbb:=hb _ (Value.ref y :: us) I2.kIn (by rw [List.append_nil];exact ln)
  rw [List.append_nil] at hbb
  refine wpAny_call (codeAny_mono (F.run _ X.stack _ _ ⟨Value.ref y :: us,[]⟩ (Value.ref y :: us) _ _ E0 (hr.make C us []) (I2.env0.make C us []) hbb r2 hq) fun rs s' hq'=>?_)
  cases rs with
  | error z=>exact hq'.elim
  | ok fl=>
    cases fl with
    | ret u=>
      obtain ⟨v,H',I3,rv,ev,q3⟩:=I2.after hq'
      subst ev
      exact ⟨rv,⟨V.ref y,H',I3,rfl,q3⟩⟩
    | next=>exact False.elim hq'
    | brk=>exact False.elim hq'
    | cont=>exact False.elim hq'
theorem pe_excI (q:xcIn X.K C (some (.ref f))=true) (fn:PySem.W.isFn X.K (.ref f)=true) (kp:PySem.W.keepIn X.K (.ref C)=true) (F:FnOk X.prog X.w X.K X.mg X.base CX0 k f fd ps sp) (hr:Room (k+1) X.A) (hb:Binds X.K fd ps []) (hg:Gl X x) (hm:X.mg x=some (.ref C))
    (ha:PA X (e :: es) t) (hdb:(x==("__debug__" : Str))=false:=by decide) (he:starEach (e :: es) X.env=(false,eval e X.env) :: starEach es X.env:=by rfl) (hpl:(backTo pos (starEach es X.env)).any (·.1)=false:=by rfl):PE X (.Call (.Name x p) (e :: es) [] pos) (tExcI C sp t):=by
  intro pins s σ H Q I h
  refine wpAny_Call_Name_kw (ld_glob I hg hm ?_ hdb)
  exact PySem.W.callWith_K (h₀:=X.base) I.ok.mod.kin kp (thn (ha pos pins s σ H _ I h) fun us s1 ⟨vs,H1,I1,r,hl,q1⟩=>⟨I1.kIn,run_excI q fn F hr hb I1 r hl q1⟩) he hpl
theorem exc_inst {h:Heap}{y C:Addr} (e:excP y C none h):Ex2 fun ox a0=>PySem.W.InstAt h y ox C none∧ox.data=.fields #[a0,.none,.none,.none,.bool false,.none]:=by
  obtain ⟨a0,sl,q⟩:=e
  exact ⟨_,a0,⟨q,rfl,rfl,trivial⟩,rfl⟩
theorem Inv.exc {pins:List (Addr×Obj)}{σ:St}{H:Hp}{s:Shared}{h':Heap}{y C:Addr}{dx:Option Addr}{t':Nat} (I:Inv X pins σ H s) (e:H y=some (excO y C dx)) (k:∀b o,b≠y→s.heap.get? b=some o→h'.get? b=some o) {dx':Option Addr} (n:excP y C dx' h'):Inv X pins σ (upd H y (excO y C dx')) { s with heap:=h',toks:=t' }:=
  I.write (x:=y) (e:=y) (by rw [e];exact trivial) (.inl rfl) k (let ⟨_,_,q⟩:=n;⟨_,q⟩) (excO_ok n)
theorem upd_self {H:Hp}{a:Addr}{o:HO} (h:H a=some o):upd H a o=H:=by
  funext b
  unfold upd
  split
  · rename_i z;rw [z,h]
  · rfl
abbrev xbIn (K:PySem.W.Frag) (B:Addr):Bool:=PySem.W.specialIn K (.ref B) "__getattribute__" == some (some (.builtin "type.__getattribute__")) && PySem.W.readsIn K B (.type "type") && (match PySem.W.findCls K (.ref B) (.type "type") "__init__" with | some (.val v)=>v==.builtin "ValueError.__init__" | _=>false)
def tBInit (K:PySem.W.Frag) (t:TA):TE:=fun σ H Q=>t σ H fun vs H1=>Ex4 fun y u C ini=>vs=[.ref y,u]∧H1 y=some (excO y C none)∧xcIn K C ini=true∧Q .non H1
theorem pe_binit {B:Addr}{pl:Sem Bool}{apos:Pos} (q:xbIn X.K B=true) (hg:Gl X x) (hm:X.mg x=some (.ref B)) (ha:PA X (e :: es) t) (hdb:(x==("__debug__" : Str))=false:=by decide)
    (hst:starEach (e :: es) X.env=(false,eval e X.env) :: starEach es X.env:=by rfl) (hpl:(backTo pos (starEach es X.env)).any (·.1)=false:=by rfl)
    (ht:eval (.Call (.Attribute (.Name x p) "__init__" apos) (e :: es) [] pos) X.env=(do
      let ov ←eval (.Name x p) X.env
      standAt apos.atName
      let (f,first) ←holding [ov] (getMethod ov "__init__" pl)
      callWith pos f first (backTo pos (starEach (e :: es) X.env)) (backToKw pos (keywordEach [] X.env))):=by rfl) :
    PE X (.Call (.Attribute (.Name x p) "__init__" apos) (e :: es) [] pos) (tBInit X.K t):=by
  intro pins s σ H Q I h
  unfold xbIn at q
  rw [Bool.and_eq_true,Bool.and_eq_true,beq_iff_eq] at q
  obtain ⟨⟨q1,q2⟩,q3⟩:=q
  refine PySem.W.methodCall_KW (pl:=pl) (ld_glob I hg hm ?_ hdb) ht
  cases e3:PySem.W.findCls X.K (.ref B) (.type "type") "__init__" with
  | none=>rw [e3] at q3;cases q3
  | some r=>
    cases r with
    | get g a o tp=>rw [e3] at q3;cases q3
    | val v=>
      rw [e3] at q3
      obtain rfl:=beq_iff_eq.mp (show (v==Value.builtin "ValueError.__init__")=true from q3)
      refine PySem.W.method_cls I.kIn q1 (PySem.W.cls_value I.kIn q2 e3 rfl ?_)
      have I1:Inv X pins σ H { s with toks:=s.toks+1 }:=I.tok _
      refine PyProof.Rows.callWith_builtin1 (thn (ha pos pins _ σ H _ I1 h) fun us s1 ⟨vs,H1,I2,r,q4⟩=>?_) hst hpl
      obtain ⟨y,u,C,ini,rfl,hy,hC,k⟩:=q4
      obtain ⟨uy,uu,rfl,r1,r2⟩:=vals2 r
      cases r1
      obtain ⟨ox,a0,J,hf⟩:=exc_inst (exc_get I2.hok hy)
      refine exInit I2.kIn J hf hC fun h' e1 kp=>?_
      have I3:=I2.exc (t':=s1.toks) hy kp (dx':=none) ⟨_,ox.slots,by
        rw [e1,J.cls]
        have:ox.dict=none:=by
          have z:=J.dict
          cases q:ox.dict with
          | none=>rfl
          | some d=>rw [q] at z;exact z.elim
        rw [this]⟩
      rw [upd_self hy] at I3
      exact ⟨.non,H1,I3,rfl,k⟩
abbrev exFd (K:PySem.W.Frag) (C:Addr) (f:Str):Bool:=exGa K C && (PySem.W.clsIn K C).any (·.hasDict) && PySem.W.findIn K (.ref C) f==some none
def sFldX (K:PySem.W.Frag) (ta tv:TE) (f:Str):TS:=fun D σ H=>tv σ H fun v H1=>ta σ H1 fun y H2=>Ex2 fun a C=>y=.ref a∧H2 a=some (excO a C none)∧exSt K C f=true∧∀dx H',H2 dx=none→dx≠a→H'=upd (upd H2 dx (.xd [(f,v)])) a (excO a C (some dx))→D.nx σ H'
theorem ps_fldX {o value:Expr}{ta tv:TE}{f:Str}{pos':Pos} (ha:PE X o ta) (hv:PE X value tv) (hs:swapsWith value (some (.Attribute o f pos')) pos.line X.env=pure false):PS X (.Assign [.Attribute o f pos'] value pos) (sFldX X.K ta tv f):=by
  intro pins s σ H D I h
  refine plainObj_wpAny_Assign_Attribute (thn (hv pins s σ H _ I h) fun u s1 ⟨v,H1,I1,ry,q⟩=>thn (ha pins s1 σ H1 _ I1 q) fun ov s2 ⟨y,H2,I2,rx,a,C,ex,ea,g,q2⟩=>?_) hs
  subst ex
  obtain rfl:ov=Value.ref a:=rx
  obtain ⟨ox,a0,J,hf⟩:=exc_inst (exc_get I2.hok ea)
  refine exSet I2.kIn J hf g fun h' tk n1 e1 kp=>?_
  have nd:s2.heap.get? s2.heap.objs.size=none:=Heap.get?_none_of_le (Nat.le_refl _)
  have na:s2.heap.objs.size≠a:=Nat.ne_of_gt (Heap.lt_size J.at_)
  have fr:H2 s2.heap.objs.size=none:=I2.hok.fresh (Nat.le_refl _)
  have ne:excP a C (some s2.heap.objs.size) h':=⟨a0,ox.slots,by rw [e1,J.cls,hf]⟩
  obtain ⟨od,es,ep,h1,h2⟩:=id n1
  have h3:(s2.heap.push od).get? s2.heap.objs.size=some od:=Heap.get?_push_size _ (Heap.get?_some_iff.mp h1).2
  have I3:Inv X pins σ (upd H2 s2.heap.objs.size (.xd [(f,v)])) { s2 with heap:=s2.heap.push od,toks:=tk }:=I2.laid (fun b o z=>Heap.get?_push_of_some _ z) (Nat.le_refl _) (show ObjOk X.prog X.w _ _ _ (.xd [(f,v)]) from ⟨_,n1.at fun o z=>by rw [h1] at z;cases z;exact h3,fun y=>by
    by_cases c:y=f
    · subst c
      rw [if_pos rfl]
      simp only [List.lookup,beq_self_eq_true]
      exact ry
    · rw [if_neg c]
      have:(y==f)=false:=beq_eq_false_iff_ne.mpr c
      simp only [List.lookup,this]
      exact trivial⟩)
  have ea3:upd H2 s2.heap.objs.size (.xd [(f,v)]) a=some (excO a C none):=by rw [upd_ne (Ne.symm na)];exact ea
  have I4:=I3.exc (t':=tk) (h':=h') ea3 (fun b o nb z=>by
    by_cases c:b=s2.heap.objs.size
    · subst c
      rw [h3] at z
      cases z
      exact h1
    · rw [Heap.get?_push_ne _ _ _ c] at z
      exact kp b o nb z) ne
  exact ⟨σ,_,I4,q2 _ _ fr na rfl⟩
def tFldX (K:PySem.W.Frag) (ta:TE) (f:Str):TE:=fun σ H Q=>ta σ H fun y H1=>Ex5 fun a C dx fs v=>y=.ref a∧H1 a=some (excO a C (some dx))∧H1 dx=some (.xd fs)∧fs.lookup f=some v∧exFd K C f=true∧Q v H1
theorem pe_fldX {ta:TE}{f:Str} (he:PE X e ta) (hb:attributeBase e f X.env (eval e X.env)=eval e X.env):PE X (.Attribute e f pos) (tFldX X.K ta f):=by
  intro pins s σ H Q I h
  refine attr_of hb (thn (he pins s σ H _ I h) fun u s1 ⟨y,H1,I1,rx,a,C,dx,fs,v,ex,ea,ed,el,g,q⟩=>?_)
  subst ex
  obtain rfl:u=Value.ref a:=rx
  obtain ⟨a0,sl,e1⟩:=exc_get I1.hok ea
  obtain ⟨mA,n1,rl⟩:=(show ObjOk X.prog X.w H1 s1.heap dx (.xd fs) from I1.hok dx _ ed)
  obtain ⟨od,e2,lk⟩:=lookIn_ns n1
  have rv:=rl f
  rw [el] at rv
  cases em:mA f with
  | none=>rw [em] at rv;exact rv.elim
  | some uv=>
    rw [em] at rv
    unfold exFd at g
    rw [Bool.and_eq_true,Bool.and_eq_true,beq_iff_eq] at g
    obtain ⟨⟨g1,g2⟩,g3⟩:=g
    obtain ⟨cd,hc,hd⟩:=PySem.W.any_some g2
    have J:PySem.W.InstAt s1.heap a ⟨.ref C,some dx,.fields #[a0,.none,.none,.none,.bool false,.none],sl⟩ C (some od):=⟨e1,rfl,rfl,e2⟩
    have fo:PySem.W.findObj X.K C (some od) f=some (.value uv):=by
      unfold PySem.W.findObj
      rw [hc,Option.bind_some,g3,Option.bind_some]
      simp only [Option.bind_some]
      unfold PySem.W.ownOf
      rw [hd,if_pos rfl]
      dsimp only
      rw [lk f,em]
      rfl
    exact exGet I1.kIn J g1 fo (handed_of rv) ⟨v,H1,I1.tok _,rv,q⟩
theorem pe_cls (hg:Gl X x) (hm:X.mg x=some (.ref C)) (hdb:(x==("__debug__" : Str))=false:=by decide):PE X (.Name x p) (tC (.ref C)):=fun pins s σ H Q I h=>ld_glob I hg hm ⟨.ref C,H,I,rfl,h⟩ hdb
def clsV:V→Option Value
  | .ref a=>some (.ref a)
  | .ty T=>some (.type T)
  | _=>none
def IsX (H:Hp) (a C:Addr) (fs:List (Str×V)):Prop:=(fs=[]∧H a=some (excO a C none))∨∃dx,H a=some (excO a C (some dx))∧H dx=some (.xd fs)
theorem IsX.sm {H H':Hp}{a C:Addr}{fs:List (Str×V)} (h:IsX H a C fs) (k:Same H H'):IsX H' a C fs:=by
  rcases h with ⟨e,h⟩ | ⟨dx,h1,h2⟩
  · exact .inl ⟨e,k _ _ h⟩
  · exact .inr ⟨dx,k _ _ h1,k _ _ h2⟩
inductive rIsX_ (K:PySem.W.Frag) (xs:List V) (H:Hp) (Q:VK):Prop
  | mk (a:_) (C:_) (fs:_) (c:_) (cv:_) (b:_) (h0:xs=[.ref a,c]) (h1:IsX H a C fs) (h2:clsV c=some cv) (h3:exCl K C=true) (h4:PySem.W.kitOne K (.ref C) cv=some b) (h5:Q (.bl b) H)
def rIsX (K:PySem.W.Frag):List V→Hp→VK→Prop:=fun xs H Q=>rIsX_ K xs H Q
theorem call_isinstX {K:PySem.W.Frag} (ek:X.K=K:=by rfl):CallR X (.builtin "isinstance") (rIsX K):=by
  subst ek
  intro pins s σ H xs us Q I r h
  obtain ⟨a,C,fs,c,cv,b,rfl,ha,hcv,g,ho,q⟩:=h
  obtain ⟨u,uc,rfl,ru,rc⟩:=vals2 r
  cases ru
  have ec:uc=cv:=by
    cases c with
    | ref y=>cases hcv;exact rc
    | ty T=>cases hcv;exact rc
    | _=>cases hcv
  subst ec
  have J:Ex2 fun ox od=>PySem.W.InstAt s.heap a ox C od:=by
    rcases ha with ⟨_,ha⟩ | ⟨d,ha,hd⟩
    · obtain ⟨a0,sl,e1⟩:=exc_get I.hok ha
      exact ⟨_,none,e1,rfl,rfl,trivial⟩
    · obtain ⟨a0,sl,e1⟩:=exc_get I.hok ha
      obtain ⟨od,e2⟩:=(I.hok d _ hd).there
      exact ⟨_,some od,e1,rfl,rfl,e2⟩
  exact PySem.W.kia_one (kitx_exc g) I.kIn J ho (fun z=>nomatch z) fun tk=>⟨.bl b,H,I.tok tk,rfl,q⟩
end
end L2
namespace L2
open PySem PySem.Spec PyProof.Rows
theorem boot_b_repr:bootBuiltins "repr" = some (.builtin "repr"):=by decide +kernel
theorem boot_ty_ValueError:bootBuiltins "ValueError" = some (.type "ValueError"):=by decide +kernel
def clsAt:Stmt→Nat→Stmt
  | .ClassDef _ _ _ body _ _ _ _ _ _ _,j=>body.getD j (.Pass ⟨0,0,0,0⟩)
  | _,_=>.Pass ⟨0,0,0,0⟩
def kinds (K:PySem.W.Frag) (cs:List Addr) (g:Addr):Bool:=decide cs.Nodup && cs.all fun c=>exCl K c && (PySem.W.kitOne K (.ref c) (.ref g)==some true && (PySem.W.kitOne K (.ref c) (.type "ValueError")==some true && cs.all fun d=>PySem.W.kitOne K (.ref c) (.ref d)==some (decide (c=d))))
theorem kinds_nd {K:PySem.W.Frag}{cs:List Addr}{g:Addr} (h:kinds K cs g=true):cs.Nodup:=of_decide_eq_true (Bool.and_eq_true _ _▸h).1
theorem kinds_at {K:PySem.W.Frag}{cs:List Addr}{g c:Addr} (h:kinds K cs g=true) (hc:c∈cs):exCl K c=true∧PySem.W.kitOne K (.ref c) (.ref g)=some true∧PySem.W.kitOne K (.ref c) (.type "ValueError")=some true∧∀d∈cs,PySem.W.kitOne K (.ref c) (.ref d)=some (decide (c=d)):=by
  unfold kinds at h
  rw [Bool.and_eq_true,List.all_eq_true] at h
  have z:=h.2 c hc
  obtain ⟨z1,z⟩:=Bool.and_eq_true_iff.mp z
  obtain ⟨z2,z⟩:=Bool.and_eq_true_iff.mp z
  obtain ⟨z3,z⟩:=Bool.and_eq_true_iff.mp z
  exact ⟨z1,beq_iff_eq.mp z2,beq_iff_eq.mp z3,fun d hd=>beq_iff_eq.mp (List.all_eq_true.mp z d hd)⟩
section
variable {X:Cx}
theorem call_reprW {k:Nat} (hr:Room k X.A):CallR X (.builtin "repr") rStrW:=by
  intro pins s σ H xs us Q I r h
  obtain ⟨a,d,E,n,k,rfl,hd,w,hn,hk,q⟩:=h
  obtain ⟨u,rfl,ru⟩:=r.one
  obtain rfl:u=.ref a:=ru
  obtain ⟨as,rr⟩:=hd.reads I.hok (u:=.ref a) rfl
  refine repr_of_reads' rr w.sho (PyData.noDict_hsm w.nod) hr.gd (by have:=hr.units;have:=w.dep;trivial) (fun _ _ e=>e) (fun h' u tk hk=>?_) (by have:=w.len;rw [sizeLine_eq];trivial)
  exact ⟨.str _,H,I.kept hk,⟨_,rfl⟩,q⟩
end
end L2
set_option maxHeartbeats 4000000
namespace K81
open PySem L2
def top (i:Nat):Stmt:=PySem.Challenge.pw_gainroads_k81_whole_refusals_made_by_han.main.body.getD i (.Pass ⟨0,0,0,0⟩)
abbrev s_l_box:Stmt:=top 17
abbrev s_l_take:Stmt:=top 18
abbrev s_l_folded:Stmt:=top 19
abbrev s_l_frac:Stmt:=top 20
abbrev s_l_kinds:Stmt:=top 21
abbrev s_l_right:Stmt:=top 22
abbrev s_law:Stmt:=top 23
abbrev s_Gaining__init:Stmt:=clsAt (top 10) 0
abbrev s_NotSoMuch__init:Stmt:=clsAt (top 11) 0
abbrev s_Short__init:Stmt:=clsAt (top 12) 0
abbrev s_Lacking__init:Stmt:=clsAt (top 13) 0
abbrev s_BadRow__init:Stmt:=clsAt (top 14) 0
abbrev s_BadSheet__init:Stmt:=clsAt (top 15) 0
theorem sc_l_box:FnScope ["_law_script", "_law_k", "_law_cell"] ["_law_script", "_law_k"] (defScope s_l_box):=⟨rfl,rfl,rfl,by decide +kernel,rfl,by decide +kernel,by decide +kernel⟩
theorem sc_l_take:FnScope ["_law_box_here", "_law_many", "_law_found", "_law_once"] ["_law_box_here", "_law_many"] (defScope s_l_take):=⟨rfl,rfl,rfl,by decide +kernel,rfl,by decide +kernel,by decide +kernel⟩
theorem sc_l_folded:FnScope ["_law_script", "_law_many", "_law_cells", "_law_k", "_law_cell"] ["_law_script", "_law_many"] (defScope s_l_folded):=⟨rfl,rfl,rfl,by decide +kernel,rfl,by decide +kernel,by decide +kernel⟩
theorem sc_l_frac:FnScope ["_law_n", "_law_d", "_law_one", "_law_other"] ["_law_n", "_law_d"] (defScope s_l_frac):=⟨rfl,rfl,rfl,by decide +kernel,rfl,by decide +kernel,by decide +kernel⟩
theorem sc_l_kinds:FnScope ["_law_error", "_law_found"] ["_law_error"] (defScope s_l_kinds):=⟨rfl,rfl,rfl,by decide +kernel,rfl,by decide +kernel,by decide +kernel⟩
theorem sc_l_right:FnScope ["_law_some", "_law_number", "_law_error"] ["_law_some"] (defScope s_l_right):=⟨rfl,rfl,rfl,by decide +kernel,rfl,by decide +kernel,by decide +kernel⟩
theorem sc_law:FnScope ["_law_script", "_law_cells", "_law_k", "_law_box_here", "_law_words", "_law_ties", "_law_number", "_law_other", "_law_one", "_law_share", "_law_some", "_law_told"] ["_law_script"] (defScope s_law):=⟨rfl,rfl,rfl,by decide +kernel,rfl,by decide +kernel,by decide +kernel⟩
theorem sc_Gaining__init:FnScope ["self", "ties"] ["self", "ties"] (defScope s_Gaining__init):=⟨rfl,rfl,rfl,by decide +kernel,rfl,by decide +kernel,by decide +kernel⟩
theorem sc_NotSoMuch__init:FnScope ["self", "most"] ["self", "most"] (defScope s_NotSoMuch__init):=⟨rfl,rfl,rfl,by decide +kernel,rfl,by decide +kernel,by decide +kernel⟩
theorem sc_Short__init:FnScope ["self", "share"] ["self", "share"] (defScope s_Short__init):=⟨rfl,rfl,rfl,by decide +kernel,rfl,by decide +kernel,by decide +kernel⟩
theorem sc_Lacking__init:FnScope ["self", "place"] ["self", "place"] (defScope s_Lacking__init):=⟨rfl,rfl,rfl,by decide +kernel,rfl,by decide +kernel,by decide +kernel⟩
theorem sc_BadRow__init:FnScope ["self", "row"] ["self", "row"] (defScope s_BadRow__init):=⟨rfl,rfl,rfl,by decide +kernel,rfl,by decide +kernel,by decide +kernel⟩
theorem sc_BadSheet__init:FnScope ["self", "row"] ["self", "row"] (defScope s_BadSheet__init):=⟨rfl,rfl,rfl,by decide +kernel,rfl,by decide +kernel,by decide +kernel⟩
end K81
namespace K81
open PySem L2
set_option genInjectivity false in
set_option genSizeOf false in
structure Txt (K:PySem.W.Frag) (mg:Str→Option Value) where
  b_ValueError:mg "ValueError" = none
  b_abs:mg "abs" = none
  b_divmod:mg "divmod" = none
  b_enumerate:mg "enumerate" = none
  b_int:mg "int" = none
  b_isinstance:mg "isinstance" = none
  b_len:mg "len" = none
  b_list:mg "list" = none
  b_max:mg "max" = none
  b_range:mg "range" = none
  b_repr:mg "repr" = none
  f_l_box:Addr
  d_l_box:FuncData
  m_l_box:mg "_law_box" = some (.ref f_l_box)
  F_l_box:Fun K "_law_box" "_law_box" s_l_box f_l_box d_l_box
  B_l_box:Binds K d_l_box ["_law_script", "_law_k"] []
  f_l_take:Addr
  d_l_take:FuncData
  m_l_take:mg "_law_take" = some (.ref f_l_take)
  F_l_take:Fun K "_law_take" "_law_take" s_l_take f_l_take d_l_take
  B_l_take:Binds K d_l_take ["_law_box_here", "_law_many"] []
  f_l_folded:Addr
  d_l_folded:FuncData
  m_l_folded:mg "_law_folded" = some (.ref f_l_folded)
  F_l_folded:Fun K "_law_folded" "_law_folded" s_l_folded f_l_folded d_l_folded
  B_l_folded:Binds K d_l_folded ["_law_script", "_law_many"] []
  f_l_frac:Addr
  d_l_frac:FuncData
  m_l_frac:mg "_law_frac" = some (.ref f_l_frac)
  F_l_frac:Fun K "_law_frac" "_law_frac" s_l_frac f_l_frac d_l_frac
  B_l_frac:Binds K d_l_frac ["_law_n", "_law_d"] []
  f_l_kinds:Addr
  d_l_kinds:FuncData
  m_l_kinds:mg "_law_kinds" = some (.ref f_l_kinds)
  F_l_kinds:Fun K "_law_kinds" "_law_kinds" s_l_kinds f_l_kinds d_l_kinds
  B_l_kinds:Binds K d_l_kinds ["_law_error"] []
  f_l_right:Addr
  d_l_right:FuncData
  m_l_right:mg "_law_right" = some (.ref f_l_right)
  F_l_right:Fun K "_law_right" "_law_right" s_l_right f_l_right d_l_right
  B_l_right:Binds K d_l_right ["_law_some"] []
  f_law:Addr
  d_law:FuncData
  m_law:mg "law" = some (.ref f_law)
  F_law:Fun K "law" "law" s_law f_law d_law
  B_law:Binds K d_law ["_law_script"] []
  f_Gaining__init:Addr
  d_Gaining__init:FuncData
  F_Gaining__init:Fun K "__init__" "Gaining.__init__" s_Gaining__init f_Gaining__init d_Gaining__init
  B_Gaining__init:Binds K d_Gaining__init ["self", "ties"] []
  f_NotSoMuch__init:Addr
  d_NotSoMuch__init:FuncData
  F_NotSoMuch__init:Fun K "__init__" "NotSoMuch.__init__" s_NotSoMuch__init f_NotSoMuch__init d_NotSoMuch__init
  B_NotSoMuch__init:Binds K d_NotSoMuch__init ["self", "most"] []
  f_Short__init:Addr
  d_Short__init:FuncData
  F_Short__init:Fun K "__init__" "Short.__init__" s_Short__init f_Short__init d_Short__init
  B_Short__init:Binds K d_Short__init ["self", "share"] []
  f_Lacking__init:Addr
  d_Lacking__init:FuncData
  F_Lacking__init:Fun K "__init__" "Lacking.__init__" s_Lacking__init f_Lacking__init d_Lacking__init
  B_Lacking__init:Binds K d_Lacking__init ["self", "place"] []
  f_BadRow__init:Addr
  d_BadRow__init:FuncData
  F_BadRow__init:Fun K "__init__" "BadRow.__init__" s_BadRow__init f_BadRow__init d_BadRow__init
  B_BadRow__init:Binds K d_BadRow__init ["self", "row"] []
  f_BadSheet__init:Addr
  d_BadSheet__init:FuncData
  F_BadSheet__init:Fun K "__init__" "BadSheet.__init__" s_BadSheet__init f_BadSheet__init d_BadSheet__init
  B_BadSheet__init:Binds K d_BadSheet__init ["self", "row"] []
  x_GainError:Addr
  m_GainError:mg "GainError" = some (.ref x_GainError)
  k_GainError:PySem.W.keepIn K (.ref x_GainError)=true
  xb_GainError:xbIn K x_GainError=true
  x_BadNumber:Addr
  m_BadNumber:mg "BadNumber" = some (.ref x_BadNumber)
  k_BadNumber:PySem.W.keepIn K (.ref x_BadNumber)=true
  q_BadNumber:xcIn K x_BadNumber (none)=true
  x_Taken:Addr
  m_Taken:mg "Taken" = some (.ref x_Taken)
  k_Taken:PySem.W.keepIn K (.ref x_Taken)=true
  q_Taken:xcIn K x_Taken (none)=true
  x_NoPlace:Addr
  m_NoPlace:mg "NoPlace" = some (.ref x_NoPlace)
  k_NoPlace:PySem.W.keepIn K (.ref x_NoPlace)=true
  q_NoPlace:xcIn K x_NoPlace (none)=true
  x_NoTie:Addr
  m_NoTie:mg "NoTie" = some (.ref x_NoTie)
  k_NoTie:PySem.W.keepIn K (.ref x_NoTie)=true
  q_NoTie:xcIn K x_NoTie (none)=true
  x_AsItIs:Addr
  m_AsItIs:mg "AsItIs" = some (.ref x_AsItIs)
  k_AsItIs:PySem.W.keepIn K (.ref x_AsItIs)=true
  q_AsItIs:xcIn K x_AsItIs (none)=true
  x_NoEnds:Addr
  m_NoEnds:mg "NoEnds" = some (.ref x_NoEnds)
  k_NoEnds:PySem.W.keepIn K (.ref x_NoEnds)=true
  q_NoEnds:xcIn K x_NoEnds (none)=true
  x_Over:Addr
  m_Over:mg "Over" = some (.ref x_Over)
  k_Over:PySem.W.keepIn K (.ref x_Over)=true
  q_Over:xcIn K x_Over (none)=true
  x_TooMuch:Addr
  m_TooMuch:mg "TooMuch" = some (.ref x_TooMuch)
  k_TooMuch:PySem.W.keepIn K (.ref x_TooMuch)=true
  q_TooMuch:xcIn K x_TooMuch (none)=true
  x_Gaining:Addr
  m_Gaining:mg "Gaining" = some (.ref x_Gaining)
  k_Gaining:PySem.W.keepIn K (.ref x_Gaining)=true
  fn_Gaining:PySem.W.isFn K (.ref f_Gaining__init)=true
  st_Gaining:exSt K x_Gaining "ties" = true
  fd_Gaining:exFd K x_Gaining "ties" = true
  q_Gaining:xcIn K x_Gaining (some (.ref f_Gaining__init))=true
  x_NotSoMuch:Addr
  m_NotSoMuch:mg "NotSoMuch" = some (.ref x_NotSoMuch)
  k_NotSoMuch:PySem.W.keepIn K (.ref x_NotSoMuch)=true
  fn_NotSoMuch:PySem.W.isFn K (.ref f_NotSoMuch__init)=true
  st_NotSoMuch:exSt K x_NotSoMuch "most" = true
  fd_NotSoMuch:exFd K x_NotSoMuch "most" = true
  q_NotSoMuch:xcIn K x_NotSoMuch (some (.ref f_NotSoMuch__init))=true
  x_Short:Addr
  m_Short:mg "Short" = some (.ref x_Short)
  k_Short:PySem.W.keepIn K (.ref x_Short)=true
  fn_Short:PySem.W.isFn K (.ref f_Short__init)=true
  st_Short:exSt K x_Short "share" = true
  fd_Short:exFd K x_Short "share" = true
  q_Short:xcIn K x_Short (some (.ref f_Short__init))=true
  x_Lacking:Addr
  m_Lacking:mg "Lacking" = some (.ref x_Lacking)
  k_Lacking:PySem.W.keepIn K (.ref x_Lacking)=true
  fn_Lacking:PySem.W.isFn K (.ref f_Lacking__init)=true
  st_Lacking:exSt K x_Lacking "place" = true
  fd_Lacking:exFd K x_Lacking "place" = true
  q_Lacking:xcIn K x_Lacking (some (.ref f_Lacking__init))=true
  x_BadRow:Addr
  m_BadRow:mg "BadRow" = some (.ref x_BadRow)
  k_BadRow:PySem.W.keepIn K (.ref x_BadRow)=true
  fn_BadRow:PySem.W.isFn K (.ref f_BadRow__init)=true
  st_BadRow:exSt K x_BadRow "row" = true
  fd_BadRow:exFd K x_BadRow "row" = true
  q_BadRow:xcIn K x_BadRow (some (.ref f_BadRow__init))=true
  x_BadSheet:Addr
  m_BadSheet:mg "BadSheet" = some (.ref x_BadSheet)
  k_BadSheet:PySem.W.keepIn K (.ref x_BadSheet)=true
  fn_BadSheet:PySem.W.isFn K (.ref f_BadSheet__init)=true
  st_BadSheet:exSt K x_BadSheet "row" = true
  fd_BadSheet:exFd K x_BadSheet "row" = true
  q_BadSheet:xcIn K x_BadSheet (some (.ref f_BadSheet__init))=true
  kin:kinds K [x_BadNumber,x_Taken,x_NoPlace,x_NoTie,x_AsItIs,x_NoEnds,x_Over,x_TooMuch,x_Gaining,x_NotSoMuch,x_Short,x_Lacking,x_BadRow,x_BadSheet] x_GainError=true
theorem txt_mk {K:PySem.W.Frag}{h:Heap}{mg:Str→Option Value} (X:K.In h) (G:h.Ns mainGlobals mg)
    {f0 f1 f2 f3 f4 f5 f6 f7 f8 f9 f10 f11 f12:Addr}{od0 an0 od1 an1 od2 an2 od3 an3 od4 an4 od5 an5 od6 an6 od7 an7 od8 an8 od9 an9 od10 an10 od11 an11 od12 an12:Option Addr}{sl0 sl1 sl2 sl3 sl4 sl5 sl6 sl7 sl8 sl9 sl10 sl11 sl12:Array (Option Value)}{oc0 kV0 dc0 pm0 cd0 ct0 oc1 kV1 dc1 pm1 cd1 ct1 oc2 kV2 dc2 pm2 cd2 ct2 oc3 kV3 dc3 pm3 cd3 ct3 oc4 kV4 dc4 pm4 cd4 ct4 oc5 kV5 dc5 pm5 cd5 ct5 oc6 kV6 dc6 pm6 cd6 ct6 oc7 kV7 dc7 pm7 cd7 ct7 oc8 kV8 dc8 pm8 cd8 ct8 oc9 kV9 dc9 pm9 cd9 ct9 oc10 kV10 dc10 pm10 cd10 ct10 oc11 kV11 dc11 pm11 cd11 ct11 oc12 kV12 dc12 pm12 cd12 ct12:Value}
    {x0 x1 x2 x3 x4 x5 x6 x7 x8 x9 x10 x11 x12 x13 x14:Addr}
    (xa0:PySem.W.nsIn K mainGlobals "GainError" = some (some (.ref x0)))
    (xa1:PySem.W.nsIn K mainGlobals "BadNumber" = some (some (.ref x1)))
    (xa2:PySem.W.nsIn K mainGlobals "Taken" = some (some (.ref x2)))
    (xa3:PySem.W.nsIn K mainGlobals "NoPlace" = some (some (.ref x3)))
    (xa4:PySem.W.nsIn K mainGlobals "NoTie" = some (some (.ref x4)))
    (xa5:PySem.W.nsIn K mainGlobals "AsItIs" = some (some (.ref x5)))
    (xa6:PySem.W.nsIn K mainGlobals "NoEnds" = some (some (.ref x6)))
    (xa7:PySem.W.nsIn K mainGlobals "Over" = some (some (.ref x7)))
    (xa8:PySem.W.nsIn K mainGlobals "TooMuch" = some (some (.ref x8)))
    (xa9:PySem.W.nsIn K mainGlobals "Gaining" = some (some (.ref x9)))
    (xa10:PySem.W.nsIn K mainGlobals "NotSoMuch" = some (some (.ref x10)))
    (xa11:PySem.W.nsIn K mainGlobals "Short" = some (some (.ref x11)))
    (xa12:PySem.W.nsIn K mainGlobals "Lacking" = some (some (.ref x12)))
    (xa13:PySem.W.nsIn K mainGlobals "BadRow" = some (some (.ref x13)))
    (xa14:PySem.W.nsIn K mainGlobals "BadSheet" = some (some (.ref x14)))
    (a0:PySem.W.nsIn K mainGlobals "_law_box" = some (some (.ref f0))) (l0:K.lookup f0=some ⟨oc0,od0,.func (PySem.W.fnOf "_law_box" "_law_box" (defArgs s_l_box) (defBody s_l_box) (defScope s_l_box) .none kV0 dc0 pm0 an0 cd0 ct0),sl0⟩) (c0:PySem.W.codeIn K cd0 "_law_box" = true) (k0:PySem.W.keepIn K (.ref f0)=true)
    (a1:PySem.W.nsIn K mainGlobals "_law_take" = some (some (.ref f1))) (l1:K.lookup f1=some ⟨oc1,od1,.func (PySem.W.fnOf "_law_take" "_law_take" (defArgs s_l_take) (defBody s_l_take) (defScope s_l_take) .none kV1 dc1 pm1 an1 cd1 ct1),sl1⟩) (c1:PySem.W.codeIn K cd1 "_law_take" = true) (k1:PySem.W.keepIn K (.ref f1)=true)
    (a2:PySem.W.nsIn K mainGlobals "_law_folded" = some (some (.ref f2))) (l2:K.lookup f2=some ⟨oc2,od2,.func (PySem.W.fnOf "_law_folded" "_law_folded" (defArgs s_l_folded) (defBody s_l_folded) (defScope s_l_folded) .none kV2 dc2 pm2 an2 cd2 ct2),sl2⟩) (c2:PySem.W.codeIn K cd2 "_law_folded" = true) (k2:PySem.W.keepIn K (.ref f2)=true)
    (a3:PySem.W.nsIn K mainGlobals "_law_frac" = some (some (.ref f3))) (l3:K.lookup f3=some ⟨oc3,od3,.func (PySem.W.fnOf "_law_frac" "_law_frac" (defArgs s_l_frac) (defBody s_l_frac) (defScope s_l_frac) .none kV3 dc3 pm3 an3 cd3 ct3),sl3⟩) (c3:PySem.W.codeIn K cd3 "_law_frac" = true) (k3:PySem.W.keepIn K (.ref f3)=true)
    (a4:PySem.W.nsIn K mainGlobals "_law_kinds" = some (some (.ref f4))) (l4:K.lookup f4=some ⟨oc4,od4,.func (PySem.W.fnOf "_law_kinds" "_law_kinds" (defArgs s_l_kinds) (defBody s_l_kinds) (defScope s_l_kinds) .none kV4 dc4 pm4 an4 cd4 ct4),sl4⟩) (c4:PySem.W.codeIn K cd4 "_law_kinds" = true) (k4:PySem.W.keepIn K (.ref f4)=true)
    (a5:PySem.W.nsIn K mainGlobals "_law_right" = some (some (.ref f5))) (l5:K.lookup f5=some ⟨oc5,od5,.func (PySem.W.fnOf "_law_right" "_law_right" (defArgs s_l_right) (defBody s_l_right) (defScope s_l_right) .none kV5 dc5 pm5 an5 cd5 ct5),sl5⟩) (c5:PySem.W.codeIn K cd5 "_law_right" = true) (k5:PySem.W.keepIn K (.ref f5)=true)
    (a6:PySem.W.nsIn K mainGlobals "law" = some (some (.ref f6))) (l6:K.lookup f6=some ⟨oc6,od6,.func (PySem.W.fnOf "law" "law" (defArgs s_law) (defBody s_law) (defScope s_law) .none kV6 dc6 pm6 an6 cd6 ct6),sl6⟩) (c6:PySem.W.codeIn K cd6 "law" = true) (k6:PySem.W.keepIn K (.ref f6)=true)
    (a7:PySem.W.findIn K (.ref x9) "__init__" = some (some (.ref f7))) (l7:K.lookup f7=some ⟨oc7,od7,.func (PySem.W.fnOf "__init__" "Gaining.__init__" (defArgs s_Gaining__init) (defBody s_Gaining__init) (defScope s_Gaining__init) .none kV7 dc7 pm7 an7 cd7 ct7),sl7⟩) (c7:PySem.W.codeIn K cd7 "Gaining.__init__" = true) (k7:PySem.W.keepIn K (.ref f7)=true)
    (a8:PySem.W.findIn K (.ref x10) "__init__" = some (some (.ref f8))) (l8:K.lookup f8=some ⟨oc8,od8,.func (PySem.W.fnOf "__init__" "NotSoMuch.__init__" (defArgs s_NotSoMuch__init) (defBody s_NotSoMuch__init) (defScope s_NotSoMuch__init) .none kV8 dc8 pm8 an8 cd8 ct8),sl8⟩) (c8:PySem.W.codeIn K cd8 "NotSoMuch.__init__" = true) (k8:PySem.W.keepIn K (.ref f8)=true)
    (a9:PySem.W.findIn K (.ref x11) "__init__" = some (some (.ref f9))) (l9:K.lookup f9=some ⟨oc9,od9,.func (PySem.W.fnOf "__init__" "Short.__init__" (defArgs s_Short__init) (defBody s_Short__init) (defScope s_Short__init) .none kV9 dc9 pm9 an9 cd9 ct9),sl9⟩) (c9:PySem.W.codeIn K cd9 "Short.__init__" = true) (k9:PySem.W.keepIn K (.ref f9)=true)
    (a10:PySem.W.findIn K (.ref x12) "__init__" = some (some (.ref f10))) (l10:K.lookup f10=some ⟨oc10,od10,.func (PySem.W.fnOf "__init__" "Lacking.__init__" (defArgs s_Lacking__init) (defBody s_Lacking__init) (defScope s_Lacking__init) .none kV10 dc10 pm10 an10 cd10 ct10),sl10⟩) (c10:PySem.W.codeIn K cd10 "Lacking.__init__" = true) (k10:PySem.W.keepIn K (.ref f10)=true)
    (a11:PySem.W.findIn K (.ref x13) "__init__" = some (some (.ref f11))) (l11:K.lookup f11=some ⟨oc11,od11,.func (PySem.W.fnOf "__init__" "BadRow.__init__" (defArgs s_BadRow__init) (defBody s_BadRow__init) (defScope s_BadRow__init) .none kV11 dc11 pm11 an11 cd11 ct11),sl11⟩) (c11:PySem.W.codeIn K cd11 "BadRow.__init__" = true) (k11:PySem.W.keepIn K (.ref f11)=true)
    (a12:PySem.W.findIn K (.ref x14) "__init__" = some (some (.ref f12))) (l12:K.lookup f12=some ⟨oc12,od12,.func (PySem.W.fnOf "__init__" "BadSheet.__init__" (defArgs s_BadSheet__init) (defBody s_BadSheet__init) (defScope s_BadSheet__init) .none kV12 dc12 pm12 an12 cd12 ct12),sl12⟩) (c12:PySem.W.codeIn K cd12 "BadSheet.__init__" = true) (k12:PySem.W.keepIn K (.ref f12)=true)
    (xk0:PySem.W.keepIn K (.ref x0)=true)
    (xb0:xbIn K x0=true)
    (xk1:PySem.W.keepIn K (.ref x1)=true)
    (xq1:xcIn K x1 (none)=true)
    (xk2:PySem.W.keepIn K (.ref x2)=true)
    (xq2:xcIn K x2 (none)=true)
    (xk3:PySem.W.keepIn K (.ref x3)=true)
    (xq3:xcIn K x3 (none)=true)
    (xk4:PySem.W.keepIn K (.ref x4)=true)
    (xq4:xcIn K x4 (none)=true)
    (xk5:PySem.W.keepIn K (.ref x5)=true)
    (xq5:xcIn K x5 (none)=true)
    (xk6:PySem.W.keepIn K (.ref x6)=true)
    (xq6:xcIn K x6 (none)=true)
    (xk7:PySem.W.keepIn K (.ref x7)=true)
    (xq7:xcIn K x7 (none)=true)
    (xk8:PySem.W.keepIn K (.ref x8)=true)
    (xq8:xcIn K x8 (none)=true)
    (xk9:PySem.W.keepIn K (.ref x9)=true)
    (xf9:PySem.W.isFn K (.ref f7)=true)
    (xs9:exSt K x9 "ties" = true)
    (xr9:exFd K x9 "ties" = true)
    (xq9:xcIn K x9 (some (.ref f7))=true)
    (xk10:PySem.W.keepIn K (.ref x10)=true)
    (xf10:PySem.W.isFn K (.ref f8)=true)
    (xs10:exSt K x10 "most" = true)
    (xr10:exFd K x10 "most" = true)
    (xq10:xcIn K x10 (some (.ref f8))=true)
    (xk11:PySem.W.keepIn K (.ref x11)=true)
    (xf11:PySem.W.isFn K (.ref f9)=true)
    (xs11:exSt K x11 "share" = true)
    (xr11:exFd K x11 "share" = true)
    (xq11:xcIn K x11 (some (.ref f9))=true)
    (xk12:PySem.W.keepIn K (.ref x12)=true)
    (xf12:PySem.W.isFn K (.ref f10)=true)
    (xs12:exSt K x12 "place" = true)
    (xr12:exFd K x12 "place" = true)
    (xq12:xcIn K x12 (some (.ref f10))=true)
    (xk13:PySem.W.keepIn K (.ref x13)=true)
    (xf13:PySem.W.isFn K (.ref f11)=true)
    (xs13:exSt K x13 "row" = true)
    (xr13:exFd K x13 "row" = true)
    (xq13:xcIn K x13 (some (.ref f11))=true)
    (xk14:PySem.W.keepIn K (.ref x14)=true)
    (xf14:PySem.W.isFn K (.ref f12)=true)
    (xs14:exSt K x14 "row" = true)
    (xr14:exFd K x14 "row" = true)
    (xq14:xcIn K x14 (some (.ref f12))=true)
    (xi:kinds K [x1,x2,x3,x4,x5,x6,x7,x8,x9,x10,x11,x12,x13,x14] x0=true)
    (z0:PySem.W.nsIn K mainGlobals "ValueError" = some none)
    (z1:PySem.W.nsIn K mainGlobals "abs" = some none)
    (z2:PySem.W.nsIn K mainGlobals "divmod" = some none)
    (z3:PySem.W.nsIn K mainGlobals "enumerate" = some none)
    (z4:PySem.W.nsIn K mainGlobals "int" = some none)
    (z5:PySem.W.nsIn K mainGlobals "isinstance" = some none)
    (z6:PySem.W.nsIn K mainGlobals "len" = some none)
    (z7:PySem.W.nsIn K mainGlobals "list" = some none)
    (z8:PySem.W.nsIn K mainGlobals "max" = some none)
    (z9:PySem.W.nsIn K mainGlobals "range" = some none)
    (z10:PySem.W.nsIn K mainGlobals "repr" = some none)
    : ∃T:Txt K mg,T.f_law=f6∧(∀(s:Shared) (u:Value),BindsTo s T.d_law ⟨[u],[]⟩ [("_law_script",u)]):=by
  refine ⟨{
    b_ValueError:=PySem.W.mg_none_of X G z0,
    b_abs:=PySem.W.mg_none_of X G z1,
    b_divmod:=PySem.W.mg_none_of X G z2,
    b_enumerate:=PySem.W.mg_none_of X G z3,
    b_int:=PySem.W.mg_none_of X G z4,
    b_isinstance:=PySem.W.mg_none_of X G z5,
    b_len:=PySem.W.mg_none_of X G z6,
    b_list:=PySem.W.mg_none_of X G z7,
    b_max:=PySem.W.mg_none_of X G z8,
    b_range:=PySem.W.mg_none_of X G z9,
    b_repr:=PySem.W.mg_none_of X G z10,
    f_l_box:=f0,d_l_box:=_,m_l_box:=PySem.W.mg_of X G a0,F_l_box:=fun_mk (st:=s_l_box) l0 c0 k0,B_l_box:=(fun_mk (st:=s_l_box) l0 c0 k0).binds (ps:=["_law_script", "_law_k"]) fun _ _ _ _ _ _=>len2 (fun _ _=>rfl),
    f_l_take:=f1,d_l_take:=_,m_l_take:=PySem.W.mg_of X G a1,F_l_take:=fun_mk (st:=s_l_take) l1 c1 k1,B_l_take:=(fun_mk (st:=s_l_take) l1 c1 k1).binds (ps:=["_law_box_here", "_law_many"]) fun _ _ _ _ _ _=>len2 (fun _ _=>rfl),
    f_l_folded:=f2,d_l_folded:=_,m_l_folded:=PySem.W.mg_of X G a2,F_l_folded:=fun_mk (st:=s_l_folded) l2 c2 k2,B_l_folded:=(fun_mk (st:=s_l_folded) l2 c2 k2).binds (ps:=["_law_script", "_law_many"]) fun _ _ _ _ _ _=>len2 (fun _ _=>rfl),
    f_l_frac:=f3,d_l_frac:=_,m_l_frac:=PySem.W.mg_of X G a3,F_l_frac:=fun_mk (st:=s_l_frac) l3 c3 k3,B_l_frac:=(fun_mk (st:=s_l_frac) l3 c3 k3).binds (ps:=["_law_n", "_law_d"]) fun _ _ _ _ _ _=>len2 (fun _ _=>rfl),
    f_l_kinds:=f4,d_l_kinds:=_,m_l_kinds:=PySem.W.mg_of X G a4,F_l_kinds:=fun_mk (st:=s_l_kinds) l4 c4 k4,B_l_kinds:=(fun_mk (st:=s_l_kinds) l4 c4 k4).binds (ps:=["_law_error"]) fun _ _ _ _ _ _=>len1 (fun _=>rfl),
    f_l_right:=f5,d_l_right:=_,m_l_right:=PySem.W.mg_of X G a5,F_l_right:=fun_mk (st:=s_l_right) l5 c5 k5,B_l_right:=(fun_mk (st:=s_l_right) l5 c5 k5).binds (ps:=["_law_some"]) fun _ _ _ _ _ _=>len1 (fun _=>rfl),
    f_law:=f6,d_law:=_,m_law:=PySem.W.mg_of X G a6,F_law:=fun_mk (st:=s_law) l6 c6 k6,B_law:=(fun_mk (st:=s_law) l6 c6 k6).binds (ps:=["_law_script"]) fun _ _ _ _ _ _=>len1 (fun _=>rfl),
    f_Gaining__init:=f7,d_Gaining__init:=_,F_Gaining__init:=fun_mk (st:=s_Gaining__init) l7 c7 k7,B_Gaining__init:=(fun_mk (st:=s_Gaining__init) l7 c7 k7).binds (ps:=["self", "ties"]) fun _ _ _ _ _ _=>len2 (fun _ _=>rfl),
    f_NotSoMuch__init:=f8,d_NotSoMuch__init:=_,F_NotSoMuch__init:=fun_mk (st:=s_NotSoMuch__init) l8 c8 k8,B_NotSoMuch__init:=(fun_mk (st:=s_NotSoMuch__init) l8 c8 k8).binds (ps:=["self", "most"]) fun _ _ _ _ _ _=>len2 (fun _ _=>rfl),
    f_Short__init:=f9,d_Short__init:=_,F_Short__init:=fun_mk (st:=s_Short__init) l9 c9 k9,B_Short__init:=(fun_mk (st:=s_Short__init) l9 c9 k9).binds (ps:=["self", "share"]) fun _ _ _ _ _ _=>len2 (fun _ _=>rfl),
    f_Lacking__init:=f10,d_Lacking__init:=_,F_Lacking__init:=fun_mk (st:=s_Lacking__init) l10 c10 k10,B_Lacking__init:=(fun_mk (st:=s_Lacking__init) l10 c10 k10).binds (ps:=["self", "place"]) fun _ _ _ _ _ _=>len2 (fun _ _=>rfl),
    f_BadRow__init:=f11,d_BadRow__init:=_,F_BadRow__init:=fun_mk (st:=s_BadRow__init) l11 c11 k11,B_BadRow__init:=(fun_mk (st:=s_BadRow__init) l11 c11 k11).binds (ps:=["self", "row"]) fun _ _ _ _ _ _=>len2 (fun _ _=>rfl),
    f_BadSheet__init:=f12,d_BadSheet__init:=_,F_BadSheet__init:=fun_mk (st:=s_BadSheet__init) l12 c12 k12,B_BadSheet__init:=(fun_mk (st:=s_BadSheet__init) l12 c12 k12).binds (ps:=["self", "row"]) fun _ _ _ _ _ _=>len2 (fun _ _=>rfl),
    x_GainError:=x0,m_GainError:=PySem.W.mg_of X G xa0,k_GainError:=xk0,xb_GainError:=xb0,
    x_BadNumber:=x1,m_BadNumber:=PySem.W.mg_of X G xa1,k_BadNumber:=xk1,q_BadNumber:=xq1,
    x_Taken:=x2,m_Taken:=PySem.W.mg_of X G xa2,k_Taken:=xk2,q_Taken:=xq2,
    x_NoPlace:=x3,m_NoPlace:=PySem.W.mg_of X G xa3,k_NoPlace:=xk3,q_NoPlace:=xq3,
    x_NoTie:=x4,m_NoTie:=PySem.W.mg_of X G xa4,k_NoTie:=xk4,q_NoTie:=xq4,
    x_AsItIs:=x5,m_AsItIs:=PySem.W.mg_of X G xa5,k_AsItIs:=xk5,q_AsItIs:=xq5,
    x_NoEnds:=x6,m_NoEnds:=PySem.W.mg_of X G xa6,k_NoEnds:=xk6,q_NoEnds:=xq6,
    x_Over:=x7,m_Over:=PySem.W.mg_of X G xa7,k_Over:=xk7,q_Over:=xq7,
    x_TooMuch:=x8,m_TooMuch:=PySem.W.mg_of X G xa8,k_TooMuch:=xk8,q_TooMuch:=xq8,
    x_Gaining:=x9,m_Gaining:=PySem.W.mg_of X G xa9,k_Gaining:=xk9,fn_Gaining:=xf9,st_Gaining:=xs9,fd_Gaining:=xr9,q_Gaining:=xq9,
    x_NotSoMuch:=x10,m_NotSoMuch:=PySem.W.mg_of X G xa10,k_NotSoMuch:=xk10,fn_NotSoMuch:=xf10,st_NotSoMuch:=xs10,fd_NotSoMuch:=xr10,q_NotSoMuch:=xq10,
    x_Short:=x11,m_Short:=PySem.W.mg_of X G xa11,k_Short:=xk11,fn_Short:=xf11,st_Short:=xs11,fd_Short:=xr11,q_Short:=xq11,
    x_Lacking:=x12,m_Lacking:=PySem.W.mg_of X G xa12,k_Lacking:=xk12,fn_Lacking:=xf12,st_Lacking:=xs12,fd_Lacking:=xr12,q_Lacking:=xq12,
    x_BadRow:=x13,m_BadRow:=PySem.W.mg_of X G xa13,k_BadRow:=xk13,fn_BadRow:=xf13,st_BadRow:=xs13,fd_BadRow:=xr13,q_BadRow:=xq13,
    x_BadSheet:=x14,m_BadSheet:=PySem.W.mg_of X G xa14,k_BadSheet:=xk14,fn_BadSheet:=xf14,st_BadSheet:=xs14,fd_BadSheet:=xr14,q_BadSheet:=xq14,
    kin:=xi },rfl,fun s v=>.of_eq rfl⟩
end K81
namespace K81
open PySem L2
theorem k_l_frac_l_n:(defScope s_l_frac).names.lookup ("_law_n" : Str)=some NameKind.local:=by decide +kernel
theorem k_l_frac_l_d:(defScope s_l_frac).names.lookup ("_law_d" : Str)=some NameKind.local:=by decide +kernel
theorem k_l_frac_l_one:(defScope s_l_frac).names.lookup ("_law_one" : Str)=some NameKind.local:=by decide +kernel
theorem k_l_frac_l_other:(defScope s_l_frac).names.lookup ("_law_other" : Str)=some NameKind.local:=by decide +kernel
theorem k_l_frac_abs:(defScope s_l_frac).names.lookup ("abs" : Str)=some NameKind.globalImplicit:=by decide +kernel
theorem k_l_kinds_l_error:(defScope s_l_kinds).names.lookup ("_law_error" : Str)=some NameKind.local:=by decide +kernel
theorem k_l_kinds_l_found:(defScope s_l_kinds).names.lookup ("_law_found" : Str)=some NameKind.local:=by decide +kernel
theorem k_l_kinds_isinstance:(defScope s_l_kinds).names.lookup ("isinstance" : Str)=some NameKind.globalImplicit:=by decide +kernel
theorem k_l_kinds_BadNumber:(defScope s_l_kinds).names.lookup ("BadNumber" : Str)=some NameKind.globalImplicit:=by decide +kernel
theorem k_l_kinds_Taken:(defScope s_l_kinds).names.lookup ("Taken" : Str)=some NameKind.globalImplicit:=by decide +kernel
theorem k_l_kinds_NoPlace:(defScope s_l_kinds).names.lookup ("NoPlace" : Str)=some NameKind.globalImplicit:=by decide +kernel
theorem k_l_kinds_NoTie:(defScope s_l_kinds).names.lookup ("NoTie" : Str)=some NameKind.globalImplicit:=by decide +kernel
theorem k_l_kinds_AsItIs:(defScope s_l_kinds).names.lookup ("AsItIs" : Str)=some NameKind.globalImplicit:=by decide +kernel
theorem k_l_kinds_NoEnds:(defScope s_l_kinds).names.lookup ("NoEnds" : Str)=some NameKind.globalImplicit:=by decide +kernel
theorem k_l_kinds_Over:(defScope s_l_kinds).names.lookup ("Over" : Str)=some NameKind.globalImplicit:=by decide +kernel
theorem k_l_kinds_TooMuch:(defScope s_l_kinds).names.lookup ("TooMuch" : Str)=some NameKind.globalImplicit:=by decide +kernel
theorem k_l_kinds_Gaining:(defScope s_l_kinds).names.lookup ("Gaining" : Str)=some NameKind.globalImplicit:=by decide +kernel
theorem k_l_kinds_NotSoMuch:(defScope s_l_kinds).names.lookup ("NotSoMuch" : Str)=some NameKind.globalImplicit:=by decide +kernel
theorem k_l_kinds_Short:(defScope s_l_kinds).names.lookup ("Short" : Str)=some NameKind.globalImplicit:=by decide +kernel
theorem k_l_kinds_Lacking:(defScope s_l_kinds).names.lookup ("Lacking" : Str)=some NameKind.globalImplicit:=by decide +kernel
theorem k_l_kinds_BadRow:(defScope s_l_kinds).names.lookup ("BadRow" : Str)=some NameKind.globalImplicit:=by decide +kernel
theorem k_l_kinds_BadSheet:(defScope s_l_kinds).names.lookup ("BadSheet" : Str)=some NameKind.globalImplicit:=by decide +kernel
theorem k_l_right_l_some:(defScope s_l_right).names.lookup ("_law_some" : Str)=some NameKind.local:=by decide +kernel
theorem k_l_right_l_number:(defScope s_l_right).names.lookup ("_law_number" : Str)=some NameKind.cell:=by decide +kernel
theorem k_l_right_l_error:(defScope s_l_right).names.lookup ("_law_error" : Str)=some NameKind.local:=by decide +kernel
theorem k_l_right_enumerate:(defScope s_l_right).names.lookup ("enumerate" : Str)=some NameKind.globalImplicit:=by decide +kernel
theorem k_l_right_l_kinds:(defScope s_l_right).names.lookup ("_law_kinds" : Str)=some NameKind.globalImplicit:=by decide +kernel
theorem k_l_right_range:(defScope s_l_right).names.lookup ("range" : Str)=some NameKind.globalImplicit:=by decide +kernel
theorem k_l_right_isinstance:(defScope s_l_right).names.lookup ("isinstance" : Str)=some NameKind.globalImplicit:=by decide +kernel
theorem k_l_right_GainError:(defScope s_l_right).names.lookup ("GainError" : Str)=some NameKind.globalImplicit:=by decide +kernel
theorem k_l_right_ValueError:(defScope s_l_right).names.lookup ("ValueError" : Str)=some NameKind.globalImplicit:=by decide +kernel
theorem k_law_l_script:(defScope s_law).names.lookup ("_law_script" : Str)=some NameKind.local:=by decide +kernel
theorem k_law_l_cells:(defScope s_law).names.lookup ("_law_cells" : Str)=some NameKind.local:=by decide +kernel
theorem k_law_l_k:(defScope s_law).names.lookup ("_law_k" : Str)=some NameKind.local:=by decide +kernel
theorem k_law_l_box_here:(defScope s_law).names.lookup ("_law_box_here" : Str)=some NameKind.cell:=by decide +kernel
theorem k_law_l_words:(defScope s_law).names.lookup ("_law_words" : Str)=some NameKind.local:=by decide +kernel
theorem k_law_l_ties:(defScope s_law).names.lookup ("_law_ties" : Str)=some NameKind.local:=by decide +kernel
theorem k_law_l_number:(defScope s_law).names.lookup ("_law_number" : Str)=some NameKind.local:=by decide +kernel
theorem k_law_l_other:(defScope s_law).names.lookup ("_law_other" : Str)=some NameKind.local:=by decide +kernel
theorem k_law_l_one:(defScope s_law).names.lookup ("_law_one" : Str)=some NameKind.local:=by decide +kernel
theorem k_law_l_share:(defScope s_law).names.lookup ("_law_share" : Str)=some NameKind.local:=by decide +kernel
theorem k_law_l_some:(defScope s_law).names.lookup ("_law_some" : Str)=some NameKind.local:=by decide +kernel
theorem k_law_l_told:(defScope s_law).names.lookup ("_law_told" : Str)=some NameKind.local:=by decide +kernel
theorem k_law_l_folded:(defScope s_law).names.lookup ("_law_folded" : Str)=some NameKind.globalImplicit:=by decide +kernel
theorem k_law_range:(defScope s_law).names.lookup ("range" : Str)=some NameKind.globalImplicit:=by decide +kernel
theorem k_law_max:(defScope s_law).names.lookup ("max" : Str)=some NameKind.globalImplicit:=by decide +kernel
theorem k_law_len:(defScope s_law).names.lookup ("len" : Str)=some NameKind.globalImplicit:=by decide +kernel
theorem k_law_l_box:(defScope s_law).names.lookup ("_law_box" : Str)=some NameKind.globalImplicit:=by decide +kernel
theorem k_law_l_take:(defScope s_law).names.lookup ("_law_take" : Str)=some NameKind.globalImplicit:=by decide +kernel
theorem k_law_l_frac:(defScope s_law).names.lookup ("_law_frac" : Str)=some NameKind.globalImplicit:=by decide +kernel
theorem k_law_BadNumber:(defScope s_law).names.lookup ("BadNumber" : Str)=some NameKind.globalImplicit:=by decide +kernel
theorem k_law_Taken:(defScope s_law).names.lookup ("Taken" : Str)=some NameKind.globalImplicit:=by decide +kernel
theorem k_law_NoPlace:(defScope s_law).names.lookup ("NoPlace" : Str)=some NameKind.globalImplicit:=by decide +kernel
theorem k_law_NoTie:(defScope s_law).names.lookup ("NoTie" : Str)=some NameKind.globalImplicit:=by decide +kernel
theorem k_law_AsItIs:(defScope s_law).names.lookup ("AsItIs" : Str)=some NameKind.globalImplicit:=by decide +kernel
theorem k_law_NoEnds:(defScope s_law).names.lookup ("NoEnds" : Str)=some NameKind.globalImplicit:=by decide +kernel
theorem k_law_Over:(defScope s_law).names.lookup ("Over" : Str)=some NameKind.globalImplicit:=by decide +kernel
theorem k_law_TooMuch:(defScope s_law).names.lookup ("TooMuch" : Str)=some NameKind.globalImplicit:=by decide +kernel
theorem k_law_Gaining:(defScope s_law).names.lookup ("Gaining" : Str)=some NameKind.globalImplicit:=by decide +kernel
theorem k_law_list:(defScope s_law).names.lookup ("list" : Str)=some NameKind.globalImplicit:=by decide +kernel
theorem k_law_NotSoMuch:(defScope s_law).names.lookup ("NotSoMuch" : Str)=some NameKind.globalImplicit:=by decide +kernel
theorem k_law_Short:(defScope s_law).names.lookup ("Short" : Str)=some NameKind.globalImplicit:=by decide +kernel
theorem k_law_Lacking:(defScope s_law).names.lookup ("Lacking" : Str)=some NameKind.globalImplicit:=by decide +kernel
theorem k_law_BadRow:(defScope s_law).names.lookup ("BadRow" : Str)=some NameKind.globalImplicit:=by decide +kernel
theorem k_law_BadSheet:(defScope s_law).names.lookup ("BadSheet" : Str)=some NameKind.globalImplicit:=by decide +kernel
theorem k_law_l_right:(defScope s_law).names.lookup ("_law_right" : Str)=some NameKind.globalImplicit:=by decide +kernel
theorem k_law_repr:(defScope s_law).names.lookup ("repr" : Str)=some NameKind.globalImplicit:=by decide +kernel
theorem k_Gaining__init_self:(defScope s_Gaining__init).names.lookup ("self" : Str)=some NameKind.local:=by decide +kernel
theorem k_Gaining__init_ties:(defScope s_Gaining__init).names.lookup ("ties" : Str)=some NameKind.local:=by decide +kernel
theorem k_Gaining__init_GainError:(defScope s_Gaining__init).names.lookup ("GainError" : Str)=some NameKind.globalImplicit:=by decide +kernel
theorem k_Gaining__init_isinstance:(defScope s_Gaining__init).names.lookup ("isinstance" : Str)=some NameKind.globalImplicit:=by decide +kernel
theorem k_Gaining__init_list:(defScope s_Gaining__init).names.lookup ("list" : Str)=some NameKind.globalImplicit:=by decide +kernel
theorem k_NotSoMuch__init_self:(defScope s_NotSoMuch__init).names.lookup ("self" : Str)=some NameKind.local:=by decide +kernel
theorem k_NotSoMuch__init_most:(defScope s_NotSoMuch__init).names.lookup ("most" : Str)=some NameKind.local:=by decide +kernel
theorem k_NotSoMuch__init_GainError:(defScope s_NotSoMuch__init).names.lookup ("GainError" : Str)=some NameKind.globalImplicit:=by decide +kernel
theorem k_Short__init_self:(defScope s_Short__init).names.lookup ("self" : Str)=some NameKind.local:=by decide +kernel
theorem k_Short__init_share:(defScope s_Short__init).names.lookup ("share" : Str)=some NameKind.local:=by decide +kernel
theorem k_Short__init_GainError:(defScope s_Short__init).names.lookup ("GainError" : Str)=some NameKind.globalImplicit:=by decide +kernel
theorem k_Lacking__init_self:(defScope s_Lacking__init).names.lookup ("self" : Str)=some NameKind.local:=by decide +kernel
theorem k_Lacking__init_place:(defScope s_Lacking__init).names.lookup ("place" : Str)=some NameKind.local:=by decide +kernel
theorem k_Lacking__init_GainError:(defScope s_Lacking__init).names.lookup ("GainError" : Str)=some NameKind.globalImplicit:=by decide +kernel
theorem k_BadRow__init_self:(defScope s_BadRow__init).names.lookup ("self" : Str)=some NameKind.local:=by decide +kernel
theorem k_BadRow__init_row:(defScope s_BadRow__init).names.lookup ("row" : Str)=some NameKind.local:=by decide +kernel
theorem k_BadRow__init_GainError:(defScope s_BadRow__init).names.lookup ("GainError" : Str)=some NameKind.globalImplicit:=by decide +kernel
theorem k_BadSheet__init_self:(defScope s_BadSheet__init).names.lookup ("self" : Str)=some NameKind.local:=by decide +kernel
theorem k_BadSheet__init_row:(defScope s_BadSheet__init).names.lookup ("row" : Str)=some NameKind.local:=by decide +kernel
theorem k_BadSheet__init_GainError:(defScope s_BadSheet__init).names.lookup ("GainError" : Str)=some NameKind.globalImplicit:=by decide +kernel
end K81
namespace K81
open PySem L2
section
variable {P:Program}{w:World}{K:PySem.W.Frag}{mg:Str→Option Value}{base:Heap}
theorem ok_box (T:Txt K mg):FnOk P w K mg base CX0 1 T.f_l_box T.d_l_box ["_law_script", "_law_k"] (spBox K):=by
  refine T.F_l_box.ok sc_l_box (fun vs H Q E h=>?_) (fun cdv A outer s H vs Q E hr h=>?_)
  · obtain ⟨a,ms,k,rfl,_⟩:=h
    rfl
  · obtain ⟨a,ms,k,rfl,hS,hk0,hk1,kk⟩:=h
    refine ⟨_,(pss_cons (ps_set (i:=2) sc_l_box.nd rfl (Or.inl rfl) pe_int)
      (pss_cons (ps_if (pt_cmpR op_lt (pv 1) (pe_callB call_len_seq (by rfl) T.b_len boot_b_len (pa_cons (pv 0) pa_nil)) (nomark _)) (pss_one (ps_set (i:=2) sc_l_box.nd rfl (Or.inl rfl) (pe_ix ix_seq (pv 0) (pv 1) (fun _ _=>rfl)))) pss_nil)
      (pss_one (ps_ret (pe_lst (pa_cons (pe_op op_mul (pe_callB call_abs (by rfl) T.b_abs boot_b_abs (pa_cons (pv 2) pa_nil)) (pe_callTy call_int1 (by rfl) T.b_int boot_ty_int (pa_cons (pe_cmpR op_ge (pe_callB call_abs (by rfl) T.b_abs boot_b_abs (pa_cons (pv 2) pa_nil)) (pe_op op_pow pe_int pe_int) (nomark _)) pa_nil))) (pa_cons (pe_op op_mod (pe_op op_add (pv 2) (pe_op op_mul (pe_op op_mul pe_int (pv 1)) (pv 1))) pe_int) (pa_cons pe_int pa_nil)))))))),?_⟩
    refine ⟨_,rfl,_,rfl,a,_,rfl,.inl hS,_,_,rfl,rfl,_,rfl,?_⟩
    refine ite2 (fun h=>?_) (fun h=>?_)
    case' refine_1=>
      have hlt:k.toNat<ms.length:=by
        have h':=of_decide_eq_true h
        rw [List.length_map] at h'
        trivial
      refine ⟨_,rfl,_,rfl,.inl ⟨a,_,_,V.int ms[k.toNat],rfl,rfl,hS,?_,?_⟩⟩
      · exact atI_int hk0 hlt
    all_goals
      refine ⟨_,rfl,_,rfl,_,rfl,_,rfl,_,_,rfl,rfl,⟨by decide,by decide,by decide⟩,_,_,rfl,rfl,.inr ⟨_,rfl,_,_,rfl,rfl,.inr ?_,_,rfl,_,rfl,_,_,rfl,rfl,.inr ⟨by trivial,by trivial⟩,_,rfl,_,_,rfl,rfl,.inr ⟨by trivial,by trivial⟩,_,_,rfl,rfl,_,_,rfl,rfl,?_,?_,fun p hp=>kk p _ hp (Same.new hp) ⟨_,_,upd_same,?_,?_,?_⟩⟩⟩
      · exact b01 _
      · show (0:Int)<2147483647;decide
      · show 3≤sizeLine;decide
      · exact mul01 _ (abs_nn _)
      · exact Int.emod_nonneg _ (by decide)
      · exact Int.emod_lt_of_pos _ (by decide)
end
end K81
namespace K81
open PySem L2
section
variable {P:Program}{w:World}{K:PySem.W.Frag}{mg:Str→Option Value}{base:Heap}
theorem ok_take (T:Txt K mg):FnOk P w K mg base CX0 1 T.f_l_take T.d_l_take ["_law_box_here", "_law_many"] spTake:=by
  refine T.F_l_take.ok sc_l_take (fun vs H Q E h=>?_) (fun cdv A outer s H vs Q E hr h=>?_)
  · obtain ⟨b,many,t,rfl,_⟩:=h
    rfl
  · obtain ⟨b,many,t,rfl,⟨c,x,hb,hc,hx0,hx1⟩,hm0,hm1,ht0,ht1,kk⟩:=h
    refine ⟨_,(pss_cons (ps_if (pt_cmpR op_gt (pe_ix ix_seq (pv 0) pe_int (fun _ _=>rfl)) pe_int (nomark _)) (pss_cons (ps_asg (pe_callB call_divmodB (by rfl) T.b_divmod boot_b_divmod (pa_cons (pe_ix ix_seq (pv 0) pe_int (fun _ _=>rfl)) (pa_cons (pv 1) pa_nil))) (pg_tup rfl (pgs_cons (pg_sub (pv 0) pe_int set_list) (pgs_cons (pg_name (i:=2) sc_l_take.nd rfl (Or.inl rfl)) pgs_nil))))
        (pss_one (ps_ret (pv 2)))) pss_nil)
      (pss_cons (ps_asg (pe_op op_add (pe_ix ix_seq (pv 0) pe_int (fun _ _=>rfl)) pe_int) (pg_sub (pv 0) pe_int set_list))
      (pss_cons (ps_set (i:=3) sc_l_take.nd rfl (Or.inl rfl) (pe_op op_mod (pe_op op_pow (pe_op op_add (pe_ix ix_seq (pv 0) pe_int (fun _ _=>rfl)) (pe_op op_mul pe_int (pe_ix ix_seq (pv 0) pe_int (fun _ _=>rfl)))) pe_int) pe_int))
      (pss_one (ps_ret (pe_op op_mod (pe_op op_fdiv (pe_op op_mod (pe_op op_add (pe_op op_mul (pv 3) pe_int) (pe_op op_mul (pe_op op_mul (pe_ix ix_seq (pv 0) pe_int (fun _ _=>rfl)) (pe_ix ix_seq (pv 0) pe_int (fun _ _=>rfl))) pe_int)) pe_int) pe_int) (pv 1))))))),?_⟩
    refine ⟨_,rfl,.inl ⟨b,_,_,_,rfl,rfl,SqL.of hb,rfl,_,_,rfl,rfl,_,rfl,?_⟩⟩
    refine ite2 (fun h=>?_) (fun h=>?_)
    · refine ⟨_,rfl,.inl ⟨b,_,_,_,rfl,rfl,SqL.of hb,rfl,_,rfl,_,_,rfl,⟨hm0,hm1⟩,fun p hp=>⟨p,_,rfl,SqT.of upd_same,rfl,_,_,rfl,_,rfl,b,[.int c,.int x,.int t],_,0,rfl,rfl,?_,rfl,_,_,rfl,rfl,_,rfl,?_⟩⟩⟩
      · rw [upd_ne (ne_of_none hb hp)];exact hb
      · have hb':upd H p (.tup [.int (c / many),.int (c % many)]) b=some (.lst [.int c,.int x,.int t]):=by rw [upd_ne (ne_of_none hb hp)];exact hb
        exact kk _ t _ (Int.emod_nonneg _ (Int.ne_of_gt hm0)) (Int.emod_lt_of_pos _ hm0) (Int.le_refl _) (by trivial) (sameE_upd (Same.new hp) hb') ⟨_,_,upd_same,Int.ediv_nonneg hc (Int.le_of_lt hm0),hx0,hx1⟩
    · refine ⟨_,rfl,.inl ⟨b,_,_,_,rfl,rfl,SqL.of hb,rfl,_,_,rfl,rfl,_,rfl,b,_,_,2,rfl,rfl,hb,rfl,?_⟩⟩
      refine ⟨_,rfl,.inl ⟨b,_,_,_,rfl,rfl,SqL.of upd_same,rfl,_,rfl,.inl ⟨b,_,_,_,rfl,rfl,SqL.of upd_same,rfl,_,_,rfl,rfl,.inl ⟨by decide,by decide⟩,_,_,rfl,rfl,_,_,rfl,rfl,⟨by decide,by decide,?_⟩,_,_,rfl,rfl,?_,?_⟩⟩⟩
      · have:(x+39373*(t+1)).natAbs<2 ^ 64:=by trivial
        exact this
      · show (0:Int)<2147483647;decide
      have ho0:0≤(x+39373*(t+1)) ^ (5:Int).toNat % 2147483647:=Int.emod_nonneg _ (by decide)
      have ho1:(x+39373*(t+1)) ^ (5:Int).toNat % 2147483647<2147483647:=Int.emod_lt_of_pos _ (by decide)
      generalize (x+39373*(t+1)) ^ (5:Int).toNat % 2147483647=on at ho0 ho1 ⊢
      refine ⟨_,rfl,_,_,rfl,rfl,.inr ⟨by decide,by decide⟩,_,rfl,.inl ⟨b,_,_,_,rfl,rfl,SqL.of upd_same,rfl,_,rfl,.inl ⟨b,_,_,_,rfl,rfl,SqL.of upd_same,rfl,_,_,rfl,rfl,.inl ⟨?_,?_⟩,_,_,rfl,rfl,.inr ⟨by decide,by decide⟩,_,_,rfl,rfl,_,_,rfl,rfl,?_,_,_,rfl,rfl,⟨by decide,by decide⟩,_,rfl,_,_,rfl,rfl,hm0,?_⟩⟩⟩
      · show -(2 ^ 64)<t+1;trivial
      · show t+1<2 ^ 64;trivial
      · show (0:Int)<2147483629;decide
      · exact kk _ (t+1) _ (Int.emod_nonneg _ (Int.ne_of_gt hm0)) (Int.emod_lt_of_pos _ hm0) (by trivial) (Int.le_refl _) (sameE_upd (Same.refl H) hb) ⟨c,x,upd_same,hc,hx0,hx1⟩
end
end K81
namespace K81
open PySem L2
section
variable {P:Program}{w:World}{K:PySem.W.Frag}{mg:Str→Option Value}{base:Heap}
inductive spFoldN_ (K:PySem.W.Frag) (vs:List V) (H:Hp) (Q:VK):Prop
  | mk (a:Addr) (ns:List Int) (many:Int) (h0:vs=[.ref a,.int many]) (h1:SqL K H a (ns.map V.int)) (h2:ns.length≤63) (h3:2≤many) (h4:many≤63) (h5:∀p ms H',H p=none→Same H H'→H' p=some (.lst ((ms:List Int).map V.int))→(ms.length:Int)≤many→Q (.ref p) H')
def spFoldN (K:PySem.W.Frag):Sp:=fun vs H Q _=>spFoldN_ K vs H Q
theorem ok_folded (T:Txt K mg):FnOk P w K mg base CX0 1 T.f_l_folded T.d_l_folded ["_law_script", "_law_many"] (spFoldN K):=by
  refine T.F_l_folded.ok sc_l_folded (fun vs H Q E h=>?_) (fun cdv A outer s H vs Q E hr h=>?_)
  · obtain ⟨a,ns,many,rfl,_⟩:=h
    rfl
  · obtain ⟨a,ns,many,rfl,hS,hn,hm0,hm1,kk⟩:=h
    refine ⟨_,(pss_cons (ps_set (i:=2) sc_l_folded.nd rfl (Or.inl rfl) (pe_callTy call_list_of (by rfl) T.b_list boot_ty_list (pa_cons (pe_slice sl_list (pv 0) po_none (po_some (pv 1))) pa_nil)))
      (pss_cons (ps_for PassesOwn.never rfl (pi_enum rfl T.b_enumerate (pa_cons (pe_slice sl_list (pv 0) (po_some (pv 1)) (po_some pe_int)) pa_nil)) (pg_tup rfl (pgs_cons (pg_name (i:=3) sc_l_folded.nd rfl (Or.inl rfl)) (pgs_cons (pg_name (i:=4) sc_l_folded.nd rfl (Or.inl rfl)) pgs_nil))) (pss_one (ps_asg (pe_op op_add (pe_ix ix_seq (pv 2) (pe_op op_mod (pv 3) (pv 1)) (fun _ _=>rfl)) (pe_op op_mul (pv 4) (pe_op op_add (pv 3) pe_int))) (pg_sub (pv 2) (pe_op op_mod (pv 3) (pv 1)) set_list))))
      (pss_one (ps_ret (pv 2))))),?_⟩
    have cutE:∀(lo hi:Option Int),∃cs:List Int,cutV (ns.map V.int) lo hi=cs.map V.int∧cs.length≤ns.length∧cs=(ns.drop (HT.sIx ns.length 0 lo)).take (HT.sIx ns.length ns.length hi - HT.sIx ns.length 0 lo):=fun lo hi=>by
      refine ⟨(ns.drop (HT.sIx ns.length 0 lo)).take (HT.sIx ns.length ns.length hi - HT.sIx ns.length 0 lo),?_,?_,rfl⟩
      · unfold cutV
        rw [List.length_map,List.map_take,List.map_drop]
      · rw [List.length_take,List.length_drop];trivial
    obtain ⟨c1,e1,l1,q1⟩:=cutE none (some many)
    obtain ⟨c2,e2,l2,q2⟩:=cutE (some many) (some 63)
    have em:many=((many.toNat:Nat):Int):=by trivial
    have l1m:c1.length=min many.toNat ns.length:=by
      rw [q1,em,HT.sIx_nat,HT.sIx_none,List.length_take,List.length_drop]
      simp only [Int.toNat_natCast]
      trivial
    have l2m:c2.length≤ns.length - many.toNat:=by
      rw [q2,em,HT.sIx_nat,List.length_take,List.length_drop]
      simp only [Int.toNat_natCast]
      trivial
    refine ⟨_,rfl,_,rfl,_,rfl,a,_,rfl,hS,fun p1 hp1=>⟨p1,_,rfl,.inl (SqL.of upd_same),fun p2 hp2=>?_⟩⟩
    rw [e1] at hp2 ⊢
    have n12:p2≠p1:=fun z=>by rw [z,upd_same] at hp2;cases hp2
    have s2:Same H (upd (upd H p1 (.lst (c1.map V.int))) p2 (.lst (c1.map V.int))):=(Same.new hp1).trans (Same.new hp2)
    refine ⟨_,rfl,_,rfl,_,rfl,_,rfl,a,_,rfl,s2.seq hS,fun p3 hp3=>⟨p3,rfl,⟨_,SqL.of upd_same⟩,?_⟩⟩
    rw [e2]
    have s3:=s2.trans (Same.new (o:=.lst (c2.map V.int)) hp3)
    have n23:p2≠p3:=fun z=>by rw [←z,upd_same] at hp3;cases hp3
    refine ⟨fun i m σ H'=>m=c2.length - i∧i≤c2.length∧Ex3 fun (ms:List Int) (v3 v4:Option V)=>σ=[some (.ref a),some (.int many),some (.ref p2),v3,v4]∧ms.length=c1.length∧H' p2=some (.lst (ms.map V.int))∧H' p3=some (.lst (c2.map V.int))∧(∀b o,b≠p2→H b=some o→H' b=some o),⟨_,rfl,Nat.zero_le _,c1,none,none,rfl,rfl,?_,upd_same,fun b o _ h=>s3 b o h⟩,?_⟩
    · rw [upd_ne n23];exact upd_same
    rintro i m σ H' ⟨rfl,hi,ms,v3,v4,rfl,hms,h2,h3,hk⟩
    by_cases hlt:i<c2.length
    · refine .inr ⟨⟨c2.map V.int,V.int c2[i],SqL.of h3,by rw [List.getElem?_map];simp [hlt]⟩,_,fun σ' H'' z=>z,?_⟩
      rintro x H'' ⟨t,y,ht,rfl,rfl,hy⟩
      have hy':=hy _ (SqL.of h3)
      rw [List.getElem?_map,List.getElem?_eq_getElem hlt] at hy'
      obtain rfl:V.int c2[i]=y:=Option.some.inj hy'
      have nt2:p2≠t:=ne_of_none h2 ht
      have nt3:p3≠t:=ne_of_none h3 ht
      have hlen:many.toNat<ns.length:=by trivial
      have hmod0:0≤(i:Int) % many:=Int.emod_nonneg _ (by trivial)
      have hmod1:(i:Int) % many<many:=Int.emod_lt_of_pos _ (by trivial)
      have hixlt:((i:Int) % many).toNat<ms.length:=by trivial
      refine ⟨t,_,rfl,SqT.of upd_same,rfl,_,_,rfl,_,_,rfl,rfl,_,rfl,_,rfl,_,rfl,_,_,rfl,rfl,(by show (0:Int)<many;trivial),.inl ⟨p2,ms.map V.int,_,V.int ms[((i:Int) % many).toNat],rfl,rfl,SqL.of (by rw [upd_ne nt2];exact h2),atI_int hmod0 hixlt,_,rfl,_,rfl,_,_,rfl,rfl,_,_,rfl,rfl,.inr ⟨?_,?_⟩,_,_,rfl,rfl,_,rfl,_,rfl,_,rfl,_,_,rfl,rfl,(by show (0:Int)<many;trivial),p2,ms.map V.int,_,((i:Int) % many).toNat,rfl,rfl,(by rw [upd_ne nt2];exact h2),?_,?_⟩⟩
      · trivial
      · trivial
      · unfold ixN
        rw [if_pos hmod0,List.length_map,if_pos (by trivial)]
      · refine ⟨c2.length - (i+1),by trivial,rfl,hlt,ms.set ((i:Int) % many).toNat (ms[((i:Int) % many).toNat]+c2[i]*((i:Int)+2)),_,_,rfl,by rw [List.length_set];exact hms,?_,?_,fun b o hb h=>?_⟩
        · rw [upd_same,List.map_set]
        · rw [upd_ne (Ne.symm n23),upd_ne nt3];exact h3
        · have:=hk b o hb h
          rw [upd_ne hb,upd_ne (ne_of_none this ht)]
          exact this
    · refine .inl ⟨⟨_,SqL.of h3,by rw [List.length_map];trivial⟩,?_⟩
      have hp2':H p2=none:=by
        rw [upd_ne n12] at hp2
        exact hp2
      have sH:Same H H':=fun b o h=>hk b o (ne_of_none h hp2') h
      exact ⟨_,rfl,kk p2 ms H' hp2' sH h2 (by trivial)⟩
end
end K81
namespace K81
open PySem L2
section
variable {P:Program}{w:World}{K:PySem.W.Frag}{mg:Str→Option Value}{base:Heap}
theorem gcd_log {n d:Int} (hd:d≠0) (h:d.natAbs.log2<9000):CDivB n ((Int.gcd n d:Nat):Int):=by
  have g0:=KM.gcd_pos (n:=n) hd
  refine ⟨by trivial,?_⟩
  have h1:Int.gcd n d≤d.natAbs:=Nat.le_of_dvd (by trivial) (by
    have:((Int.gcd n d:Nat):Int) ∣ d:=Int.gcd_dvd_right ..
    exact Int.ofNat_dvd_left.mp this)
  have h2:d.natAbs<2 ^ 9000:=(Nat.log2_lt (by trivial)).mp h
  rw [Int.natAbs_natCast]
  exact (Nat.log2_lt (by trivial)).mpr (Nat.lt_of_le_of_lt h1 h2)
inductive spFrac_ (vs:List V) (H:Hp) (Q:VK):Prop
  | mk (n d:Int) (h0:vs=[.int n,.int d]) (h1:0<d) (h2:Sz 9000 d) (h3:∀p H',Nw H p (fr (KM.low n d)) H'→Q (.ref p) H')
def spFrac:Sp:=fun vs H Q _=>spFrac_  vs H Q
theorem ok_frac (T:Txt K mg):FnOk P w K mg base CX0 1 T.f_l_frac T.d_l_frac ["_law_n", "_law_d"] spFrac:=by
  refine T.F_l_frac.ok sc_l_frac (fun vs H Q E h=>?_) (fun cdv A outer s H vs Q E hr h=>?_)
  · obtain ⟨n,d,rfl,_⟩:=h
    rfl
  · obtain ⟨n,d,rfl,hd,hs,k⟩:=h
    have hl:=hs.log (Int.ne_of_gt hd)
    refine ⟨_,(@pss_cons _ _ _ _ _ (@ps_par _ _ (2) (3) _ _ _ _ _ _ _ _ _ _ _ rfl sc_l_frac.nd rfl rfl (by decide) k_l_frac_l_one k_l_frac_l_other (@pa_c _ _ _ _ _ (@pe_callB _ _ _ _ _ _ _ _ _ (@call_abs _) k_l_frac_abs T.b_abs (@boot_b_abs) (@pa_c _ _ _ _ _ (@pw _ 0 _ _ (Or.inl k_l_frac_l_n) (by rfl) (by decide) (by decide)) (@pa_nil _) rfl) (by decide) (by decide) (by rfl) (by rfl)) (@pa_c _ _ _ _ _ (@pe_callB _ _ _ _ _ _ _ _ _ (@call_abs _) k_l_frac_abs T.b_abs (@boot_b_abs) (@pa_c _ _ _ _ _ (@pw _ 1 _ _ (Or.inl k_l_frac_l_d) (by rfl) (by decide) (by decide)) (@pa_nil _) rfl) (by decide) (by decide) (by rfl) (by rfl)) (@pa_nil _) rfl) rfl) (by kernel_rfl) (by rfl)) (@pss_cons _ _ _ _ _ (@ps_while _ _ _ _ _ _ PassesOwn.never (@pt_cmpR _ _ _ _ _ _ _ _ (@op_gt _) (@pw _ 3 _ _ (Or.inl k_l_frac_l_other) (by rfl) (by decide) (by decide)) (@pe_int _ _ _ _) (@nomark _ _ (by decide) (by decide))) (@pss_one _ _ _ (@ps_par _ _ (2) (3) _ _ _ _ _ _ _ _ _ _ _ rfl sc_l_frac.nd rfl rfl (by decide) k_l_frac_l_one k_l_frac_l_other (@pa_c _ _ _ _ _ (@pw _ 3 _ _ (Or.inl k_l_frac_l_other) (by rfl) (by decide) (by decide)) (@pa_c _ _ _ _ _ (@pe_op _ _ _ _ _ _ _ _ (@op_mod _) (@pw _ 2 _ _ (Or.inl k_l_frac_l_one) (by rfl) (by decide) (by decide)) (@pw _ 3 _ _ (Or.inl k_l_frac_l_other) (by rfl) (by decide) (by decide))) (@pa_nil _) rfl) rfl) (by kernel_rfl) (by rfl)))) (@pss_cons _ _ _ _ _ (@ps_set _ _ (2) _ _ _ _ sc_l_frac.nd rfl (Or.inl k_l_frac_l_one) (@pe_op _ _ _ _ _ _ _ _ (@op_mul _) (@pw _ 2 _ _ (Or.inl k_l_frac_l_one) (by rfl) (by decide) (by decide)) (@pe_ifExp _ _ _ _ _ _ _ _ (@pt_cmpR _ _ _ _ _ _ _ _ (@op_gt _) (@pw _ 1 _ _ (Or.inl k_l_frac_l_d) (by rfl) (by decide) (by decide)) (@pe_int _ _ _ _) (@nomark _ _ (by decide) (by decide))) (@pe_int _ _ _ _) (@pe_un _ _ _ _ _ _ (@un_neg _) (@pe_int _ _ _ _)))) (by rfl) (by first | exact .inl rfl | exact .inr rfl | assumption)) (@pss_one _ _ _ (@ps_ret _ _ _ _ (@pe_tupA _ _ _ _ _ (@pa_c _ _ _ _ _ (@pe_op _ _ _ _ _ _ _ _ (@op_fdivB _) (@pw _ 0 _ _ (Or.inl k_l_frac_l_n) (by rfl) (by decide) (by decide)) (@pw _ 2 _ _ (Or.inl k_l_frac_l_one) (by rfl) (by decide) (by decide))) (@pa_c _ _ _ _ _ (@pe_op _ _ _ _ _ _ _ _ (@op_fdivB _) (@pw _ 1 _ _ (Or.inl k_l_frac_l_d) (by rfl) (by decide) (by decide)) (@pw _ 2 _ _ (Or.inl k_l_frac_l_one) (by rfl) (by decide) (by decide))) (@pa_nil _) rfl) rfl))))))),?_⟩
    refine ⟨_,rfl,_,rfl,_,rfl,_,rfl,_,_,rfl,?_⟩
    refine ⟨fun m σ H'=>∃a b:Int,σ=[some (.int n),some (.int d),some (.int a),some (.int b)]∧H'=H∧0≤a∧0≤b∧Int.gcd a b=Int.gcd n d∧m=b.natAbs,⟨_,_,_,rfl,rfl,abs_nn n,abs_nn d,KM.gcd_abs n d,rfl⟩,?_⟩
    rintro m σ H' ⟨a,b,rfl,rfl,ha,hb,hg,rfl⟩
    refine ⟨_,rfl,_,_,rfl,rfl,_,rfl,?_⟩
    by_cases hb0:0<b
    · rw [decide_eq_true hb0]
      refine iteT ⟨fun σ' H''=>∃a' b':Int,σ'=[some (.int n),some (.int d),some (.int a'),some (.int b')]∧H''=H'∧0≤a'∧0≤b'∧Int.gcd a' b'=Int.gcd n d∧b'.natAbs<b.natAbs,?_,?_⟩
      · rintro σ' H'' ⟨a',b',rfl,rfl,h0,h1,h2,h3⟩
        exact ⟨_,h3,a',b',rfl,rfl,h0,h1,h2,rfl⟩
      · refine ⟨_,rfl,_,rfl,_,rfl,_,_,rfl,rfl,hb0,_,_,rfl,?_⟩
        have q0:=Int.emod_nonneg a (Int.ne_of_gt hb0)
        have q1:=Int.emod_lt_of_pos a hb0
        exact ⟨b,a % b,rfl,rfl,hb,q0,(KM.gcd_emod a b).trans hg,by trivial⟩
    · have hb1:b=0:=by trivial
      subst hb1
      rw [decide_eq_false hb0]
      refine iteF ?_
      have eg:a=((Int.gcd n d:Nat):Int):=by
        rw [←hg,KM.gcd_zero_abs,if_neg (by trivial)]
      have c1:=gcd_log (n:=n) (Int.ne_of_gt hd) hl
      have c2:=gcd_log (n:=d) (d:=d) (Int.ne_of_gt hd) hl
      rw [←eg] at c1
      refine ⟨_,rfl,_,rfl,_,_,rfl,rfl,_,rfl,?_⟩
      rw [decide_eq_true hd]
      refine iteT ⟨_,_,rfl,rfl,.inr ⟨by decide,by decide⟩,?_⟩
      show gName 2 (V.int (a*1)) _ _ _
      rw [Int.mul_one]
      refine ⟨_,rfl,_,rfl,_,_,rfl,rfl,c1,_,rfl,_,rfl,_,_,rfl,rfl,⟨c1.1,c1.2⟩,(by show 2≤10000;decide),fun p H2 n2=>k p H2 ?_⟩
      unfold KM.low
      rw [if_pos hd,←eg]
      exact n2
end
end K81
namespace K81
open PySem L2
section
variable {P:Program}{w:World}{K:PySem.W.Frag}{mg:Str→Option Value}{base:Heap}
theorem mkX {H H1 H2:Hp}{y C dx:Addr}{fs:List (Str×V)} (fr:H y=none) (s:Same H H1) (hd:H1 dx=none) (ne:dx≠y) (e:H2=upd (upd H1 dx (.xd fs)) y (excO y C (some dx))):Same H H2∧IsX H2 y C fs∧∀a o,H1 a=some o→a≠y→H2 a=some o:=by
  subst e
  have k:∀a o,H1 a=some o→a≠y→upd (upd H1 dx (.xd fs)) y (excO y C (some dx)) a=some o:=fun a o h1 ny=>by
    have nd:a≠dx:=fun z=>by rw [z,hd] at h1;cases h1
    rw [upd_ne ny,upd_ne nd]
    exact h1
  exact ⟨fun a o h=>k a o (s _ _ h) (fun z=>by rw [z,fr] at h;cases h),.inr ⟨dx,upd_same,by rw [upd_ne ne];exact upd_same⟩,k⟩
theorem isX_fld {H:Hp}{a C:Addr}{f:Str}{v:V} (h:IsX H a C [(f,v)]):∃dx,H a=some (excO a C (some dx))∧H dx=some (.xd [(f,v)]):=by
  rcases h with ⟨z,_⟩ | h
  · cases z
  · exact h
theorem lk1 {f:Str}{v:V}:([(f,v)]:List (Str×V)).lookup f=some v:=by simp [List.lookup]
theorem mkN {H H1:Hp}{y C:Addr} (n:Nw H y (excO y C none) H1):IsX H1 y C []:=.inl ⟨rfl,n.at'⟩
inductive spIni_ (K:PySem.W.Frag) (f:Str) (vs:List V) (H:Hp) (Q:VK):Prop
  | mk (y C:Addr) (v:V) (ini:Option Value) (h0:vs=[.ref y,v]) (h1:H y=some (excO y C none)) (h2:xcIn K C ini=true) (h3:exSt K C f=true) (h4:∀dx H',H dx=none→dx≠y→H'=upd (upd H dx (.xd [(f,v)])) y (excO y C (some dx))→Q .non H')
def spIni (K:PySem.W.Frag) (f:Str):Sp:=fun vs H Q _=>spIni_ K f vs H Q
inductive spIniL_ (K:PySem.W.Frag) (f:Str) (vs:List V) (H:Hp) (Q:VK):Prop
  | mk (y C l:Addr) (ns:List Int) (ini:Option Value) (h0:vs=[.ref y,.ref l]) (h1:H y=some (excO y C none)) (h2:xcIn K C ini=true) (h3:exSt K C f=true) (h4:H l=some (.lst (ns.map V.int))) (h5:∀p dx H1 H',Nw H p (.lst (ns.map V.int)) H1→H1 dx=none→dx≠y→H'=upd (upd H1 dx (.xd [(f,.ref p)])) y (excO y C (some dx))→Q .non H')
def spIniL (K:PySem.W.Frag) (f:Str):Sp:=fun vs H Q _=>spIniL_ K f vs H Q
theorem ok_NotSoMuch (T:Txt K mg):FnOk P w K mg base CX0 1 T.f_NotSoMuch__init T.d_NotSoMuch__init ["self", "most"] (spIni K "most"):=by
  refine T.F_NotSoMuch__init.ok sc_NotSoMuch__init (fun vs H Q E h=>?_) (fun cdv A outer s H vs Q E hr h=>?_)
  · obtain ⟨y,C,v,ini,rfl,_⟩:=h
    rfl
  · obtain ⟨y,C,v,ini,rfl,hy,hx,hs,k⟩:=h
    refine ⟨_,(@pss_cons _ _ _ _ _ (@ps_expr _ _ _ _ (@pe_binit _ _ _ _ _ _ _ _ _ _ T.xb_GainError k_NotSoMuch__init_GainError T.m_GainError (@pa_c _ _ _ _ _ (@pw _ 0 _ _ (Or.inl k_NotSoMuch__init_self) (by rfl) (by decide) (by decide)) (@pa_c _ _ _ _ _ (@pe_str _ _ _ _) (@pa_nil _) rfl) rfl) (by decide) (by rfl) (by rfl) (by rfl)) (by rfl)) (@pss_one _ _ _ (@ps_fldX _ _ _ _ _ _ _ _ (@pw _ 0 _ _ (Or.inl k_NotSoMuch__init_self) (by rfl) (by decide) (by decide)) (@pw _ 1 _ _ (Or.inl k_NotSoMuch__init_most) (by rfl) (by decide) (by decide)) rfl))),?_⟩
    exact ⟨_,rfl,y,_,C,ini,rfl,hy,hx,_,rfl,_,rfl,y,C,rfl,hy,hs,fun dx H' h1 h2 h3=>k dx H' h1 h2 h3⟩
theorem ok_Short (T:Txt K mg):FnOk P w K mg base CX0 1 T.f_Short__init T.d_Short__init ["self", "share"] (spIni K "share"):=by
  refine T.F_Short__init.ok sc_Short__init (fun vs H Q E h=>?_) (fun cdv A outer s H vs Q E hr h=>?_)
  · obtain ⟨y,C,v,ini,rfl,_⟩:=h
    rfl
  · obtain ⟨y,C,v,ini,rfl,hy,hx,hs,k⟩:=h
    refine ⟨_,(@pss_cons _ _ _ _ _ (@ps_expr _ _ _ _ (@pe_binit _ _ _ _ _ _ _ _ _ _ T.xb_GainError k_Short__init_GainError T.m_GainError (@pa_c _ _ _ _ _ (@pw _ 0 _ _ (Or.inl k_Short__init_self) (by rfl) (by decide) (by decide)) (@pa_c _ _ _ _ _ (@pe_str _ _ _ _) (@pa_nil _) rfl) rfl) (by decide) (by rfl) (by rfl) (by rfl)) (by rfl)) (@pss_one _ _ _ (@ps_fldX _ _ _ _ _ _ _ _ (@pw _ 0 _ _ (Or.inl k_Short__init_self) (by rfl) (by decide) (by decide)) (@pw _ 1 _ _ (Or.inl k_Short__init_share) (by rfl) (by decide) (by decide)) rfl))),?_⟩
    exact ⟨_,rfl,y,_,C,ini,rfl,hy,hx,_,rfl,_,rfl,y,C,rfl,hy,hs,fun dx H' h1 h2 h3=>k dx H' h1 h2 h3⟩
theorem ok_Lacking (T:Txt K mg):FnOk P w K mg base CX0 1 T.f_Lacking__init T.d_Lacking__init ["self", "place"] (spIni K "place"):=by
  refine T.F_Lacking__init.ok sc_Lacking__init (fun vs H Q E h=>?_) (fun cdv A outer s H vs Q E hr h=>?_)
  · obtain ⟨y,C,v,ini,rfl,_⟩:=h
    rfl
  · obtain ⟨y,C,v,ini,rfl,hy,hx,hs,k⟩:=h
    refine ⟨_,(@pss_cons _ _ _ _ _ (@ps_expr _ _ _ _ (@pe_binit _ _ _ _ _ _ _ _ _ _ T.xb_GainError k_Lacking__init_GainError T.m_GainError (@pa_c _ _ _ _ _ (@pw _ 0 _ _ (Or.inl k_Lacking__init_self) (by rfl) (by decide) (by decide)) (@pa_c _ _ _ _ _ (@pe_str _ _ _ _) (@pa_nil _) rfl) rfl) (by decide) (by rfl) (by rfl) (by rfl)) (by rfl)) (@pss_one _ _ _ (@ps_fldX _ _ _ _ _ _ _ _ (@pw _ 0 _ _ (Or.inl k_Lacking__init_self) (by rfl) (by decide) (by decide)) (@pw _ 1 _ _ (Or.inl k_Lacking__init_place) (by rfl) (by decide) (by decide)) rfl))),?_⟩
    exact ⟨_,rfl,y,_,C,ini,rfl,hy,hx,_,rfl,_,rfl,y,C,rfl,hy,hs,fun dx H' h1 h2 h3=>k dx H' h1 h2 h3⟩
theorem ok_BadRow (T:Txt K mg):FnOk P w K mg base CX0 1 T.f_BadRow__init T.d_BadRow__init ["self", "row"] (spIni K "row"):=by
  refine T.F_BadRow__init.ok sc_BadRow__init (fun vs H Q E h=>?_) (fun cdv A outer s H vs Q E hr h=>?_)
  · obtain ⟨y,C,v,ini,rfl,_⟩:=h
    rfl
  · obtain ⟨y,C,v,ini,rfl,hy,hx,hs,k⟩:=h
    refine ⟨_,(@pss_cons _ _ _ _ _ (@ps_expr _ _ _ _ (@pe_binit _ _ _ _ _ _ _ _ _ _ T.xb_GainError k_BadRow__init_GainError T.m_GainError (@pa_c _ _ _ _ _ (@pw _ 0 _ _ (Or.inl k_BadRow__init_self) (by rfl) (by decide) (by decide)) (@pa_c _ _ _ _ _ (@pe_str _ _ _ _) (@pa_nil _) rfl) rfl) (by decide) (by rfl) (by rfl) (by rfl)) (by rfl)) (@pss_one _ _ _ (@ps_fldX _ _ _ _ _ _ _ _ (@pw _ 0 _ _ (Or.inl k_BadRow__init_self) (by rfl) (by decide) (by decide)) (@pw _ 1 _ _ (Or.inl k_BadRow__init_row) (by rfl) (by decide) (by decide)) rfl))),?_⟩
    exact ⟨_,rfl,y,_,C,ini,rfl,hy,hx,_,rfl,_,rfl,y,C,rfl,hy,hs,fun dx H' h1 h2 h3=>k dx H' h1 h2 h3⟩
theorem ok_BadSheet (T:Txt K mg):FnOk P w K mg base CX0 1 T.f_BadSheet__init T.d_BadSheet__init ["self", "row"] (spIni K "row"):=by
  refine T.F_BadSheet__init.ok sc_BadSheet__init (fun vs H Q E h=>?_) (fun cdv A outer s H vs Q E hr h=>?_)
  · obtain ⟨y,C,v,ini,rfl,_⟩:=h
    rfl
  · obtain ⟨y,C,v,ini,rfl,hy,hx,hs,k⟩:=h
    refine ⟨_,(@pss_cons _ _ _ _ _ (@ps_expr _ _ _ _ (@pe_binit _ _ _ _ _ _ _ _ _ _ T.xb_GainError k_BadSheet__init_GainError T.m_GainError (@pa_c _ _ _ _ _ (@pw _ 0 _ _ (Or.inl k_BadSheet__init_self) (by rfl) (by decide) (by decide)) (@pa_c _ _ _ _ _ (@pe_str _ _ _ _) (@pa_nil _) rfl) rfl) (by decide) (by rfl) (by rfl) (by rfl)) (by rfl)) (@pss_one _ _ _ (@ps_fldX _ _ _ _ _ _ _ _ (@pw _ 0 _ _ (Or.inl k_BadSheet__init_self) (by rfl) (by decide) (by decide)) (@pw _ 1 _ _ (Or.inl k_BadSheet__init_row) (by rfl) (by decide) (by decide)) rfl))),?_⟩
    exact ⟨_,rfl,y,_,C,ini,rfl,hy,hx,_,rfl,_,rfl,y,C,rfl,hy,hs,fun dx H' h1 h2 h3=>k dx H' h1 h2 h3⟩
theorem ints_all {E:Addr→Prop}{H:Hp}:∀ns:List Int,IsAll E H (ns.map V.int) (ns.map PyData.int)
  | []=>.nil
  | i :: r=>.cons (.int i) (ints_all r)
theorem ok_Gaining (T:Txt K mg):FnOk P w K mg base CX0 1 T.f_Gaining__init T.d_Gaining__init ["self", "ties"] (spIniL K "ties"):=by
  refine T.F_Gaining__init.ok sc_Gaining__init (fun vs H Q E h=>?_) (fun cdv A outer s H vs Q E hr h=>?_)
  · obtain ⟨y,C,l,ns,ini,rfl,_⟩:=h
    rfl
  · obtain ⟨y,C,l,ns,ini,rfl,hy,hx,hs,hl,k⟩:=h
    refine ⟨_,(@pss_cons _ _ _ _ _ (@ps_expr _ _ _ _ (@pe_binit _ _ _ _ _ _ _ _ _ _ T.xb_GainError k_Gaining__init_GainError T.m_GainError (@pa_c _ _ _ _ _ (@pw _ 0 _ _ (Or.inl k_Gaining__init_self) (by rfl) (by decide) (by decide)) (@pa_c _ _ _ _ _ (@pe_str _ _ _ _) (@pa_nil _) rfl) rfl) (by decide) (by rfl) (by rfl) (by rfl)) (by rfl)) (@pss_one _ _ _ (@ps_fldX _ _ _ _ _ _ _ _ (@pw _ 0 _ _ (Or.inl k_Gaining__init_self) (by rfl) (by decide) (by decide)) (@pe_ifExp _ _ _ _ _ _ _ _ (@pt_val _ _ _ (@pe_callB _ _ _ _ _ _ _ _ _ (@isinst_k _ (K) (by rfl)) k_Gaining__init_isinstance T.b_isinstance (@boot_b_isinstance) (@pa_c _ _ _ _ _ (@pw _ 1 _ _ (Or.inl k_Gaining__init_ties) (by rfl) (by decide) (by decide)) (@pa_c _ _ _ _ _ (@pe_ty _ _ _ _ k_Gaining__init_list T.b_list (@boot_ty_list) (by decide) (by decide)) (@pa_nil _) rfl) rfl) (by decide) (by decide) (by rfl) (by rfl)) (by intro _;rfl)) (@pe_callTy _ _ _ _ _ _ _ _ _ (@call_list_ofA _ (K) (by rfl)) k_Gaining__init_list T.b_list (@boot_ty_list) (@pa_c _ _ _ _ _ (@pw _ 1 _ _ (Or.inl k_Gaining__init_ties) (by rfl) (by decide) (by decide)) (@pa_nil _) rfl) (by decide) (by decide) (by rfl) (by rfl)) (@pw _ 1 _ _ (Or.inl k_Gaining__init_ties) (by rfl) (by decide) (by decide))) rfl))),?_⟩
    have hd:IsD (fun _=>False) H (.ref l) (.list (ns.map PyData.int)):=.lst hl id (ints_all ns)
    refine ⟨_,rfl,y,_,C,ini,rfl,hy,hx,_,rfl,_,_,_,_,rfl,hd.ty,kit_list _,_,rfl,iteT ⟨_,rfl,l,_,rfl,.inl (SqL.of hl),fun p H1 n1=>?_⟩⟩
    exact ⟨_,rfl,y,C,rfl,n1.sm _ _ hy,hs,fun dx H' h1 h2 h3=>k p dx H1 H' n1 h1 h2 h3⟩
end
end K81
namespace K81
open PySem L2
section
variable {P:Program}{w:World}{K:PySem.W.Frag}{mg:Str→Option Value}{base:Heap}
def cls14 (T:Txt K mg):List Addr:=[T.x_BadNumber,T.x_Taken,T.x_NoPlace,T.x_NoTie,T.x_AsItIs,T.x_NoEnds,T.x_Over,T.x_TooMuch,T.x_Gaining,T.x_NotSoMuch,T.x_Short,T.x_Lacking,T.x_BadRow,T.x_BadSheet]
theorem Txt.kn (T:Txt K mg):kinds K (cls14 T) T.x_GainError=true:=T.kin
inductive spKinds_ (T:Txt K mg) (vs:List V) (H:Hp) (Q:VK):Prop
  | mk (a C:Addr) (fs:List (Str×V)) (h0:vs=[.ref a]) (h1:IsX H a C fs) (h2:C∈cls14 T) (h3:∀p H',Same H H'→H p=none→H' p=some (.lst ((cls14 T).map fun d=>V.bl (decide (C=d))))→Q (.ref p) H')
def spKinds (T:Txt K mg):Sp:=fun vs H Q _=>spKinds_ T vs H Q
theorem ok_kinds (T:Txt K mg):FnOk P w K mg base CX0 1 T.f_l_kinds T.d_l_kinds ["_law_error"] (spKinds T):=by
  refine T.F_l_kinds.ok sc_l_kinds (fun vs H Q E h=>?_) (fun cdv A outer s H vs Q E hr h=>?_)
  · obtain ⟨a,C,fs,rfl,_⟩:=h
    rfl
  · obtain ⟨a,C,fs,rfl,hx,hc,k⟩:=h
    obtain ⟨q1,q2,q3,q4⟩:=kinds_at T.kn hc
    refine ⟨_,(@pss_cons _ _ _ _ _ (@ps_set _ _ (1) _ _ _ _ sc_l_kinds.nd rfl (Or.inl k_l_kinds_l_found) (@pe_lstA _ _ _ _ (@pa_c _ _ _ _ _ (@pe_callB _ _ _ _ _ _ _ _ _ (@call_isinstX _ (K) (by rfl)) k_l_kinds_isinstance T.b_isinstance (@boot_b_isinstance) (@pa_c _ _ _ _ _ (@pw _ 0 _ _ (Or.inl k_l_kinds_l_error) (by rfl) (by decide) (by decide)) (@pa_c _ _ _ _ _ (@pe_cls _ _ _ _ k_l_kinds_BadNumber T.m_BadNumber (by decide)) (@pa_nil _) rfl) rfl) (by decide) (by decide) (by rfl) (by rfl)) (@pa_c _ _ _ _ _ (@pe_callB _ _ _ _ _ _ _ _ _ (@call_isinstX _ (K) (by rfl)) k_l_kinds_isinstance T.b_isinstance (@boot_b_isinstance) (@pa_c _ _ _ _ _ (@pw _ 0 _ _ (Or.inl k_l_kinds_l_error) (by rfl) (by decide) (by decide)) (@pa_c _ _ _ _ _ (@pe_cls _ _ _ _ k_l_kinds_Taken T.m_Taken (by decide)) (@pa_nil _) rfl) rfl) (by decide) (by decide) (by rfl) (by rfl)) (@pa_c _ _ _ _ _ (@pe_callB _ _ _ _ _ _ _ _ _ (@call_isinstX _ (K) (by rfl)) k_l_kinds_isinstance T.b_isinstance (@boot_b_isinstance) (@pa_c _ _ _ _ _ (@pw _ 0 _ _ (Or.inl k_l_kinds_l_error) (by rfl) (by decide) (by decide)) (@pa_c _ _ _ _ _ (@pe_cls _ _ _ _ k_l_kinds_NoPlace T.m_NoPlace (by decide)) (@pa_nil _) rfl) rfl) (by decide) (by decide) (by rfl) (by rfl)) (@pa_nil _) rfl) rfl) rfl)) (by rfl) (by first | exact .inl rfl | exact .inr rfl | assumption)) (@pss_cons _ _ _ _ _ (@ps_set _ _ (1) _ _ _ _ sc_l_kinds.nd rfl (Or.inl k_l_kinds_l_found) (@pe_op _ _ _ _ _ _ _ _ (@op_catA _) (@pw _ 1 _ _ (Or.inl k_l_kinds_l_found) (by rfl) (by decide) (by decide)) (@pe_lstA _ _ _ _ (@pa_c _ _ _ _ _ (@pe_callB _ _ _ _ _ _ _ _ _ (@call_isinstX _ (K) (by rfl)) k_l_kinds_isinstance T.b_isinstance (@boot_b_isinstance) (@pa_c _ _ _ _ _ (@pw _ 0 _ _ (Or.inl k_l_kinds_l_error) (by rfl) (by decide) (by decide)) (@pa_c _ _ _ _ _ (@pe_cls _ _ _ _ k_l_kinds_NoTie T.m_NoTie (by decide)) (@pa_nil _) rfl) rfl) (by decide) (by decide) (by rfl) (by rfl)) (@pa_c _ _ _ _ _ (@pe_callB _ _ _ _ _ _ _ _ _ (@call_isinstX _ (K) (by rfl)) k_l_kinds_isinstance T.b_isinstance (@boot_b_isinstance) (@pa_c _ _ _ _ _ (@pw _ 0 _ _ (Or.inl k_l_kinds_l_error) (by rfl) (by decide) (by decide)) (@pa_c _ _ _ _ _ (@pe_cls _ _ _ _ k_l_kinds_AsItIs T.m_AsItIs (by decide)) (@pa_nil _) rfl) rfl) (by decide) (by decide) (by rfl) (by rfl)) (@pa_c _ _ _ _ _ (@pe_callB _ _ _ _ _ _ _ _ _ (@call_isinstX _ (K) (by rfl)) k_l_kinds_isinstance T.b_isinstance (@boot_b_isinstance) (@pa_c _ _ _ _ _ (@pw _ 0 _ _ (Or.inl k_l_kinds_l_error) (by rfl) (by decide) (by decide)) (@pa_c _ _ _ _ _ (@pe_cls _ _ _ _ k_l_kinds_NoEnds T.m_NoEnds (by decide)) (@pa_nil _) rfl) rfl) (by decide) (by decide) (by rfl) (by rfl)) (@pa_nil _) rfl) rfl) rfl))) (by rfl) (by first | exact .inl rfl | exact .inr rfl | assumption)) (@pss_cons _ _ _ _ _ (@ps_expr _ _ _ _ (@pe_bm_k _ (K) _ _ _ _ _ _ _ _ _ _ _ PySem.F.plainAttrs_list PySem.F.slot_list_append PySem.F.type_list_append (@mt_appendA _) (@pw _ 1 _ _ (Or.inl k_l_kinds_l_found) (by rfl) (by decide) (by decide)) (@pa_c _ _ _ _ _ (@pe_callB _ _ _ _ _ _ _ _ _ (@call_isinstX _ (K) (by rfl)) k_l_kinds_isinstance T.b_isinstance (@boot_b_isinstance) (@pa_c _ _ _ _ _ (@pw _ 0 _ _ (Or.inl k_l_kinds_l_error) (by rfl) (by decide) (by decide)) (@pa_c _ _ _ _ _ (@pe_cls _ _ _ _ k_l_kinds_Over T.m_Over (by decide)) (@pa_nil _) rfl) rfl) (by decide) (by decide) (by rfl) (by rfl)) (@pa_nil _) rfl) (by rfl) (by rfl) (by rfl) (by rfl) (by rfl) (by rfl)) (by rfl)) (@pss_cons _ _ _ _ _ (@ps_set _ _ (1) _ _ _ _ sc_l_kinds.nd rfl (Or.inl k_l_kinds_l_found) (@pe_op _ _ _ _ _ _ _ _ (@op_catA _) (@pw _ 1 _ _ (Or.inl k_l_kinds_l_found) (by rfl) (by decide) (by decide)) (@pe_lstA _ _ _ _ (@pa_c _ _ _ _ _ (@pe_callB _ _ _ _ _ _ _ _ _ (@call_isinstX _ (K) (by rfl)) k_l_kinds_isinstance T.b_isinstance (@boot_b_isinstance) (@pa_c _ _ _ _ _ (@pw _ 0 _ _ (Or.inl k_l_kinds_l_error) (by rfl) (by decide) (by decide)) (@pa_c _ _ _ _ _ (@pe_cls _ _ _ _ k_l_kinds_TooMuch T.m_TooMuch (by decide)) (@pa_nil _) rfl) rfl) (by decide) (by decide) (by rfl) (by rfl)) (@pa_c _ _ _ _ _ (@pe_callB _ _ _ _ _ _ _ _ _ (@call_isinstX _ (K) (by rfl)) k_l_kinds_isinstance T.b_isinstance (@boot_b_isinstance) (@pa_c _ _ _ _ _ (@pw _ 0 _ _ (Or.inl k_l_kinds_l_error) (by rfl) (by decide) (by decide)) (@pa_c _ _ _ _ _ (@pe_cls _ _ _ _ k_l_kinds_Gaining T.m_Gaining (by decide)) (@pa_nil _) rfl) rfl) (by decide) (by decide) (by rfl) (by rfl)) (@pa_c _ _ _ _ _ (@pe_callB _ _ _ _ _ _ _ _ _ (@call_isinstX _ (K) (by rfl)) k_l_kinds_isinstance T.b_isinstance (@boot_b_isinstance) (@pa_c _ _ _ _ _ (@pw _ 0 _ _ (Or.inl k_l_kinds_l_error) (by rfl) (by decide) (by decide)) (@pa_c _ _ _ _ _ (@pe_cls _ _ _ _ k_l_kinds_NotSoMuch T.m_NotSoMuch (by decide)) (@pa_nil _) rfl) rfl) (by decide) (by decide) (by rfl) (by rfl)) (@pa_nil _) rfl) rfl) rfl))) (by rfl) (by first | exact .inl rfl | exact .inr rfl | assumption)) (@pss_cons _ _ _ _ _ (@ps_set _ _ (1) _ _ _ _ sc_l_kinds.nd rfl (Or.inl k_l_kinds_l_found) (@pe_op _ _ _ _ _ _ _ _ (@op_catA _) (@pw _ 1 _ _ (Or.inl k_l_kinds_l_found) (by rfl) (by decide) (by decide)) (@pe_lstA _ _ _ _ (@pa_c _ _ _ _ _ (@pe_callB _ _ _ _ _ _ _ _ _ (@call_isinstX _ (K) (by rfl)) k_l_kinds_isinstance T.b_isinstance (@boot_b_isinstance) (@pa_c _ _ _ _ _ (@pw _ 0 _ _ (Or.inl k_l_kinds_l_error) (by rfl) (by decide) (by decide)) (@pa_c _ _ _ _ _ (@pe_cls _ _ _ _ k_l_kinds_Short T.m_Short (by decide)) (@pa_nil _) rfl) rfl) (by decide) (by decide) (by rfl) (by rfl)) (@pa_c _ _ _ _ _ (@pe_callB _ _ _ _ _ _ _ _ _ (@call_isinstX _ (K) (by rfl)) k_l_kinds_isinstance T.b_isinstance (@boot_b_isinstance) (@pa_c _ _ _ _ _ (@pw _ 0 _ _ (Or.inl k_l_kinds_l_error) (by rfl) (by decide) (by decide)) (@pa_c _ _ _ _ _ (@pe_cls _ _ _ _ k_l_kinds_Lacking T.m_Lacking (by decide)) (@pa_nil _) rfl) rfl) (by decide) (by decide) (by rfl) (by rfl)) (@pa_nil _) rfl) rfl))) (by rfl) (by first | exact .inl rfl | exact .inr rfl | assumption)) (@pss_one _ _ _ (@ps_ret _ _ _ _ (@pe_op _ _ _ _ _ _ _ _ (@op_catA _) (@pw _ 1 _ _ (Or.inl k_l_kinds_l_found) (by rfl) (by decide) (by decide)) (@pe_lstA _ _ _ _ (@pa_c _ _ _ _ _ (@pe_callB _ _ _ _ _ _ _ _ _ (@call_isinstX _ (K) (by rfl)) k_l_kinds_isinstance T.b_isinstance (@boot_b_isinstance) (@pa_c _ _ _ _ _ (@pw _ 0 _ _ (Or.inl k_l_kinds_l_error) (by rfl) (by decide) (by decide)) (@pa_c _ _ _ _ _ (@pe_cls _ _ _ _ k_l_kinds_BadRow T.m_BadRow (by decide)) (@pa_nil _) rfl) rfl) (by decide) (by decide) (by rfl) (by rfl)) (@pa_c _ _ _ _ _ (@pe_callB _ _ _ _ _ _ _ _ _ (@call_isinstX _ (K) (by rfl)) k_l_kinds_isinstance T.b_isinstance (@boot_b_isinstance) (@pa_c _ _ _ _ _ (@pw _ 0 _ _ (Or.inl k_l_kinds_l_error) (by rfl) (by decide) (by decide)) (@pa_c _ _ _ _ _ (@pe_cls _ _ _ _ k_l_kinds_BadSheet T.m_BadSheet (by decide)) (@pa_nil _) rfl) rfl) (by decide) (by decide) (by rfl) (by rfl)) (@pa_nil _) rfl) rfl)))))))))),?_⟩
    refine ⟨_,rfl,a,C,fs,_,_,_,rfl,hx,rfl,q1,q4 T.x_BadNumber (by simp [cls14]),_,rfl,a,C,fs,_,_,_,rfl,hx,rfl,q1,q4 T.x_Taken (by simp [cls14]),_,rfl,a,C,fs,_,_,_,rfl,hx,rfl,q1,q4 T.x_NoPlace (by simp [cls14]),(by show 3≤10000;decide),fun p1 H1 n1=>?_⟩
    have x1:=hx.sm n1.sm
    refine ⟨_,rfl,_,rfl,a,C,fs,_,_,_,rfl,x1,rfl,q1,q4 T.x_NoTie (by simp [cls14]),_,rfl,a,C,fs,_,_,_,rfl,x1,rfl,q1,q4 T.x_AsItIs (by simp [cls14]),_,rfl,a,C,fs,_,_,_,rfl,x1,rfl,q1,q4 T.x_NoEnds (by simp [cls14]),(by show 3≤10000;decide),fun p2 H2 n2=>⟨p1,p2,_,_,rfl,rfl,n2.sm _ _ n1.at',n2.at',(by show 6≤10000;decide),fun p3 H3 n3=>?_⟩⟩
    have x3:=(x1.sm n2.sm).sm n3.sm
    refine ⟨_,rfl,.inl ⟨rfl,_,SqL.of n3.at'⟩,_,rfl,a,C,fs,_,_,_,rfl,x3,rfl,q1,q4 T.x_Over (by simp [cls14]),p3,_,_,rfl,rfl,n3.at',(by show 6≤10000;decide),fun H4 c4=>?_⟩
    have S3:=(n1.sm.trans n2.sm).trans n3.sm
    have f3:H p3=none:=by
      cases q:H p3 with
      | none=>rfl
      | some o=>have z:=(n1.sm.trans n2.sm) _ _ q;rw [n3.fr] at z;cases z
    have S4:Same H H4:=fun b o h=>c4.ol b o (fun z=>by rw [z,f3] at h;cases h) (S3 _ _ h)
    have x4:=hx.sm S4
    refine ⟨_,rfl,_,rfl,a,C,fs,_,_,_,rfl,x4,rfl,q1,q4 T.x_TooMuch (by simp [cls14]),_,rfl,a,C,fs,_,_,_,rfl,x4,rfl,q1,q4 T.x_Gaining (by simp [cls14]),_,rfl,a,C,fs,_,_,_,rfl,x4,rfl,q1,q4 T.x_NotSoMuch (by simp [cls14]),(by show 3≤10000;decide),fun p5 H5 n5=>⟨p3,p5,_,_,rfl,rfl,n5.sm _ _ c4.at',n5.at',(by show 10≤10000;decide),fun p6 H6 n6=>?_⟩⟩
    have x6:=(x4.sm n5.sm).sm n6.sm
    refine ⟨_,rfl,_,rfl,a,C,fs,_,_,_,rfl,x6,rfl,q1,q4 T.x_Short (by simp [cls14]),_,rfl,a,C,fs,_,_,_,rfl,x6,rfl,q1,q4 T.x_Lacking (by simp [cls14]),(by show 2≤10000;decide),fun p7 H7 n7=>⟨p6,p7,_,_,rfl,rfl,n7.sm _ _ n6.at',n7.at',(by show 12≤10000;decide),fun p8 H8 n8=>?_⟩⟩
    have x8:=(x6.sm n7.sm).sm n8.sm
    refine ⟨_,rfl,_,rfl,a,C,fs,_,_,_,rfl,x8,rfl,q1,q4 T.x_BadRow (by simp [cls14]),_,rfl,a,C,fs,_,_,_,rfl,x8,rfl,q1,q4 T.x_BadSheet (by simp [cls14]),(by show 2≤10000;decide),fun p9 H9 n9=>⟨p8,p9,_,_,rfl,rfl,n9.sm _ _ n8.at',n9.at',(by show 14≤10000;decide),fun pz Hz nz=>?_⟩⟩
    have S:=((((S4.trans n5.sm).trans n6.sm).trans n7.sm).trans n8.sm).trans n9.sm
    refine k pz Hz (S.trans nz.sm) ?_ nz.at'
    cases q:H pz with
    | none=>rfl
    | some o=>have z:=S _ _ q;rw [nz.fr] at z;cases z
end
end K81
namespace K81
open PySem L2
theorem for_enumK {K:PySem.W.Frag}{a:Addr}{c:Bool}{xs:List V}{g:TG}{tb:TS}{D:Ends}{σ:St}{H:Hp} (Pv:Nat→St→Hp→Prop) (h0:Pv 0 σ H) (hl:∀i σ H,i≤xs.length→Pv i σ H→SqC K H a xs c)
    (hs:∀i x T σ H,xs[i]?=some x→H T=none→Pv i σ H→g (.ref T) σ (upd H T (.tup [.int (i:Int),x])) fun σ2 H2=>tb { D with nx:=Pv (i+1),ct:=Pv (i+1),bk:=D.nx } σ2 H2) (hd:∀σ H,Pv xs.length σ H→D.nx σ H) :
    ∃W:Nat→Nat→St→Hp→Prop,(∃m,W 0 m σ H)∧∀i m σ H,W i m σ H→
      ((IteK K a c).stop i H∧D.nx σ H)∨((IteK K a c).go i H∧∃N:St→Hp→Prop,(∀σ' H',N σ' H'→∃m',m'<m∧W (i+1) m' σ' H')∧∀x H',(IteK K a c).yld i H x H'→g x σ H' fun σ2 H2=>tb { D with nx:=N,ct:=N,bk:=D.nx } σ2 H2):=by
  refine ⟨fun i m σ H=>m=xs.length - i∧i≤xs.length∧Pv i σ H,⟨xs.length,by simp,Nat.zero_le _,h0⟩,?_⟩
  rintro i m σ H ⟨rfl,hi,p⟩
  have q1:=hl i σ H hi p
  by_cases hlt:i<xs.length
  · refine .inr ⟨⟨xs,xs[i],q1,by simp [hlt]⟩,Pv (i+1),fun σ' H' p'=>⟨xs.length - (i+1),by trivial,rfl,hlt,p'⟩,fun x H' y=>?_⟩
    obtain ⟨T,u,hT,rfl,rfl,e1⟩:=y
    exact hs i u T σ H (e1 xs q1) hT p
  · have e:i=xs.length:=by trivial
    subst e
    exact .inl ⟨⟨xs,q1,rfl⟩,hd _ _ p⟩
theorem same_lst {H H':Hp}{D:Addr}{ys:List V} (hD:H D=none) (s:Same H H'):Same H (upd H' D (.lst ys)):=fun b o h=>by
  rw [upd_ne (fun z=>by rw [z,hD] at h;cases h)]
  exact s b o h
theorem nodup_at {l:List Addr} (h:l.Nodup) {i:Nat}{C:Addr} (e:l[i]?=some C):l.map (fun d=>decide (C=d))=(List.range l.length).map (fun k=>decide (k=i)):=by
  obtain ⟨hi,rfl⟩:=List.getElem?_eq_some_iff.mp e
  refine List.ext_getElem (by simp) fun j h1 h2=>?_
  simp only [List.getElem_map,List.getElem_range]
  rw [List.length_map] at h1
  by_cases c:j=i
  · subst c;simp
  · rw [decide_eq_false c,decide_eq_false]
    intro z
    have pw:=List.pairwise_iff_getElem.mp h
    rcases Nat.lt_or_gt_of_ne c with q | q
    · exact pw j i h1 hi q z.symm
    · exact pw i j hi h1 q z
theorem bools_all {E:Addr→Prop}{H:Hp}:∀bs:List Bool,IsAll E H (bs.map V.bl) (bs.map PyData.bool)
  | []=>.nil
  | b :: r=>.cons (.bl b) (bools_all r)
theorem bools_wt:∀bs:List Bool,WtL (bs.map PyData.bool) bs.length 0
  | []=>.nil
  | b :: r=>by
    have z:=WtL.cons (.bl b) (bools_wt r)
    rw [Nat.add_comm] at z
    exact z
theorem bools_eqv:∀bs:List Bool,PyData.eqvAll (bs.map PyData.bool) (bs.map PyData.bool)=true
  | []=>by simp [PyData.eqvAll]
  | b :: r=>by
    show PyData.eqvAll (PyData.bool b :: r.map PyData.bool) (PyData.bool b :: r.map PyData.bool)=true
    rw [PyData.eqvAll,bools_eqv r]
    cases b <;> simp [PyData.eqv]
section
variable {P:Program}{w:World}{K:PySem.W.Frag}{mg:Str→Option Value}{base:Heap}
inductive spRight_ (T:Txt K mg) (vs:List V) (H:Hp) (Q:VK):Prop
  | mk (l:Addr) (as:List Addr) (h0:vs=[.ref l]) (h1:H l=some (.lst (as.map V.ref))) (h2:as.length=14) (h3:(∀(i:Nat) (a:Addr),as[i]?=some a→Ex2 fun C fs=>(cls14 T)[i]?=some C∧IsX H a C fs)) (h4:∀H',Same H H'→Q (.bl true) H')
def spRight (T:Txt K mg):Sp:=fun vs H Q _=>spRight_ T vs H Q
theorem ok_right (T:Txt K mg):FnOk P w K mg base CX0 2 T.f_l_right T.d_l_right ["_law_some"] (spRight T):=by
  have G_l_kinds:=ok_kinds (P:=P) (w:=w) (base:=base) T
  refine T.F_l_right.ok sc_l_right (fun vs H Q E h=>?_) (fun cdv A outer s H vs Q E hr h=>?_)
  · obtain ⟨l,as,rfl,_⟩:=h
    rfl
  · obtain ⟨l,as,rfl,hl,hn,hx,k⟩:=h
    refine ⟨_,(@pss_cons _ _ _ _ _ (@ps_for _ _ _ _ _ _ _ _ PassesOwn.never rfl (@pi_enumK _ (K) _ _ _ _ _ _ _ k_l_right_enumerate T.b_enumerate (@pa_c _ _ _ _ _ (@pw _ 0 _ _ (Or.inl k_l_right_l_some) (by rfl) (by decide) (by decide)) (@pa_nil _) rfl) (by rfl) (by rfl)) (@pg_tup_k _ (K) _ _ _ _ (2) rfl (@pgs_cons _ _ _ _ _ (@pg_name _ _ (1) _ sc_l_right.nd rfl (Or.inr k_l_right_l_number) (by first | exact .inl rfl | exact .inr rfl | assumption)) (@pgs_cons _ _ _ _ _ (@pg_name _ _ (2) _ sc_l_right.nd rfl (Or.inl k_l_right_l_error) (by first | exact .inl rfl | exact .inr rfl | assumption)) (@pgs_nil _) (by rfl)) (by rfl)) (by rfl) (by rfl) (by rfl)) (@pss_cons _ _ _ _ _ (@ps_if _ _ _ _ _ _ _ _ (@pt_cmpR _ _ _ _ _ _ _ _ (@op_neD _ hr.units) (@pe_call _ _ _ _ _ _ _ _ _ _ _ _ _ _ _ _ G_l_kinds (hr.mono (by decide)) k_l_right_l_kinds T.m_l_kinds T.F_l_kinds.kp T.B_l_kinds .nil (@pass0 _) (@pa_c _ _ _ _ _ (@pw _ 2 _ _ (Or.inl k_l_right_l_error) (by rfl) (by decide) (by decide)) (@pa_nil _) rfl) (by decide) (by rfl) (by rfl)) (@pe_comp _ _ _ _ _ _ _ (["_law_k", "_law_number"]) (1) ([1]) _ _ _ _ rfl (by kernel_rfl) (@pi_range1 _ _ _ _ _ _ k_l_right_range T.b_range (@pa_c _ _ _ _ _ (@pe_int _ _ _ _) (@pa_nil _) rfl) (by rfl)) (fun _ _ _ _ _ _=>(@pg_name _ _ (0) _ (@nodupS _ (by kernel_rfl)) rfl (Or.inl (by kernel_rfl)) (by first | exact .inl rfl | exact .inr rfl | assumption))) (fun _ _ _ _ _ _=>@pifs_nil _) (fun _ _ _ _ _ _=>(@pe_cmpR _ _ _ _ _ _ _ _ (@op_eq _) (@pw _ 0 _ _ (Or.inl (by kernel_rfl)) (by rfl) (by decide) (by decide)) (@pw _ 1 _ _ (Or.inr (Or.inl (by kernel_rfl))) (by rfl) (by decide) (by decide)) (@nomark _ _ (by decide) (by decide)))) (by intro _;rfl)) (@nomark _ _ (by decide) (by decide))) (@pss_one _ _ _ (@ps_ret _ _ _ _ (@pe_bl _ _ _ _))) (@pss_nil _)) (@pss_one _ _ _ (@ps_if _ _ _ _ _ _ _ _ (@PW.pt _ _ _ (@pw_or _ _ _ _ _ _ _ (@pt_not _ _ _ _ (@pt_val _ _ _ (@pe_callB _ _ _ _ _ _ _ _ _ (@call_isinstX _ (K) (by rfl)) k_l_right_isinstance T.b_isinstance (@boot_b_isinstance) (@pa_c _ _ _ _ _ (@pw _ 2 _ _ (Or.inl k_l_right_l_error) (by rfl) (by decide) (by decide)) (@pa_c _ _ _ _ _ (@pe_cls _ _ _ _ k_l_right_GainError T.m_GainError (by decide)) (@pa_nil _) rfl) rfl) (by decide) (by decide) (by rfl) (by rfl)) (by intro _;rfl))) (@pw_or1 _ _ _ _ (@pt_not _ _ _ _ (@pt_val _ _ _ (@pe_callB _ _ _ _ _ _ _ _ _ (@call_isinstX _ (K) (by rfl)) k_l_right_isinstance T.b_isinstance (@boot_b_isinstance) (@pa_c _ _ _ _ _ (@pw _ 2 _ _ (Or.inl k_l_right_l_error) (by rfl) (by decide) (by decide)) (@pa_c _ _ _ _ _ (@pe_ty _ _ _ _ k_l_right_ValueError T.b_ValueError (@boot_ty_ValueError) (by decide) (by decide)) (@pa_nil _) rfl) rfl) (by decide) (by decide) (by rfl) (by rfl)) (by intro _;rfl)))))) (@pss_one _ _ _ (@ps_ret _ _ _ _ (@pe_bl _ _ _ _))) (@pss_nil _)))) (by intro _;rfl)) (@pss_one _ _ _ (@ps_ret _ _ _ _ (@pe_bl _ _ _ _)))),?_⟩
    refine ⟨_,rfl,l,true,rfl,⟨_,SqL.of hl⟩,for_enumK (xs:=as.map V.ref) (fun i σ H'=>∃v1 v2:Option V,σ=[some (.ref l),v1,v2]∧Same H H') ⟨_,_,rfl,Same.refl _⟩ ?_ ?_ ?_⟩
    · rintro i σ H' _ ⟨_,_,_,s⟩
      exact SqL.of (s _ _ hl)
    · rintro i x T0 σ H' hxi hT ⟨v1,v2,rfl,s⟩
      rw [List.getElem?_map] at hxi
      obtain ⟨a,ea,rfl⟩:=Option.map_eq_some_iff.mp hxi
      obtain ⟨C,fs,eC,hX⟩:=hx i a ea
      have hc:C∈cls14 T:=List.mem_of_getElem? eC
      obtain ⟨q1,q2,q3,q4⟩:=kinds_at T.kn hc
      have sT:=s.trans (Same.new (o:=.tup [.int (i:Int),.ref a]) hT)
      have xT:=hX.sm sT
      refine ⟨T0,_,rfl,SqT.of upd_same,rfl,_,_,rfl,_,_,rfl,rfl,_,rfl,a,C,fs,rfl,xT,hc,fun p H1 s1 f1 h1=>?_⟩
      refine ⟨14,rfl,by decide,by decide,fun D hD=>comp_each (n:=14) (fun (j:Nat) (J:Hp) (ys:List V)=>ys=(List.range j).map (fun k=>V.bl (decide (k=i)))∧J D=some (.lst ys)∧Same H1 J) (by decide) ⟨rfl,upd_same,same_lst hD (Same.refl _)⟩ ?_ ?_ ?_ ?_ ?_⟩
      · rintro j J ys ⟨rfl,e,_⟩
        exact ⟨e,by simp⟩
      · intro j J ys hj _
        exact hj
      · intro J ys _
        exact Nat.le_refl _
      · rintro j J ys x J2 hj ⟨e1,e2,e3⟩ ⟨rfl,rfl⟩
        refine ⟨back1,_,rfl,_,rfl,rfl,e2,?_,upd_same,same_lst hD e3⟩
        have ed:decide (V.int (0+(j:Int))=V.int (i:Int))=decide (j=i):=by
          refine decide_eq_decide.mpr ⟨fun z=>?_,fun z=>by rw [z,Int.zero_add]⟩
          injection z with z
          trivial
        rw [ed,e1,List.range_succ,List.map_append]
        rfl
      rintro J ys ⟨ey,eD,sJ⟩
      have eb:=nodup_at (kinds_nd T.kn) eC
      rw [show (cls14 T).length=14 from rfl] at eb
      have sAll:Same H J:=(sT.trans s1).trans sJ
      have hp:=sJ _ _ h1
      have e1:(cls14 T).map (fun d=>V.bl (decide (C=d)))=((List.range 14).map (fun k=>decide (k=i))).map V.bl:=by rw [←eb,List.map_map];rfl
      have e2:ys=((List.range 14).map (fun k=>decide (k=i))).map V.bl:=by rw [ey,List.map_map];rfl
      rw [e1] at hp
      rw [e2] at eD
      generalize (List.range 14).map (fun k=>decide (k=i))=bs at hp eD
      refine ⟨.list (bs.map .bool),.list (bs.map .bool),fun _=>False,fun _=>False,_,_,1,1,.lst hp id (bools_all bs),.lst eD id (bools_all bs),.list (bools_wt bs),.list (bools_wt bs),by decide,_,rfl,?_⟩
      have ev:PyData.eqv (.list (bs.map .bool)) (.list (bs.map .bool))=true:=by
        rw [PyData.eqv];exact bools_eqv bs
      rw [ev]
      have xJ:=hX.sm sAll
      refine iteF ⟨_,rfl,a,C,fs,_,_,_,rfl,xJ,rfl,q1,q2,_,rfl,iteF ⟨_,rfl,a,C,fs,_,_,_,rfl,xJ,rfl,q1,q3,_,rfl,iteF ⟨_,_,rfl,sAll⟩⟩⟩
    · rintro σ H' ⟨v1,v2,rfl,s⟩
      exact k H' s
end
end K81
namespace K81
open PySem L2
set_option maxHeartbeats 8000000
theorem sign_at {r:Int} (h0:0≤r) (h1:r<7):∃c:Nat,atI ((Str.ofString "abc xyz").cps.toList) r=some c∧c<128:=by
  have:∀k:Fin 7,(match atI ((Str.ofString "abc xyz").cps.toList) ((k.val:Nat):Int) with | some c=>decide (c<128) | none=>false)=true:=by decide +kernel
  have e:=this ⟨r.toNat,by trivial⟩
  simp only at e
  rw [show ((r.toNat:Nat):Int)=r by trivial] at e
  cases q:atI ((Str.ofString "abc xyz").cps.toList) r with
  | none=>rw [q] at e;cases e
  | some c=>rw [q] at e;exact ⟨c,rfl,of_decide_eq_true e⟩
theorem flat1:∀{ls:List (List Nat)},(∀l∈ls,l.length=1∧∀c∈l,c<128)→ls.flatten.length=ls.length∧(∀c∈ls.flatten,c<128)∧(ls.map (·.length)).sum=ls.length:=by
  intro ls
  induction ls with
  | nil=>intro _;exact ⟨rfl,(fun c h=>by cases h),rfl⟩
  | cons l r ih=>
    intro h
    obtain ⟨i1,i2,i3⟩:=ih fun l' hl=>h l' (List.mem_cons_of_mem _ hl)
    obtain ⟨z1,z2⟩:=h l List.mem_cons_self
    refine ⟨?_,fun c hc=>?_,?_⟩
    · rw [List.flatten_cons,List.length_append,i1,z1,List.length_cons];trivial
    · rw [List.flatten_cons] at hc
      rcases List.mem_append.mp hc with q | q
      · exact z2 c q
      · exact i2 c q
    · rw [List.map_cons,List.sum_cons,i3,z1,List.length_cons];trivial
abbrev told (tis:List Int) (p q:KM.Fra) (x:Str) (a b:Int):PyData:=.list [.list (tis.map .int),frD p,frD q,.str x,.int a,.int b]
theorem sm19 {i:Int} (h:i.natAbs<1099511627776):Sz 1900 i:=Sz.mono (m:=40) h (by decide)
theorem wt81 {tis:List Int} (ht:∀i∈tis,0≤i∧i<24) (hl:tis.length≤6) {p q:KM.Fra} (fp:Fb 40 p.1 p.2) (fq:Fb 40 q.1 q.2) {x:Str} (hx:strT x) {a b:Int} (ha:Sz 1900 a) (hb:Sz 1900 b):∃n,n≤100∧Wt (told tis p q x a b) n 3:=by
  have w1:Wt (.list (tis.map .int)) (1*tis.length+1) 2:=(Wt.list (wtL_map (m:=1) (k:=0) fun i h=>.int (sm19 (by have:=ht i h;trivial)))).deep (by decide)
  have w2:∀{p:KM.Fra},Fb 40 p.1 p.2→Wt (frD p) (1+(1+0)+1) 2:=fun f=>.tuple (.cons (.int (f.sn.mono (by decide))) (.cons (.int (f.sd.mono (by decide))) .nil))
  exact ⟨_,by trivial,.list (.cons w1 (.cons (w2 fp) (.cons (w2 fq) (.cons (.str hx) (.cons (.int ha) (.cons (.int hb) .nil))))))⟩
theorem is81 {H:Hp}{l c o1 o2:Addr}{tis:List Int}{p q:KM.Fra}{x:Str}{a b:Int} (hl:H l=some (.lst [.ref c,.ref o1,.ref o2,.str x,.int a,.int b])) (hc:H c=some (.lst (tis.map V.int))) (h1:H o1=some (fr p)) (h2:H o2=some (fr q)):IsD (fun _=>False) H (.ref l) (told tis p q x a b):=
  .lst hl id (.cons (.lst hc id (ints_all tis)) (.cons (.tup h1 (.cons (.int _) (.cons (.int _) .nil))) (.cons (.tup h2 (.cons (.int _) (.cons (.int _) .nil))) (.cons (.str _) (.cons (.int _) (.cons (.int _) .nil))))))
section
variable {P:Program}{w:World}{K:PySem.W.Frag}{mg:Str→Option Value}{base:Heap}
inductive spLaw_ (K:PySem.W.Frag) (vs:List V) (H:Hp) (Q:VK):Prop
  | mk (a:Addr) (ns:List Int) (h0:vs=[.ref a]) (h1:SqL K H a (ns.map V.int)) (h2:ns.length≤63) (h3:∀H',Q (.bl true) H')
def spLaw (K:PySem.W.Frag):Sp:=fun vs H Q _=>spLaw_ K vs H Q
theorem law_start {H:Hp}{a:Addr}{ns:List Int} (hl:ns.length≤63) (_:Only H) (hS:SqL K H a (ns.map V.int)):spLaw K [.ref a] H (fun v _=>v=.bl true) fun _ _ _=>False:=
  ⟨a,ns,rfl,hS,hl,fun _=>rfl⟩
theorem law_ok (T:Txt K mg):FnOk P w K mg base CX0 40 T.f_law T.d_law ["_law_script"] (spLaw K):=by
  have G_l_folded:=ok_folded (P:=P) (w:=w) (base:=base) T
  have G_l_box:=ok_box (P:=P) (w:=w) (base:=base) T
  have G_l_take:=ok_take (P:=P) (w:=w) (base:=base) T
  have G_l_frac:=ok_frac (P:=P) (w:=w) (base:=base) T
  have G_l_right:=ok_right (P:=P) (w:=w) (base:=base) T
  have G_Gaining__init:=ok_Gaining (P:=P) (w:=w) (base:=base) T
  have G_NotSoMuch__init:=ok_NotSoMuch (P:=P) (w:=w) (base:=base) T
  have G_Short__init:=ok_Short (P:=P) (w:=w) (base:=base) T
  have G_Lacking__init:=ok_Lacking (P:=P) (w:=w) (base:=base) T
  have G_BadRow__init:=ok_BadRow (P:=P) (w:=w) (base:=base) T
  have G_BadSheet__init:=ok_BadSheet (P:=P) (w:=w) (base:=base) T
  refine T.F_law.ok sc_law (fun vs H Q E h=>?_) (fun cdv A outer s H vs Q E hr h=>?_)
  · obtain ⟨a,ns,rfl,_⟩:=h
    rfl
  · obtain ⟨a,ns,rfl,hS,hn,k⟩:=h
    refine ⟨_,(@pss_cons _ _ _ _ _ (@ps_set _ _ (1) _ _ _ _ sc_law.nd rfl (Or.inl k_law_l_cells) (@pe_call _ _ _ _ _ _ _ _ _ _ _ _ _ _ _ _ G_l_folded (hr.mono (by decide)) k_law_l_folded T.m_l_folded T.F_l_folded.kp T.B_l_folded .nil (@pass0 _) (@pa_c _ _ _ _ _ (@pw _ 0 _ _ (Or.inl k_law_l_script) (by rfl) (by decide) (by decide)) (@pa_c _ _ _ _ _ (@pe_int _ _ _ _) (@pa_nil _) rfl) rfl) (by decide) (by rfl) (by rfl)) (by rfl) (by first | exact .inl rfl | exact .inr rfl | assumption)) (@pss_cons _ _ _ _ _ (@ps_for _ _ _ _ _ _ _ _ PassesOwn.never rfl (@pi_range1 _ _ _ _ _ _ k_law_range T.b_range (@pa_c _ _ _ _ _ (@pe_callB _ _ _ _ _ _ _ _ _ (@call_max2 _ rfl) k_law_max T.b_max (@boot_b_max) (@pa_c _ _ _ _ _ (@pe_int _ _ _ _) (@pa_c _ _ _ _ _ (@pe_callB _ _ _ _ _ _ _ _ _ (@len_k _ (K) (by rfl)) k_law_len T.b_len (@boot_b_len) (@pa_c _ _ _ _ _ (@pw _ 1 _ _ (Or.inl k_law_l_cells) (by rfl) (by decide) (by decide)) (@pa_nil _) rfl) (by decide) (by decide) (by rfl) (by rfl)) (@pa_nil _) rfl) rfl) (by decide) (by decide) (by rfl) (by rfl)) (@pa_nil _) rfl) (by rfl)) (@pg_name _ _ (2) _ sc_law.nd rfl (Or.inl k_law_l_k) (by first | exact .inl rfl | exact .inr rfl | assumption)) (@pss_cons _ _ _ _ _ (@ps_set _ _ (3) _ _ _ _ sc_law.nd rfl (Or.inr k_law_l_box_here) (@pe_call _ _ _ _ _ _ _ _ _ _ _ _ _ _ _ _ G_l_box (hr.mono (by decide)) k_law_l_box T.m_l_box T.F_l_box.kp T.B_l_box .nil (@pass0 _) (@pa_c _ _ _ _ _ (@pw _ 1 _ _ (Or.inl k_law_l_cells) (by rfl) (by decide) (by decide)) (@pa_c _ _ _ _ _ (@pw _ 2 _ _ (Or.inl k_law_l_k) (by rfl) (by decide) (by decide)) (@pa_nil _) rfl) rfl) (by decide) (by rfl) (by rfl)) (by rfl) (by first | exact .inl rfl | exact .inr rfl | assumption)) (@pss_cons _ _ _ _ _ (@ps_set _ _ (4) _ _ _ _ sc_law.nd rfl (Or.inl k_law_l_words) (@pe_bm_k _ (K) _ _ _ _ _ _ _ _ _ _ _ PySem.F.plainAttrs_str PySem.F.slot_str_join PySem.F.type_str_join (@mt_join _ (K) (by rfl)) (@pe_str _ _ _ _) (@pa_c _ _ _ _ _ (@pe_comp _ _ _ _ _ _ _ (["_law_turn", "_law_box_here"]) (1) ([3]) _ _ _ _ rfl (by kernel_rfl) (@pi_range1 _ _ _ _ _ _ k_law_range T.b_range (@pa_c _ _ _ _ _ (@pe_call _ _ _ _ _ _ _ _ _ _ _ _ _ _ _ _ G_l_take (hr.mono (by decide)) k_law_l_take T.m_l_take T.F_l_take.kp T.B_l_take .nil (@pass0 _) (@pa_c _ _ _ _ _ (@pw _ 3 _ _ (Or.inr (Or.inl k_law_l_box_here)) (by rfl) (by decide) (by decide)) (@pa_c _ _ _ _ _ (@pe_int _ _ _ _) (@pa_nil _) rfl) rfl) (by decide) (by rfl) (by rfl)) (@pa_nil _) rfl) (by rfl)) (fun _ _ _ _ _ _=>(@pg_name _ _ (0) _ (@nodupS _ (by kernel_rfl)) rfl (Or.inl (by kernel_rfl)) (by first | exact .inl rfl | exact .inr rfl | assumption))) (fun _ _ _ _ _ _=>@pifs_nil _) (fun _ _ _ _ _ _=>(@pe_ix _ _ _ _ _ _ _ (@ix_str _) (@pe_str _ _ _ _) (@pe_call _ _ _ _ _ _ _ _ _ _ _ _ _ _ _ _ G_l_take (hr.mono (by decide)) (by show _=_;kernel_rfl) T.m_l_take T.F_l_take.kp T.B_l_take .nil (@pass0 _) (@pa_c _ _ _ _ _ (@pw _ 1 _ _ (Or.inr (Or.inl (by kernel_rfl))) (by rfl) (by decide) (by decide)) (@pa_c _ _ _ _ _ (@pe_int _ _ _ _) (@pa_nil _) rfl) rfl) (by decide) (by rfl) (by rfl)) (fun _ _=>rfl))) (by intro _;rfl)) (@pa_nil _) rfl) (by rfl) (by rfl) (by rfl) (by rfl) (by rfl) (by rfl)) (by rfl) (by first | exact .inl rfl | exact .inr rfl | assumption)) (@pss_cons _ _ _ _ _ (@ps_setComp _ _ _ _ _ _ _ (["_law_turn", "_law_box_here"]) (1) ([3]) _ _ _ _ (5) _ _ _ sc_law.nd rfl k_law_l_ties (by kernel_rfl) rfl (by kernel_rfl) (@pi_range1 _ _ _ _ _ _ k_law_range T.b_range (@pa_c _ _ _ _ _ (@pe_call _ _ _ _ _ _ _ _ _ _ _ _ _ _ _ _ G_l_take (hr.mono (by decide)) k_law_l_take T.m_l_take T.F_l_take.kp T.B_l_take .nil (@pass0 _) (@pa_c _ _ _ _ _ (@pw _ 3 _ _ (Or.inr (Or.inl k_law_l_box_here)) (by rfl) (by decide) (by decide)) (@pa_c _ _ _ _ _ (@pe_int _ _ _ _) (@pa_nil _) rfl) rfl) (by decide) (by rfl) (by rfl)) (@pa_nil _) rfl) (by rfl)) (fun _ _ _ _ _ _=>(@pg_name _ _ (0) _ (@nodupS _ (by kernel_rfl)) rfl (Or.inl (by kernel_rfl)) (by first | exact .inl rfl | exact .inr rfl | assumption))) (fun _ _ _ _ _ _=>@pifs_nil _) (fun _ _ _ _ _ _=>(@pe_call _ _ _ _ _ _ _ _ _ _ _ _ _ _ _ _ G_l_take (hr.mono (by decide)) (by show _=_;kernel_rfl) T.m_l_take T.F_l_take.kp T.B_l_take .nil (@pass0 _) (@pa_c _ _ _ _ _ (@pw _ 1 _ _ (Or.inr (Or.inl (by kernel_rfl))) (by rfl) (by decide) (by decide)) (@pa_c _ _ _ _ _ (@pe_int _ _ _ _) (@pa_nil _) rfl) rfl) (by decide) (by rfl) (by rfl))) (by intro _;rfl)) (@pss_cons _ _ _ _ _ (@ps_par _ _ (6) (7) _ _ _ _ _ _ _ _ _ _ _ rfl sc_law.nd rfl rfl (by decide) k_law_l_number k_law_l_other (@pa_c _ _ _ _ _ (@pe_call _ _ _ _ _ _ _ _ _ _ _ _ _ _ _ _ G_l_take (hr.mono (by decide)) k_law_l_take T.m_l_take T.F_l_take.kp T.B_l_take .nil (@pass0 _) (@pa_c _ _ _ _ _ (@pw _ 3 _ _ (Or.inr (Or.inl k_law_l_box_here)) (by rfl) (by decide) (by decide)) (@pa_c _ _ _ _ _ (@pe_int _ _ _ _) (@pa_nil _) rfl) rfl) (by decide) (by rfl) (by rfl)) (@pa_c _ _ _ _ _ (@pe_call _ _ _ _ _ _ _ _ _ _ _ _ _ _ _ _ G_l_take (hr.mono (by decide)) k_law_l_take T.m_l_take T.F_l_take.kp T.B_l_take .nil (@pass0 _) (@pa_c _ _ _ _ _ (@pw _ 3 _ _ (Or.inr (Or.inl k_law_l_box_here)) (by rfl) (by decide) (by decide)) (@pa_c _ _ _ _ _ (@pe_int _ _ _ _) (@pa_nil _) rfl) rfl) (by decide) (by rfl) (by rfl)) (@pa_nil _) rfl) rfl) (by kernel_rfl) (by rfl)) (@pss_cons _ _ _ _ _ (@ps_par _ _ (8) (9) _ _ _ _ _ _ _ _ _ _ _ rfl sc_law.nd rfl rfl (by decide) k_law_l_one k_law_l_share (@pa_c _ _ _ _ _ (@pe_call _ _ _ _ _ _ _ _ _ _ _ _ _ _ _ _ G_l_frac (hr.mono (by decide)) k_law_l_frac T.m_l_frac T.F_l_frac.kp T.B_l_frac .nil (@pass0 _) (@pa_c _ _ _ _ _ (@pe_call _ _ _ _ _ _ _ _ _ _ _ _ _ _ _ _ G_l_take (hr.mono (by decide)) k_law_l_take T.m_l_take T.F_l_take.kp T.B_l_take .nil (@pass0 _) (@pa_c _ _ _ _ _ (@pw _ 3 _ _ (Or.inr (Or.inl k_law_l_box_here)) (by rfl) (by decide) (by decide)) (@pa_c _ _ _ _ _ (@pe_int _ _ _ _) (@pa_nil _) rfl) rfl) (by decide) (by rfl) (by rfl)) (@pa_c _ _ _ _ _ (@pe_op _ _ _ _ _ _ _ _ (@op_add _) (@pe_int _ _ _ _) (@pe_call _ _ _ _ _ _ _ _ _ _ _ _ _ _ _ _ G_l_take (hr.mono (by decide)) k_law_l_take T.m_l_take T.F_l_take.kp T.B_l_take .nil (@pass0 _) (@pa_c _ _ _ _ _ (@pw _ 3 _ _ (Or.inr (Or.inl k_law_l_box_here)) (by rfl) (by decide) (by decide)) (@pa_c _ _ _ _ _ (@pe_int _ _ _ _) (@pa_nil _) rfl) rfl) (by decide) (by rfl) (by rfl))) (@pa_nil _) rfl) rfl) (by decide) (by rfl) (by rfl)) (@pa_c _ _ _ _ _ (@pe_call _ _ _ _ _ _ _ _ _ _ _ _ _ _ _ _ G_l_frac (hr.mono (by decide)) k_law_l_frac T.m_l_frac T.F_l_frac.kp T.B_l_frac .nil (@pass0 _) (@pa_c _ _ _ _ _ (@pe_call _ _ _ _ _ _ _ _ _ _ _ _ _ _ _ _ G_l_take (hr.mono (by decide)) k_law_l_take T.m_l_take T.F_l_take.kp T.B_l_take .nil (@pass0 _) (@pa_c _ _ _ _ _ (@pw _ 3 _ _ (Or.inr (Or.inl k_law_l_box_here)) (by rfl) (by decide) (by decide)) (@pa_c _ _ _ _ _ (@pe_int _ _ _ _) (@pa_nil _) rfl) rfl) (by decide) (by rfl) (by rfl)) (@pa_c _ _ _ _ _ (@pe_int _ _ _ _) (@pa_nil _) rfl) rfl) (by decide) (by rfl) (by rfl)) (@pa_nil _) rfl) rfl) (by kernel_rfl) (by rfl)) (@pss_cons _ _ _ _ _ (@ps_set _ _ (10) _ _ _ _ sc_law.nd rfl (Or.inl k_law_l_some) (@pe_lstA _ _ _ _ (@pa_c _ _ _ _ _ (@pe_excN _ _ _ _ _ _ _ _ T.q_BadNumber T.k_BadNumber k_law_BadNumber T.m_BadNumber (@pa_c _ _ _ _ _ (@pw _ 4 _ _ (Or.inl k_law_l_words) (by rfl) (by decide) (by decide)) (@pa_nil _) rfl) (by decide) (by rfl) (by rfl)) (@pa_c _ _ _ _ _ (@pe_excN _ _ _ _ _ _ _ _ T.q_Taken T.k_Taken k_law_Taken T.m_Taken (@pa_c _ _ _ _ _ (@pw _ 4 _ _ (Or.inl k_law_l_words) (by rfl) (by decide) (by decide)) (@pa_nil _) rfl) (by decide) (by rfl) (by rfl)) (@pa_c _ _ _ _ _ (@pe_excN _ _ _ _ _ _ _ _ T.q_NoPlace T.k_NoPlace k_law_NoPlace T.m_NoPlace (@pa_c _ _ _ _ _ (@pw _ 4 _ _ (Or.inl k_law_l_words) (by rfl) (by decide) (by decide)) (@pa_nil _) rfl) (by decide) (by rfl) (by rfl)) (@pa_c _ _ _ _ _ (@pe_excN _ _ _ _ _ _ _ _ T.q_NoTie T.k_NoTie k_law_NoTie T.m_NoTie (@pa_c _ _ _ _ _ (@pw _ 4 _ _ (Or.inl k_law_l_words) (by rfl) (by decide) (by decide)) (@pa_nil _) rfl) (by decide) (by rfl) (by rfl)) (@pa_c _ _ _ _ _ (@pe_excN _ _ _ _ _ _ _ _ T.q_AsItIs T.k_AsItIs k_law_AsItIs T.m_AsItIs (@pa_c _ _ _ _ _ (@pw _ 4 _ _ (Or.inl k_law_l_words) (by rfl) (by decide) (by decide)) (@pa_nil _) rfl) (by decide) (by rfl) (by rfl)) (@pa_c _ _ _ _ _ (@pe_excN _ _ _ _ _ _ _ _ T.q_NoEnds T.k_NoEnds k_law_NoEnds T.m_NoEnds (@pa_c _ _ _ _ _ (@pw _ 4 _ _ (Or.inl k_law_l_words) (by rfl) (by decide) (by decide)) (@pa_nil _) rfl) (by decide) (by rfl) (by rfl)) (@pa_nil _) rfl) rfl) rfl) rfl) rfl) rfl)) (by rfl) (by first | exact .inl rfl | exact .inr rfl | assumption)) (@pss_cons _ _ _ _ _ (@ps_set _ _ (10) _ _ _ _ sc_law.nd rfl (Or.inl k_law_l_some) (@pe_op _ _ _ _ _ _ _ _ (@op_catA _) (@pw _ 10 _ _ (Or.inl k_law_l_some) (by rfl) (by decide) (by decide)) (@pe_lstA _ _ _ _ (@pa_c _ _ _ _ _ (@pe_excN _ _ _ _ _ _ _ _ T.q_Over T.k_Over k_law_Over T.m_Over (@pa_c _ _ _ _ _ (@pw _ 4 _ _ (Or.inl k_law_l_words) (by rfl) (by decide) (by decide)) (@pa_nil _) rfl) (by decide) (by rfl) (by rfl)) (@pa_c _ _ _ _ _ (@pe_excN _ _ _ _ _ _ _ _ T.q_TooMuch T.k_TooMuch k_law_TooMuch T.m_TooMuch (@pa_c _ _ _ _ _ (@pw _ 4 _ _ (Or.inl k_law_l_words) (by rfl) (by decide) (by decide)) (@pa_nil _) rfl) (by decide) (by rfl) (by rfl)) (@pa_c _ _ _ _ _ (@pe_excI _ _ _ _ _ _ _ _ _ _ _ _ _ T.q_Gaining T.fn_Gaining T.k_Gaining G_Gaining__init (hr.mono (by decide)) T.B_Gaining__init k_law_Gaining T.m_Gaining (@pa_c _ _ _ _ _ (@pe_callTy _ _ _ _ _ _ _ _ _ (@call_list_ofA _ (K) (by rfl)) k_law_list T.b_list (@boot_ty_list) (@pa_c _ _ _ _ _ (@pw _ 5 _ _ (Or.inl k_law_l_ties) (by rfl) (by decide) (by decide)) (@pa_nil _) rfl) (by decide) (by decide) (by rfl) (by rfl)) (@pa_nil _) rfl) (by decide) (by rfl) (by rfl)) (@pa_c _ _ _ _ _ (@pe_excI _ _ _ _ _ _ _ _ _ _ _ _ _ T.q_NotSoMuch T.fn_NotSoMuch T.k_NotSoMuch G_NotSoMuch__init (hr.mono (by decide)) T.B_NotSoMuch__init k_law_NotSoMuch T.m_NotSoMuch (@pa_c _ _ _ _ _ (@pw _ 8 _ _ (Or.inl k_law_l_one) (by rfl) (by decide) (by decide)) (@pa_nil _) rfl) (by decide) (by rfl) (by rfl)) (@pa_c _ _ _ _ _ (@pe_excI _ _ _ _ _ _ _ _ _ _ _ _ _ T.q_Short T.fn_Short T.k_Short G_Short__init (hr.mono (by decide)) T.B_Short__init k_law_Short T.m_Short (@pa_c _ _ _ _ _ (@pw _ 9 _ _ (Or.inl k_law_l_share) (by rfl) (by decide) (by decide)) (@pa_nil _) rfl) (by decide) (by rfl) (by rfl)) (@pa_nil _) rfl) rfl) rfl) rfl) rfl))) (by rfl) (by first | exact .inl rfl | exact .inr rfl | assumption)) (@pss_cons _ _ _ _ _ (@ps_set _ _ (10) _ _ _ _ sc_law.nd rfl (Or.inl k_law_l_some) (@pe_op _ _ _ _ _ _ _ _ (@op_catA _) (@pw _ 10 _ _ (Or.inl k_law_l_some) (by rfl) (by decide) (by decide)) (@pe_lstA _ _ _ _ (@pa_c _ _ _ _ _ (@pe_excI _ _ _ _ _ _ _ _ _ _ _ _ _ T.q_Lacking T.fn_Lacking T.k_Lacking G_Lacking__init (hr.mono (by decide)) T.B_Lacking__init k_law_Lacking T.m_Lacking (@pa_c _ _ _ _ _ (@pw _ 4 _ _ (Or.inl k_law_l_words) (by rfl) (by decide) (by decide)) (@pa_nil _) rfl) (by decide) (by rfl) (by rfl)) (@pa_c _ _ _ _ _ (@pe_excI _ _ _ _ _ _ _ _ _ _ _ _ _ T.q_BadRow T.fn_BadRow T.k_BadRow G_BadRow__init (hr.mono (by decide)) T.B_BadRow__init k_law_BadRow T.m_BadRow (@pa_c _ _ _ _ _ (@pw _ 6 _ _ (Or.inl k_law_l_number) (by rfl) (by decide) (by decide)) (@pa_nil _) rfl) (by decide) (by rfl) (by rfl)) (@pa_c _ _ _ _ _ (@pe_excI _ _ _ _ _ _ _ _ _ _ _ _ _ T.q_BadSheet T.fn_BadSheet T.k_BadSheet G_BadSheet__init (hr.mono (by decide)) T.B_BadSheet__init k_law_BadSheet T.m_BadSheet (@pa_c _ _ _ _ _ (@pw _ 7 _ _ (Or.inl k_law_l_other) (by rfl) (by decide) (by decide)) (@pa_nil _) rfl) (by decide) (by rfl) (by rfl)) (@pa_nil _) rfl) rfl) rfl))) (by rfl) (by first | exact .inl rfl | exact .inr rfl | assumption)) (@pss_cons _ _ _ _ _ (@ps_if _ _ _ _ _ _ _ _ (@pt_not _ _ _ _ (@pt_val _ _ _ (@pe_call _ _ _ _ _ _ _ _ _ _ _ _ _ _ _ _ G_l_right (hr.mono (by decide)) k_law_l_right T.m_l_right T.F_l_right.kp T.B_l_right .nil (@pass0 _) (@pa_c _ _ _ _ _ (@pw _ 10 _ _ (Or.inl k_law_l_some) (by rfl) (by decide) (by decide)) (@pa_nil _) rfl) (by decide) (by rfl) (by rfl)) (by intro _;rfl))) (@pss_one _ _ _ (@ps_ret _ _ _ _ (@pe_bl _ _ _ _))) (@pss_nil _)) (@pss_cons _ _ _ _ _ (@ps_set _ _ (11) _ _ _ _ sc_law.nd rfl (Or.inl k_law_l_told) (@pe_lstA _ _ _ _ (@pa_c _ _ _ _ _ (@pe_fldX _ _ _ _ _ (@pe_ix _ _ _ _ _ _ _ (@ixL_k _ (K) (by rfl)) (@pw _ 10 _ _ (Or.inl k_law_l_some) (by rfl) (by decide) (by decide)) (@pe_int _ _ _ _) (fun _ _=>rfl)) rfl) (@pa_c _ _ _ _ _ (@pe_fldX _ _ _ _ _ (@pe_ix _ _ _ _ _ _ _ (@ixL_k _ (K) (by rfl)) (@pw _ 10 _ _ (Or.inl k_law_l_some) (by rfl) (by decide) (by decide)) (@pe_int _ _ _ _) (fun _ _=>rfl)) rfl) (@pa_c _ _ _ _ _ (@pe_fldX _ _ _ _ _ (@pe_ix _ _ _ _ _ _ _ (@ixL_k _ (K) (by rfl)) (@pw _ 10 _ _ (Or.inl k_law_l_some) (by rfl) (by decide) (by decide)) (@pe_int _ _ _ _) (fun _ _=>rfl)) rfl) (@pa_c _ _ _ _ _ (@pe_fldX _ _ _ _ _ (@pe_ix _ _ _ _ _ _ _ (@ixL_k _ (K) (by rfl)) (@pw _ 10 _ _ (Or.inl k_law_l_some) (by rfl) (by decide) (by decide)) (@pe_int _ _ _ _) (fun _ _=>rfl)) rfl) (@pa_c _ _ _ _ _ (@pe_fldX _ _ _ _ _ (@pe_ix _ _ _ _ _ _ _ (@ixL_k _ (K) (by rfl)) (@pw _ 10 _ _ (Or.inl k_law_l_some) (by rfl) (by decide) (by decide)) (@pe_int _ _ _ _) (fun _ _=>rfl)) rfl) (@pa_c _ _ _ _ _ (@pe_fldX _ _ _ _ _ (@pe_ix _ _ _ _ _ _ _ (@ixL_k _ (K) (by rfl)) (@pw _ 10 _ _ (Or.inl k_law_l_some) (by rfl) (by decide) (by decide)) (@pe_int _ _ _ _) (fun _ _=>rfl)) rfl) (@pa_nil _) rfl) rfl) rfl) rfl) rfl) rfl)) (by rfl) (by first | exact .inl rfl | exact .inr rfl | assumption)) (@pss_one _ _ _ (@ps_if _ _ _ _ _ _ _ _ (@pt_cmpR _ _ _ _ _ _ _ _ (@op_ne _) (@pe_callB _ _ _ _ _ _ _ _ _ (@call_reprW _ _ hr) k_law_repr T.b_repr (@boot_b_repr) (@pa_c _ _ _ _ _ (@pw _ 11 _ _ (Or.inl k_law_l_told) (by rfl) (by decide) (by decide)) (@pa_nil _) rfl) (by decide) (by decide) (by rfl) (by rfl)) (@pe_callB _ _ _ _ _ _ _ _ _ (@call_reprW _ _ hr) k_law_repr T.b_repr (@boot_b_repr) (@pa_c _ _ _ _ _ (@pe_lstA _ _ _ _ (@pa_c _ _ _ _ _ (@pw _ 5 _ _ (Or.inl k_law_l_ties) (by rfl) (by decide) (by decide)) (@pa_c _ _ _ _ _ (@pw _ 8 _ _ (Or.inl k_law_l_one) (by rfl) (by decide) (by decide)) (@pa_c _ _ _ _ _ (@pw _ 9 _ _ (Or.inl k_law_l_share) (by rfl) (by decide) (by decide)) (@pa_c _ _ _ _ _ (@pw _ 4 _ _ (Or.inl k_law_l_words) (by rfl) (by decide) (by decide)) (@pa_c _ _ _ _ _ (@pw _ 6 _ _ (Or.inl k_law_l_number) (by rfl) (by decide) (by decide)) (@pa_c _ _ _ _ _ (@pw _ 7 _ _ (Or.inl k_law_l_other) (by rfl) (by decide) (by decide)) (@pa_nil _) rfl) rfl) rfl) rfl) rfl) rfl)) (@pa_nil _) rfl) (by decide) (by decide) (by rfl) (by rfl)) (@nomark _ _ (by decide) (by decide))) (@pss_one _ _ _ (@ps_ret _ _ _ _ (@pe_bl _ _ _ _))) (@pss_nil _))))))))))))) (by intro _;rfl)) (@pss_one _ _ _ (@ps_ret _ _ _ _ (@pe_bl _ _ _ _))))),?_⟩
    refine seqH fun DA nA=>?_
    refine ⟨_,rfl,a,ns,3,rfl,hS,hn,by decide,by decide,fun p ms H1 hp s1 hp1 hm4=>?_⟩
    refine nA _ _ ?_
    have hmx:0≤(if ((ms.map V.int).length:Int) > 2 then ((ms.map V.int).length:Int) else 2)∧(if ((ms.map V.int).length:Int) > 2 then ((ms.map V.int).length:Int) else 2)≤4:=by
      rw [List.length_map]
      split <;> trivial
    refine ⟨_,rfl,p,_,rfl,.inl (SqL.of hp1),_,_,rfl,_,rfl,by trivial,by trivial,?_⟩
    generalize (if ((ms.map V.int).length:Int) > 2 then ((ms.map V.int).length:Int) else 2)=mx at hmx
    refine for_range (fun i σ H'=>Ex10 fun v2 v3 v4 v5 v6 v7 v8 v9 v10 v11=>σ=[some (.ref a),some (.ref p),v2,v3,v4,v5,v6,v7,v8,v9,v10,v11]∧H' p=some (.lst (ms.map V.int))) ⟨_,_,_,_,_,_,_,_,_,_,rfl,hp1⟩ ?_ ?_
    case refine_2=>
      rintro σ H' ⟨v2,v3,v4,v5,v6,v7,v8,v9,v10,v11,rfl,_⟩
      exact k _
    rintro i σ H2 hi ⟨v2,v3,v4,v5,v6,v7,v8,v9,v10,v11,rfl,hp2⟩
    refine bodyH (t:=tSeq _ _) fun DB nB=>?_
    refine seqH fun DC nC=>?_
    refine ⟨_,rfl,_,rfl,p,ms,_,rfl,SqL.of hp2,by trivial,by trivial,fun b H3 hb s3 B3=>?_⟩
    refine nC _ _ ?_
    have npb:¬p=b:=fun z=>by rw [z,hb] at hp2;cases hp2
    have hp3:=s3 _ _ hp2
    refine seqA fun Q4 n4=>⟨rfl,_,rfl,b,9,0,rfl,B3,by decide,by decide,by decide,by decide,fun m t4 H4 m0 m1 h4a h4b s4 B4=>⟨_,rfl,by trivial,by trivial,fun D hD=>comp_each (n:=m.toNat) (fun (j:Nat) (J:Hp) (ys:List V)=>Ex2 fun (ls:List (List Nat)) (t':Int)=>J D=some (.lst ys)∧ys=ls.map (fun l=>V.str (S l))∧ls.length=j∧(∀l∈ls,l.length=1∧∀c∈l,c<128)∧Bx J b t'∧0≤t'∧t'≤1+j∧SameE (Eb b) H4 J) (sz_of (by trivial)) ⟨[],t4,upd_same,rfl,rfl,(fun l h=>by cases h),B4.same (Same.new hD),by trivial,by trivial,(Same.new hD).toE⟩ ?_ ?_ ?_ ?_ ?_⟩⟩
    · rintro j J ys ⟨ls,t',e1,rfl,e2,_⟩
      exact ⟨e1,by rw [List.length_map];trivial⟩
    · intro j J ys hj _
      exact hj
    · intro J ys _
      exact Nat.le_refl _
    · have nDb:¬D=b:=fun z=>B4.ne hD z.symm
      rintro j J ys x J2 hj ⟨ls,t',e1,e2,e3,e4,B',h0',h1',s'⟩ ⟨rfl,rfl⟩
      refine ⟨back1,_,rfl,b,7,t',rfl,B',by decide,by decide,h0',by trivial,fun r t2 Ha r0 r1 ha1 ha2 sa Ba=>?_⟩
      obtain ⟨c,ec,hc⟩:=sign_at r0 r1
      have hDa:=sa.old D _ nDb e1
      refine ⟨_,_,c,rfl,rfl,sz_of (by decide +kernel),ec,hDa,ls++[[c]],t2,upd_same,?_,?_,fun l hl=>?_,?_,by trivial,by trivial,?_⟩
      · rw [e2,List.map_append];rfl
      · rw [List.length_append,e3];rfl
      · rcases List.mem_append.mp hl with q | q
        · exact e4 l q
        · rw [List.mem_singleton.mp q]
          exact ⟨rfl,fun z hz=>by rw [List.mem_singleton.mp hz];exact hc⟩
      · exact Ba.ch (Ch.mk' (p:=D)) (Ne.symm nDb)
      · have s9a:=s'.trans sa
        exact ⟨fun a u ne h=>by rw [upd_ne (ne_of_none h hD)];exact s9a.old a u ne h,fun a us h=>by rw [upd_ne (ne_of_none h hD)];exact s9a.tup a us h⟩
    rintro H5 ys ⟨ls,t5,e51,rfl,e52,e53,B5,h50,h51,s5⟩
    obtain ⟨w1,w2,w3⟩:=flat1 e53
    refine ⟨D,ls,rfl,rfl,SqL.of e51,by trivial,n4 _ _ ?_⟩
    have hw:strT (S ls.flatten):=⟨by rw [S_len];trivial,by rw [S_list];exact w2⟩
    generalize S ls.flatten=wo at hw
    have hp5:=s5.old p _ npb (s4.old p _ npb hp3)
    refine seqH fun DD nD=>?_
    refine ⟨_,rfl,b,6,t5,rfl,B5,by decide,by decide,by trivial,by trivial,fun m2 t6 H6 m20 m21 h6a h6b s6 B6=>⟨_,rfl,by trivial,by trivial,fun D2 hD2=>comp_each (n:=m2.toNat) (fun (j:Nat) (J:Hp) (ys:List V)=>Ex2 fun (tis:List Int) (t':Int)=>J D2=some (.lst ys)∧ys=tis.map V.int∧tis.length=j∧(∀l∈tis,0≤l∧l<24)∧Bx J b t'∧0≤t'∧t'≤20+j∧SameE (Eb b) H6 J) (sz_of (by trivial)) ⟨[],t6,upd_same,rfl,rfl,(fun l h=>by cases h),B6.same (Same.new hD2),by trivial,by trivial,(Same.new hD2).toE⟩ ?_ ?_ ?_ ?_ ?_⟩⟩
    · rintro j J ys ⟨ls,t',e1,rfl,e2,_⟩
      exact ⟨e1,by rw [List.length_map];trivial⟩
    · intro j J ys hj _
      exact hj
    · intro J ys _
      exact Nat.le_refl _
    · have nDb:¬D2=b:=fun z=>B6.ne hD2 z.symm
      rintro j J ys x J2 hj ⟨ls,t',e1,e2,e3,e4,B',h0',h1',s'⟩ ⟨rfl,rfl⟩
      refine ⟨back1,_,rfl,b,24,t',rfl,B',by decide,by decide,h0',by trivial,fun r t2 Ha r0 r1 ha1 ha2 sa Ba=>?_⟩
      have hDa:=sa.old D2 _ nDb e1
      refine ⟨hDa,ls++[r],t2,upd_same,?_,?_,fun l hl=>?_,?_,by trivial,by trivial,?_⟩
      · rw [e2,List.map_append];rfl
      · rw [List.length_append,e3];rfl
      · rcases List.mem_append.mp hl with q | q
        · exact e4 l q
        · rw [List.mem_singleton.mp q]
          exact ⟨r0,r1⟩
      · exact Ba.ch (Ch.mk' (p:=D2)) (Ne.symm nDb)
      · have s9a:=s'.trans sa
        exact ⟨fun a u ne h=>by rw [upd_ne (ne_of_none h hD2)];exact s9a.old a u ne h,fun a us h=>by rw [upd_ne (ne_of_none h hD2)];exact s9a.tup a us h⟩
    rintro H7 ys ⟨tis,t7,e71,rfl,e72,e73,B7,h70,h71,s7⟩
    have nDb:¬D2=b:=fun z=>B6.ne hD2 z.symm
    refine nD _ _ ?_
    have hp7:=s7.old p _ npb (s6.old p _ npb hp5)
    refine seqH fun DE nE=>?_
    refine ⟨_,rfl,b,200,t7,rfl,B7,by decide,by decide,by trivial,by trivial,fun na t8 H8 a80 a81 h8a h8b s8 B8=>⟨_,rfl,b,200,t8,rfl,B8,by decide,by decide,by trivial,by trivial,fun nb t9 H9 a90 a91 h9a h9b s9 B9=>⟨_,_,rfl,nE _ _ ?_⟩⟩⟩
    refine seqH fun DF nF=>?_
    refine ⟨_,rfl,b,999,t9,rfl,B9,by decide,by decide,by trivial,by trivial,fun r1 ta Ha ra0 ra1 haa hab sa Ba=>⟨_,rfl,b,99,ta,rfl,Ba,by decide,by decide,by trivial,by trivial,fun r2 tb Hb rb0 rb1 hba hbb sb Bb=>⟨_,_,rfl,rfl,_,_,rfl,by trivial,Sz.mono (m:=40) (by show (1+r2).natAbs<1099511627776;trivial) (by decide),fun o1 Hc nc=>⟨_,rfl,b,12,tb,rfl,Bb.same nc.sm,by decide,by decide,by trivial,by trivial,fun r3 td Hd rd0 rd1 hda hdb sd Bd=>⟨_,_,rfl,by decide,Sz.mono (m:=40) (by show (12:Int).natAbs<1099511627776;decide) (by decide),fun o2 He ne=>⟨_,_,rfl,nF _ _ ?_⟩⟩⟩⟩⟩⟩
    have sz:∀{i:Int},i.natAbs<1099511627776→Sz 40 i:=fun h=>h
    have F1:=Fb.low (sz (i:=r1) (by trivial)) (sz (i:=1+r2) (by trivial)) (by trivial)
    have F2:=Fb.low (sz (i:=r3) (by trivial)) (sz (i:=12) (by decide)) (by decide)
    generalize KM.low r1 (1+r2)=f1 at F1 nc
    generalize KM.low r3 12=f2 at F2 ne
    have sE:SameE (Eb b) H7 He:=(((((s8.trans s9).trans sa).trans sb).trans nc.sm.toE).trans sd).trans ne.sm.toE
    have hpe:=sE.old p _ npb hp7
    have hDe:=sE.old D2 _ nDb e71
    have ho1:=ne.sm _ _ (sd.tup _ _ nc.at')
    have ho2:=ne.at'
    refine seqH fun DG nG=>?_
    refine ⟨_,rfl,(by show 1≤10000;decide),fun y1 J1 m1=>⟨_,rfl,(by show 1≤10000;decide),fun y2 J2 m2=>⟨_,rfl,(by show 1≤10000;decide),fun y3 J3 m3=>⟨_,rfl,(by show 1≤10000;decide),fun y4 J4 m4=>⟨_,rfl,(by show 1≤10000;decide),fun y5 J5 m5=>⟨_,rfl,(by show 1≤10000;decide),fun y6 J6 m6=>⟨(by show 6≤10000;decide),fun l1 J7 m7=>nG _ _ ?_⟩⟩⟩⟩⟩⟩⟩
    have S7:Same He J7:=(((((m1.sm.trans m2.sm).trans m3.sm).trans m4.sm).trans m5.sm).trans m6.sm).trans m7.sm
    have x1:=(mkN m1).sm (((((m2.sm.trans m3.sm).trans m4.sm).trans m5.sm).trans m6.sm).trans m7.sm)
    have x2:=(mkN m2).sm ((((m3.sm.trans m4.sm).trans m5.sm).trans m6.sm).trans m7.sm)
    have x3:=(mkN m3).sm (((m4.sm.trans m5.sm).trans m6.sm).trans m7.sm)
    have x4:=(mkN m4).sm ((m5.sm.trans m6.sm).trans m7.sm)
    have x5:=(mkN m5).sm (m6.sm.trans m7.sm)
    have x6:=(mkN m6).sm m7.sm
    have hl1:=m7.at'
    refine seqH fun DH nH=>?_
    refine ⟨_,rfl,_,rfl,(by show 1≤10000;decide),fun y7 J8 m8=>⟨_,rfl,(by show 1≤10000;decide),fun y8 J9 m9=>⟨_,rfl,D2,_,rfl,.inl (SqL.of (m9.sm _ _ (m8.sm _ _ (S7 _ _ hDe)))),fun lc J10 m10=>⟨(by show 1≤10000;decide),fun y9 J11 m11=>⟨y9,_,lc,tis,_,rfl,m11.at',T.q_Gaining,T.st_Gaining,m11.sm _ _ m10.at',fun pc dx9 J12 J13 m12 d9 ne9 e9=>⟨rfl,?_⟩⟩⟩⟩⟩⟩
    obtain ⟨S13,x9,k9⟩:=mkX m11.fr (m11.sm.trans m12.sm) d9 ne9 e9
    have hpc:=k9 _ _ m12.at' (fun z=>by have q:=m11.at';rw [←z,m12.fr] at q;cases q)
    refine ⟨_,rfl,(by show 1≤10000;decide),fun y10 J14 m14=>⟨y10,_,_,_,rfl,m14.at',T.q_NotSoMuch,T.st_NotSoMuch,fun dx10 J15 d10 ne10 e10=>⟨rfl,?_⟩⟩⟩
    obtain ⟨S15,x10,_⟩:=mkX m14.fr m14.sm d10 ne10 e10
    refine ⟨_,rfl,(by show 1≤10000;decide),fun y11 J16 m16=>⟨y11,_,_,_,rfl,m16.at',T.q_Short,T.st_Short,fun dx11 J17 d11 ne11 e11=>⟨rfl,?_⟩⟩⟩
    obtain ⟨S17,x11,_⟩:=mkX m16.fr m16.sm d11 ne11 e11
    have S7_17:Same J7 J17:=(((((m8.sm.trans m9.sm).trans m10.sm).trans S13).trans S15).trans S17)
    refine ⟨(by show 5≤10000;decide),fun l2 J18 m18=>⟨l1,l2,_,_,rfl,rfl,m18.sm _ _ (S7_17 _ _ hl1),m18.at',(by show 11≤10000;decide),fun l3 J19 m19=>nH _ _ ?_⟩⟩
    have S17_19:Same J17 J19:=m18.sm.trans m19.sm
    have x7:=(mkN m8).sm ((((((m9.sm.trans m10.sm).trans S13).trans S15).trans S17)).trans S17_19)
    have x8:=(mkN m9).sm (((((m10.sm.trans S13).trans S15).trans S17)).trans S17_19)
    have x9:=x9.sm ((S15.trans S17).trans S17_19)
    have hpc:=((S15.trans S17).trans S17_19) _ _ hpc
    have x10:=x10.sm (S17.trans S17_19)
    have x11:=x11.sm S17_19
    have S7_19:=S7_17.trans S17_19
    have hl3:=m19.at'
    refine seqH fun DI nI=>?_
    refine ⟨_,rfl,_,rfl,(by show 1≤10000;decide),fun y12 J20 m20=>⟨y12,_,_,_,rfl,m20.at',T.q_Lacking,T.st_Lacking,fun dx12 J21 d12 ne12 e12=>⟨rfl,?_⟩⟩⟩
    obtain ⟨S21,x12,_⟩:=mkX m20.fr m20.sm d12 ne12 e12
    refine ⟨_,rfl,(by show 1≤10000;decide),fun y13 J22 m22=>⟨y13,_,_,_,rfl,m22.at',T.q_BadRow,T.st_BadRow,fun dx13 J23 d13 ne13 e13=>⟨rfl,?_⟩⟩⟩
    obtain ⟨S23,x13,_⟩:=mkX m22.fr m22.sm d13 ne13 e13
    refine ⟨_,rfl,(by show 1≤10000;decide),fun y14 J24 m24=>⟨y14,_,_,_,rfl,m24.at',T.q_BadSheet,T.st_BadSheet,fun dx14 J25 d14 ne14 e14=>⟨rfl,?_⟩⟩⟩
    obtain ⟨S25,x14,_⟩:=mkX m24.fr m24.sm d14 ne14 e14
    have S19_25:Same J19 J25:=(S21.trans S23).trans S25
    refine ⟨(by show 3≤10000;decide),fun l4 J26 m26=>⟨l3,l4,_,_,rfl,rfl,m26.sm _ _ (S19_25 _ _ hl3),m26.at',(by show 14≤10000;decide),fun l5 J27 m27=>nI _ _ ?_⟩⟩
    have S25_27:Same J25 J27:=m26.sm.trans m27.sm
    have S19_27:=S19_25.trans S25_27
    have S7_27:=S7_19.trans S19_27
    have hl5:J27 l5=some (.lst ([y1,y2,y3,y4,y5,y6,y7,y8,y9,y10,y11,y12,y13,y14].map V.ref)):=m27.at'
    have x1:=x1.sm S7_27
    have x2:=x2.sm S7_27
    have x3:=x3.sm S7_27
    have x4:=x4.sm S7_27
    have x5:=x5.sm S7_27
    have x6:=x6.sm S7_27
    have x7:=x7.sm S19_27
    have x8:=x8.sm S19_27
    have x9:=x9.sm S19_27
    have x10:=x10.sm S19_27
    have x11:=x11.sm S19_27
    have x12:=x12.sm ((S23.trans S25).trans S25_27)
    have x13:=x13.sm (S25.trans S25_27)
    have x14:=x14.sm S25_27
    have hpc:=S19_27 _ _ hpc
    have Se:Same He J27:=S7.trans S7_27
    refine seqH fun DJ nJ=>?_
    refine ⟨_,rfl,l5,_,rfl,hl5,rfl,?_,fun J28 S28=>⟨_,rfl,iteF (nJ _ _ ?_)⟩⟩
    · intro i a e
      match i,e with
      | 0,e=>cases e;exact ⟨_,_,rfl,x1⟩
      | 1,e=>cases e;exact ⟨_,_,rfl,x2⟩
      | 2,e=>cases e;exact ⟨_,_,rfl,x3⟩
      | 3,e=>cases e;exact ⟨_,_,rfl,x4⟩
      | 4,e=>cases e;exact ⟨_,_,rfl,x5⟩
      | 5,e=>cases e;exact ⟨_,_,rfl,x6⟩
      | 6,e=>cases e;exact ⟨_,_,rfl,x7⟩
      | 7,e=>cases e;exact ⟨_,_,rfl,x8⟩
      | 8,e=>cases e;exact ⟨_,_,rfl,x9⟩
      | 9,e=>cases e;exact ⟨_,_,rfl,x10⟩
      | 10,e=>cases e;exact ⟨_,_,rfl,x11⟩
      | 11,e=>cases e;exact ⟨_,_,rfl,x12⟩
      | 12,e=>cases e;exact ⟨_,_,rfl,x13⟩
      | 13,e=>cases e;exact ⟨_,_,rfl,x14⟩
      | n+14,e=>cases e
    have hl:=S28 _ _ hl5
    obtain ⟨c9,g9,d9⟩:=isX_fld (x9.sm S28)
    obtain ⟨c10,g10,d10⟩:=isX_fld (x10.sm S28)
    obtain ⟨c11,g11,d11⟩:=isX_fld (x11.sm S28)
    obtain ⟨c12,g12,d12⟩:=isX_fld (x12.sm S28)
    obtain ⟨c13,g13,d13⟩:=isX_fld (x13.sm S28)
    obtain ⟨c14,g14,d14⟩:=isX_fld (x14.sm S28)
    have hpc:=S28 _ _ hpc
    have Sz:=Se.trans S28
    refine seqH fun DK nK=>?_
    refine ⟨_,rfl,l5,_,_,_,rfl,rfl,SqL.of hl,rfl,y9,_,c9,_,_,rfl,g9,d9,lk1,T.fd_Gaining,_,rfl,l5,_,_,_,rfl,rfl,SqL.of hl,rfl,y10,_,c10,_,_,rfl,g10,d10,lk1,T.fd_NotSoMuch,_,rfl,l5,_,_,_,rfl,rfl,SqL.of hl,rfl,y11,_,c11,_,_,rfl,g11,d11,lk1,T.fd_Short,_,rfl,l5,_,_,_,rfl,rfl,SqL.of hl,rfl,y12,_,c12,_,_,rfl,g12,d12,lk1,T.fd_Lacking,_,rfl,l5,_,_,_,rfl,rfl,SqL.of hl,rfl,y13,_,c13,_,_,rfl,g13,d13,lk1,T.fd_BadRow,_,rfl,l5,_,_,_,rfl,rfl,SqL.of hl,rfl,y14,_,c14,_,_,rfl,g14,d14,lk1,T.fd_BadSheet,(by show 6≤10000;decide),fun l6 J29 m29=>nK _ _ ?_⟩
    have i1:=is81 (p:=f1) (q:=f2) m29.at' (m29.sm _ _ hpc) (m29.sm _ _ (Sz _ _ ho1)) (m29.sm _ _ (Sz _ _ ho2))
    obtain ⟨nw,hnw,wt⟩:=wt81 e73 (by trivial) F1 F2 hw (sm19 (i:=na) (by trivial)) (sm19 (i:=nb) (by trivial))
    refine ⟨_,rfl,l6,_,_,_,_,rfl,i1,wt,by trivial,by decide,_,rfl,_,rfl,_,rfl,_,rfl,_,rfl,_,rfl,(by show 6≤10000;decide),fun l7 J30 m30=>?_⟩
    have Sy:=(Sz.trans m29.sm).trans m30.sm
    have i2:=is81 (p:=f1) (q:=f2) m30.at' (Sy _ _ hDe) (Sy _ _ ho1) (Sy _ _ ho2)
    refine ⟨l7,_,_,_,_,rfl,i2,wt,by trivial,by decide,rfl,_,rfl,?_⟩
    have ev:∀x:Str,(!decide (V.str x=V.str x))=false:=fun x=>by simp
    rw [ev]
    exact iteF (nB _ _ ⟨_,_,_,_,_,_,_,_,_,_,rfl,Sy _ _ hpe⟩)
end
end K81
open PySem PySem.W PyProof.Rows
set_option maxRecDepth 100000 in
set_option maxHeartbeats 0 in
theorem PySem.Challenge.cw_gainroads_k81_whole_refusals_made_by_han_holds : PySem.Challenge.rw_gainroads_k81_whole_refusals_made_by_han.Holds := by
  w_on;o_law;k_head;(case hw=>w_witness2)
  k_fill
  refine L2.walk_ofK (l:=PySem.Challenge.rw_gainroads_k81_whole_refusals_made_by_han) (n:=63) (k:=40) (x := "_law_script") (CX:=L2.CX0) (sp:=K81.spLaw) rfl (by decide) rfl ⟨rfl,by decide,by decide,rfl⟩ (fun w h Y=>PySem.W.kIn_of Y) ?F ?S ?C
  case F=>
    intro w mg fa h KX G hmg
    have T:∃T:K81.Txt (L2.KOf KX) mg,∃f,T.f_law=f∧(∀(s:Shared) (u:Value),BindsTo s T.d_law ⟨[u],[]⟩ [("_law_script",u)]):=by
      dsimp only [L2.KOf]
      refine' (fun z=>Exists.elim z fun T y=>⟨T,_,y.1,y.2⟩) (K81.txt_mk KX G ?xa0 ?xa1 ?xa2 ?xa3 ?xa4 ?xa5 ?xa6 ?xa7 ?xa8 ?xa9 ?xa10 ?xa11 ?xa12 ?xa13 ?xa14 ?a0 ?l0 ?c0 ?k0 ?a1 ?l1 ?c1 ?k1 ?a2 ?l2 ?c2 ?k2 ?a3 ?l3 ?c3 ?k3 ?a4 ?l4 ?c4 ?k4 ?a5 ?l5 ?c5 ?k5 ?a6 ?l6 ?c6 ?k6 ?a7 ?l7 ?c7 ?k7 ?a8 ?l8 ?c8 ?k8 ?a9 ?l9 ?c9 ?k9 ?a10 ?l10 ?c10 ?k10 ?a11 ?l11 ?c11 ?k11 ?a12 ?l12 ?c12 ?k12 ?xk0 ?xb0 ?xk1 ?xq1 ?xk2 ?xq2 ?xk3 ?xq3 ?xk4 ?xq4 ?xk5 ?xq5 ?xk6 ?xq6 ?xk7 ?xq7 ?xk8 ?xq8 ?xk9 ?xf9 ?xs9 ?xr9 ?xq9 ?xk10 ?xf10 ?xs10 ?xr10 ?xq10 ?xk11 ?xf11 ?xs11 ?xr11 ?xq11 ?xk12 ?xf12 ?xs12 ?xr12 ?xq12 ?xk13 ?xf13 ?xs13 ?xr13 ?xq13 ?xk14 ?xf14 ?xs14 ?xr14 ?xq14 ?xi ?z0 ?z1 ?z2 ?z3 ?z4 ?z5 ?z6 ?z7 ?z8 ?z9 ?z10)
      (case xa0=>k_is)
      (case xa1=>k_is)
      (case xa2=>k_is)
      (case xa3=>k_is)
      (case xa4=>k_is)
      (case xa5=>k_is)
      (case xa6=>k_is)
      (case xa7=>k_is)
      (case xa8=>k_is)
      (case xa9=>k_is)
      (case xa10=>k_is)
      (case xa11=>k_is)
      (case xa12=>k_is)
      (case xa13=>k_is)
      (case xa14=>k_is)
      (case a0=>k_is)
      (case l0=>k_is)
      (case c0=>k_is)
      (case k0=>k_is)
      (case a1=>k_is)
      (case l1=>k_is)
      (case c1=>k_is)
      (case k1=>k_is)
      (case a2=>k_is)
      (case l2=>k_is)
      (case c2=>k_is)
      (case k2=>k_is)
      (case a3=>k_is)
      (case l3=>k_is)
      (case c3=>k_is)
      (case k3=>k_is)
      (case a4=>k_is)
      (case l4=>k_is)
      (case c4=>k_is)
      (case k4=>k_is)
      (case a5=>k_is)
      (case l5=>k_is)
      (case c5=>k_is)
      (case k5=>k_is)
      (case a6=>k_is)
      (case l6=>k_is)
      (case c6=>k_is)
      (case k6=>k_is)
      (case a7=>k_is)
      (case l7=>k_is)
      (case c7=>k_is)
      (case k7=>k_is)
      (case a8=>k_is)
      (case l8=>k_is)
      (case c8=>k_is)
      (case k8=>k_is)
      (case a9=>k_is)
      (case l9=>k_is)
      (case c9=>k_is)
      (case k9=>k_is)
      (case a10=>k_is)
      (case l10=>k_is)
      (case c10=>k_is)
      (case k10=>k_is)
      (case a11=>k_is)
      (case l11=>k_is)
      (case c11=>k_is)
      (case k11=>k_is)
      (case a12=>k_is)
      (case l12=>k_is)
      (case c12=>k_is)
      (case k12=>k_is)
      (case xk0=>k_is)
      (case xb0=>kernel_rfl)
      (case xk1=>k_is)
      (case xq1=>kernel_rfl)
      (case xk2=>k_is)
      (case xq2=>kernel_rfl)
      (case xk3=>k_is)
      (case xq3=>kernel_rfl)
      (case xk4=>k_is)
      (case xq4=>kernel_rfl)
      (case xk5=>k_is)
      (case xq5=>kernel_rfl)
      (case xk6=>k_is)
      (case xq6=>kernel_rfl)
      (case xk7=>k_is)
      (case xq7=>kernel_rfl)
      (case xk8=>k_is)
      (case xq8=>kernel_rfl)
      (case xk9=>k_is)
      (case xf9=>k_is)
      (case xs9=>kernel_rfl)
      (case xr9=>kernel_rfl)
      (case xq9=>kernel_rfl)
      (case xk10=>k_is)
      (case xf10=>k_is)
      (case xs10=>kernel_rfl)
      (case xr10=>kernel_rfl)
      (case xq10=>kernel_rfl)
      (case xk11=>k_is)
      (case xf11=>k_is)
      (case xs11=>kernel_rfl)
      (case xr11=>kernel_rfl)
      (case xq11=>kernel_rfl)
      (case xk12=>k_is)
      (case xf12=>k_is)
      (case xs12=>kernel_rfl)
      (case xr12=>kernel_rfl)
      (case xq12=>kernel_rfl)
      (case xk13=>k_is)
      (case xf13=>k_is)
      (case xs13=>kernel_rfl)
      (case xr13=>kernel_rfl)
      (case xq13=>kernel_rfl)
      (case xk14=>k_is)
      (case xf14=>k_is)
      (case xs14=>kernel_rfl)
      (case xr14=>kernel_rfl)
      (case xq14=>kernel_rfl)
      (case xi=>kernel_rfl)
      (case z0=>k_is)
      (case z1=>k_is)
      (case z2=>k_is)
      (case z3=>k_is)
      (case z4=>k_is)
      (case z5=>k_is)
      (case z6=>k_is)
      (case z7=>k_is)
      (case z8=>k_is)
      (case z9=>k_is)
      (case z10=>k_is)
    obtain ⟨T,f,rfl,hb⟩:=T
    have e0:=hmg.symm.trans T.m_law
    cases e0
    exact ⟨T.d_law,hb,fun base kb nb=>K81.law_ok T⟩
  case S=>exact fun K H a ns hl hO hS=>K81.law_start hl hO hS
  case C=>exact fun _ _ _ _ z=>z
