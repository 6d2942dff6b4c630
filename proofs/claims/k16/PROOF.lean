import PyProof.Rows.All
import Wide.All
import OpenK.AllK
import Wide.FinOn
import Lean
import PyProof.EqAt
import PyProof.EqKinds
import PyProof.TupleCall
import PyProof.CompFree
import PyProof.CompMap
import KE.LcSums
import PyProof.ZipIter
import PyProof.Draws
import KE.KRevSl
import KE.KListMore
import PyProof.Rows.StrJoin2
import PyProof.Rows.StrFin3
import PyProof.StrOps2
import PyProof.NeData
import PyProof.P3Eq
import PyProof.StrLawsRepr
import PyProof.ReprLen
import PyProof.Rows.IntBool
import PyProof.SliceStr2
import PyProof.P3In
import PyProof.Rows.StrLen
import KE.KStrOpen
import PyProof.FitsInt
import PyProof.Rows.ReprOcc
import PyProof.ListRange
import PyProof.AttrMissHeap
import PyProof.FactsAll.zip
import PyProof.FactsAll.tuple_3
import KE.KDictOf
import PyProof.SeqRoads2
import PySem.Challenge.RW_gainroads_k16_steps_that_are_left
set_option Elab.async false
set_option linter.all false
set_option maxRecDepth 100000
set_option genSizeOf false
set_option genInjectivity false
namespace L2
inductive Ex2 {α0 α1 : Type} (p : α0 → α1 → Prop) : Prop
  | mk (a0 : α0) (a1 : α1) (h : p a0 a1)
inductive Ex3 {α0 α1 α2 : Type} (p : α0 → α1 → α2 → Prop) : Prop
  | mk (a0 : α0) (a1 : α1) (a2 : α2) (h : p a0 a1 a2)
inductive Ex4 {α0 α1 α2 α3 : Type} (p : α0 → α1 → α2 → α3 → Prop) : Prop
  | mk (a0 : α0) (a1 : α1) (a2 : α2) (a3 : α3) (h : p a0 a1 a2 a3)
inductive Ex5 {α0 α1 α2 α3 α4 : Type} (p : α0 → α1 → α2 → α3 → α4 → Prop) : Prop
  | mk (a0 : α0) (a1 : α1) (a2 : α2) (a3 : α3) (a4 : α4) (h : p a0 a1 a2 a3 a4)
inductive Ex6 {α0 α1 α2 α3 α4 α5 : Type} (p : α0 → α1 → α2 → α3 → α4 → α5 → Prop) : Prop
  | mk (a0 : α0) (a1 : α1) (a2 : α2) (a3 : α3) (a4 : α4) (a5 : α5) (h : p a0 a1 a2 a3 a4 a5)
inductive Ex7 {α0 α1 α2 α3 α4 α5 α6 : Type} (p : α0 → α1 → α2 → α3 → α4 → α5 → α6 → Prop) : Prop
  | mk (a0 : α0) (a1 : α1) (a2 : α2) (a3 : α3) (a4 : α4) (a5 : α5) (a6 : α6) (h : p a0 a1 a2 a3 a4 a5 a6)
inductive Ex8 {α0 α1 α2 α3 α4 α5 α6 α7 : Type} (p : α0 → α1 → α2 → α3 → α4 → α5 → α6 → α7 → Prop) : Prop
  | mk (a0 : α0) (a1 : α1) (a2 : α2) (a3 : α3) (a4 : α4) (a5 : α5) (a6 : α6) (a7 : α7) (h : p a0 a1 a2 a3 a4 a5 a6 a7)
inductive Ex9 {α0 α1 α2 α3 α4 α5 α6 α7 α8 : Type} (p : α0 → α1 → α2 → α3 → α4 → α5 → α6 → α7 → α8 → Prop) : Prop
  | mk (a0 : α0) (a1 : α1) (a2 : α2) (a3 : α3) (a4 : α4) (a5 : α5) (a6 : α6) (a7 : α7) (a8 : α8) (h : p a0 a1 a2 a3 a4 a5 a6 a7 a8)
inductive Ex10 {α0 α1 α2 α3 α4 α5 α6 α7 α8 α9 : Type} (p : α0 → α1 → α2 → α3 → α4 → α5 → α6 → α7 → α8 → α9 → Prop) : Prop
  | mk (a0 : α0) (a1 : α1) (a2 : α2) (a3 : α3) (a4 : α4) (a5 : α5) (a6 : α6) (a7 : α7) (a8 : α8) (a9 : α9) (h : p a0 a1 a2 a3 a4 a5 a6 a7 a8 a9)
inductive Ex11 {α0 α1 α2 α3 α4 α5 α6 α7 α8 α9 α10 : Type} (p : α0 → α1 → α2 → α3 → α4 → α5 → α6 → α7 → α8 → α9 → α10 → Prop) : Prop
  | mk (a0 : α0) (a1 : α1) (a2 : α2) (a3 : α3) (a4 : α4) (a5 : α5) (a6 : α6) (a7 : α7) (a8 : α8) (a9 : α9) (a10 : α10) (h : p a0 a1 a2 a3 a4 a5 a6 a7 a8 a9 a10)
end L2
set_option genSizeOf true
set_option genInjectivity true
local macro_rules | `(tactic| trivial) => `(tactic| first | lia | omega)
namespace L2
open PySem PySem.Spec PyProof.Rows
abbrev Key := Sum Int Str
def keyIs : Key → Value → Bool
  | .inl k, v => Value.isInt k v
  | .inr x, v => Value.isStrOf x v
def keyH (w : World) : Key → Int
  | .inl k => hashInt k
  | .inr x => hashStr w x
theorem keyIs_shape : ∀ {k : Key} {v : Value}, keyIs k v = true → (Ex2 fun i t => k = Sum.inl i ∧ v = Value.int i t) ∨ (Ex2 fun x t => k = Sum.inr x ∧ v = Value.str x t)
  | .inl i, v, h => by
    obtain ⟨t, e⟩ := Value.isInt_shape (k := i) (v := v) h
    exact .inl ⟨i, t, rfl, e⟩
  | .inr x, v, h => by
    obtain ⟨t, e⟩ := Value.isStrOf_shape (x := x) (v := v) h
    exact .inr ⟨x, t, rfl, e⟩
theorem keyIs_int (i : Int) (t : Tok) : keyIs (.inl i) (.int i t) = true := by simp [keyIs, Value.isInt]
theorem keyIs_str (x : Str) (t : Tok) : keyIs (.inr x) (.str x t) = true := by simp [keyIs, Value.isStrOf]
theorem key_ll (a b : Int) : decide ((Sum.inl a : Key) = Sum.inl b) = (a == b) := by
  by_cases e : a = b
  · subst e; simp
  · have h : ¬ (Sum.inl a : Key) = Sum.inl b := fun q => e (Sum.inl.inj q)
    rw [decide_eq_false h]
    exact (beq_eq_false_iff_ne.mpr e).symm
theorem key_rr (a b : Str) : decide ((Sum.inr a : Key) = Sum.inr b) = decide (a = b) := by
  by_cases e : a = b
  · subst e; simp
  · have h : ¬ (Sum.inr a : Key) = Sum.inr b := fun q => e (Sum.inr.inj q)
    rw [decide_eq_false h, decide_eq_false e]
theorem key_lr (a : Int) (b : Str) : decide ((Sum.inl a : Key) = Sum.inr b) = false := decide_eq_false (fun q => nomatch q)
theorem key_rl (a : Str) (b : Int) : decide ((Sum.inr a : Key) = Sum.inl b) = false := decide_eq_false (fun q => nomatch q)
def mixKind (prog : Program) (w : World) : PySem.KeyKind prog w Key where
  is := keyIs
  hash := keyH w
  inj := fun v a b ha hb => by
    rcases keyIs_shape ha with ⟨i, t, rfl, rfl⟩ | ⟨x, t, rfl, rfl⟩
    · rcases keyIs_shape hb with ⟨j, u, rfl, e⟩ | ⟨y, u, rfl, e⟩
      · injection e with e1 _; rw [e1]
      · exact nomatch e
    · rcases keyIs_shape hb with ⟨j, u, rfl, e⟩ | ⟨y, u, rfl, e⟩
      · exact nomatch e
      · injection e with e1 _; rw [e1]
  byValue := fun k v h => by
    rcases keyIs_shape h with ⟨i, t, rfl, rfl⟩ | ⟨x, t, rfl, rfl⟩ <;> rfl
  pyHash := fun hv h => by
    rcases keyIs_shape hv with ⟨i, t, rfl, rfl⟩ | ⟨x, t, rfl, rfl⟩
    · exact wpAny_pyHash_int h
    · exact wpAny_pyHash_str h
  eqBool := fun hu hv h => by
    rcases keyIs_shape hu with ⟨i, t, rfl, rfl⟩ | ⟨x, t, rfl, rfl⟩
    · rcases keyIs_shape hv with ⟨j, u, rfl, rfl⟩ | ⟨y, u, rfl, rfl⟩
      · rw [key_ll] at h; exact wpAny_eqBool_int h
      · rw [key_lr] at h; exact SeqAt.EqAt.int_str i t y u _ _ _ _ h
    · rcases keyIs_shape hv with ⟨j, u, rfl, rfl⟩ | ⟨y, u, rfl, rfl⟩
      · rw [key_rl] at h; exact SeqAt.EqAt.str_int x t j u _ _ _ _ h
      · rw [key_rr] at h; exact wpAny_eqBool_str h
  «strs» := fun k x t v h => by
    rcases keyIs_shape h with ⟨i, u, rfl, e⟩ | ⟨y, u, rfl, e⟩
    · exact nomatch e
    · injection e with e1 _
      subst e1
      cases v <;> rfl
end L2
namespace L2
open PySem PySem.Spec PyProof.Rows
inductive V where
  | non | bl (b : Bool) | int (i : Int) | str (x : Str) | byt (b : Array UInt8) | flt (b : UInt64) | ref (a : Addr) | ty (n : String)
  deriving DecidableEq
def RelV : V → Value → Prop
  | .non, u => u = Value.none
  | .bl b, u => u = Value.bool b
  | .int i, u => ∃ t, u = Value.int i t
  | .str x, u => ∃ t, u = Value.str x t
  | .byt b, u => ∃ t, u = Value.bytes b t
  | .flt b, u => ∃ t, u = Value.float b t
  | .ref a, u => u = Value.ref a
  | .ty n, u => u = Value.type n
abbrev Vals : List V → List Value → Prop := Paired RelV
theorem Vals.length {xs : List V} {us : List Value} (r : Vals xs us) : xs.length = us.length := Paired.length r
theorem Vals.get : ∀ {xs : List V} {us : List Value} {i : Nat} {x : V}, Vals xs us → xs[i]? = some x → ∃ u, us[i]? = some u ∧ RelV x u
  | _, _, _, _, .nil, e => by simp at e
  | _, _, 0, _, .cons r _, e => by simp at e; subst e; exact ⟨_, rfl, r⟩
  | _, _, i + 1, x, .cons _ t, e => by
    obtain ⟨u, h1, h2⟩ := Vals.get (i := i) (x := x) t (by simpa using e)
    exact ⟨u, by simpa using h1, h2⟩
theorem Vals.set {x : V} {u : Value} (r : RelV x u) : ∀ {xs : List V} {us : List Value} (i : Nat), Vals xs us → Vals (xs.set i x) (us.set i u)
  | _, _, _, .nil => .nil
  | _, _, 0, .cons _ t => .cons r t
  | _, _, i + 1, .cons q t => .cons q (Vals.set r i t)
theorem Vals.append : ∀ {xs ys : List V} {us ws : List Value}, Vals xs us → Vals ys ws → Vals (xs ++ ys) (us ++ ws)
  | _, _, _, _, .nil, s => s
  | _, _, _, _, .cons r t, s => .cons r (Vals.append t s)
theorem Vals.take : ∀ {xs : List V} {us : List Value} (n : Nat), Vals xs us → Vals (xs.take n) (us.take n)
  | _, _, 0, _ => .nil
  | _, _, _ + 1, .nil => .nil
  | _, _, n + 1, .cons r t => .cons r (Vals.take n t)
theorem Vals.drop : ∀ {xs : List V} {us : List Value} (n : Nat), Vals xs us → Vals (xs.drop n) (us.drop n)
  | _, _, 0, r => r
  | _, _, _ + 1, .nil => .nil
  | _, _, n + 1, .cons _ t => Vals.drop n t
def RelO : Option V → Option Value → Prop
  | some v, some u => RelV v u
  | none, none => True
  | _, _ => False
def KV {κ : Type} : List (κ × V) → List (κ × Value) → Prop := Paired fun (p : κ × V) (q : κ × Value) => p.1 = q.1 ∧ RelV p.2 q.2
def kV : Key → V
  | .inl i => .int i
  | .inr x => .str x
inductive HO where
    | lst (xs : List V)
    | tup (xs : List V)
    | dK (kvs : List (Key × V)) | dT (kvs : List (List Key × V))
    | set (S : Int → Bool) (n : Nat)
    | ins (C dx : Addr) (fs : List (Str × V))
    | own (x : Addr)
    | xd (fs : List (Str × V))
    | met (f x : Addr)
    | rng (lo hi : Int)
    | frz (o : Obj) (u : HO)
    | tbl (ps : Array Value)
    | ext (φ : Heap → Prop)
abbrev Hp := Addr → Option HO
def upd (H : Hp) (a : Addr) (o : HO) : Hp := fun b => if b = a then some o else H b
theorem upd_same {H : Hp} {a : Addr} {o : HO} : upd H a o a = some o := by unfold upd; rw [if_pos rfl]
theorem upd_ne {H : Hp} {a b : Addr} {o : HO} (h : b ≠ a) : upd H a o b = H b := by unfold upd; rw [if_neg h]
theorem ne_of {H : Hp} {a b : Addr} {o u : HO} (h : H a = some o) (h' : H b = some u) (d : o ≠ u) : a ≠ b := by
  intro e; subst e; rw [h] at h'; exact d (Option.some.inj h')
theorem ne_of_none {H : Hp} {a b : Addr} {o : HO} (h : H a = some o) (h' : H b = none) : a ≠ b := by
  intro e; subst e; rw [h] at h'; cases h'
section
variable (P : Program) (w : World)
def ObjOk (H : Hp) (h : Heap) (a : Addr) : HO → Prop
  | .lst xs => xs.length ≤ sizeLine ∧ Ex2 fun (its : List Value) (n : Nat) => Vals xs its ∧ h.get? a = some { cls := .type "list", data := .seq its.toArray n }
  | .tup xs => xs.length ≤ sizeLine ∧ ∃ its : List Value, Vals xs its ∧ IsTup h a its.toArray ∧ ∃ o, h.get? a = some o ∧ o.dict = none
  | .dK kvs => kvs.length ≤ sizeLine ∧ (a == sysModules) = false ∧ ∃ vs, KV kvs vs ∧ h.DictOf (mixKind P w) a vs
  | .dT kvs => kvs.length ≤ sizeLine ∧ (a == sysModules) = false ∧ ∃ xs : List (List Key × Addr × Value),
      Paired (fun (p : List Key × V) (q : List Key × Addr × Value) => p.1 = q.1 ∧ H q.2.1 = some (.tup (p.1.map kV)) ∧ RelV p.2 q.2.2) kvs xs ∧
      Ex3 fun o es ep => h.get? a = some o ∧ o.ExactDict ∧ o.data = .dict es ep ∧ es.toList = xs.map (entryOfKey (tupleKind (mixKind P w))) ∧ (xs.map (·.1)).Nodup
  | .set S n => h.SetOf (intKind P w) a S n
  | .ins C dx fs => H dx = some (.own a) ∧ fs.length ≤ 1000 ∧ dx ≠ a ∧ h.get? a = some (PySem.W.instObj C dx) ∧
      ∃ mA, h.Ns1 dx mA ∧ (∀ f, RelO (fs.lookup f) (mA f)) ∧ PySem.Within mA (fs.map (·.1))
  | .own _ => ∃ o, h.get? a = some o
  | .xd fs => ∃ mA, h.Ns1 a mA ∧ ∀ f, RelO (fs.lookup f) (mA f)
  | .rng lo hi => Ex3 fun t u v => h.get? a = some { cls := .type "range", data := .fields #[.int lo t, .int hi u, .int 1 v] }
  | .frz o u => h.get? a = some o ∧ ObjOk H h a u
  | .tbl ps => h.get? a = some { cls := .none, data := .fields ps }
  | .met f x => h.get? a = some (PySem.W.methodObj (.ref f) (.ref x))
  | .ext φ => φ h ∧ (∃ o, h.get? a = some o) ∧ ∀ h1 h2 : Heap, φ h1 → (∀ o, h1.get? a = some o → h2.get? a = some o) → φ h2
def HOk (H : Hp) (h : Heap) : Prop := ∀ a o, H a = some o → ObjOk P w H h a o
end
section
variable {P : Program} {w : World} {H H' : Hp} {h h' : Heap} {a : Addr} {o : HO}
theorem ObjOk.lt (x : ObjOk P w H h a o) : a < h.objs.size := by
  cases o with
  | lst xs => obtain ⟨_, _, _, _, e⟩ := x; exact Heap.lt_size e
  | tup xs => obtain ⟨_, _, _, p, _⟩ := x; exact p.lt
  | dK kvs => obtain ⟨_, _, _, _, o, _, _, e, _⟩ := x; exact Heap.lt_size e
  | dT kvs => obtain ⟨_, _, _, _, o, _, _, e, _⟩ := x; exact Heap.lt_size e
  | set S n => obtain ⟨o, _, _, _, e, _⟩ := x; exact Heap.lt_size e
  | ins C dx fs => obtain ⟨_, _, _, e, _⟩ := x; exact Heap.lt_size e
  | own y => obtain ⟨_, e⟩ := x; exact Heap.lt_size e
  | xd fs => obtain ⟨_, ⟨_, _, _, e, _⟩, _⟩ := x; exact Heap.lt_size e
  | rng lo hi => obtain ⟨_, _, _, e⟩ := x; exact Heap.lt_size e
  | frz ob u => obtain ⟨e, _⟩ := x; exact Heap.lt_size e
  | tbl ps => exact Heap.lt_size (show h.get? a = some _ from x)
  | met f y => exact Heap.lt_size (show h.get? a = some _ from x)
  | ext φ => obtain ⟨_, ⟨_, e⟩, _⟩ := x; exact Heap.lt_size e
theorem Paired.mapP {α β : Type} {F G : α → β → Prop} : ∀ {l₁ : List α} {l₂ : List β}, Paired F l₁ l₂ → (∀ a b, F a b → G a b) → Paired G l₁ l₂
  | _, _, .nil, _ => .nil
  | _, _, .cons r t, f => .cons (f _ _ r) (Paired.mapP t f)
theorem ObjOk.stay (x : ObjOk P w H h a o) (k : ∀ b u, (b = a ∨ H b = some (.own a)) → h.get? b = some u → h'.get? b = some u)
    (ho : ∀ b, H b = some (.own a) → H' b = some (.own a)) (ht : ∀ b xs, H b = some (.tup xs) → H' b = some (.tup xs)) : ObjOk P w H' h' a o := by
  induction o with
  | lst xs => obtain ⟨z, its, n, r, e⟩ := x; exact ⟨z, its, n, r, k _ _ (.inl rfl) e⟩
  | tup xs => obtain ⟨z, its, r, ⟨ob, e, c⟩, od, e', c'⟩ := x; exact ⟨z, its, r, ⟨ob, k _ _ (.inl rfl) e, c⟩, od, k _ _ (.inl rfl) e', c'⟩
  | dK kvs => obtain ⟨z, y, vs, r, ob, es, ep, e, c⟩ := x; exact ⟨z, y, vs, r, ob, es, ep, k _ _ (.inl rfl) e, c⟩
  | dT kvs =>
    obtain ⟨z, y, xs, r, ob, es, ep, e, c⟩ := x
    exact ⟨z, y, xs, Paired.mapP r fun p q z => ⟨z.1, ht _ _ z.2.1, z.2.2⟩, ob, es, ep, k _ _ (.inl rfl) e, c⟩
  | set S n => obtain ⟨ob, es, ep, t, e, c⟩ := x; exact ⟨ob, es, ep, t, k _ _ (.inl rfl) e, c⟩
  | ins C dx fs =>
    obtain ⟨d, z, ne, e, mA, ⟨od, es, ep, e2, c⟩, r⟩ := x
    exact ⟨ho _ d, z, ne, k _ _ (.inl rfl) e, mA, ⟨od, es, ep, k _ _ (.inr d) e2, c⟩, r⟩
  | own y => obtain ⟨ob, e⟩ := x; exact ⟨ob, k _ _ (.inl rfl) e⟩
  | xd fs => obtain ⟨mA, ⟨od, es, ep, e, c⟩, r⟩ := x; exact ⟨mA, ⟨od, es, ep, k _ _ (.inl rfl) e, c⟩, r⟩
  | rng lo hi => obtain ⟨t, u, v, e⟩ := x; exact ⟨t, u, v, k _ _ (.inl rfl) e⟩
  | frz ob u ih => obtain ⟨e, q⟩ := x; exact ⟨k _ _ (.inl rfl) e, ih q⟩
  | tbl ps =>
    have e : h.get? a = some { cls := .none, data := .fields ps } := x
    show h'.get? a = some { cls := .none, data := .fields ps }
    exact k a _ (.inl rfl) e
  | met f y =>
    have e : h.get? a = some (PySem.W.methodObj (.ref f) (.ref y)) := x
    show h'.get? a = some (PySem.W.methodObj (.ref f) (.ref y))
    exact k a _ (.inl rfl) e
  | ext φ => obtain ⟨p, ⟨o, e⟩, st⟩ := x; exact ⟨st _ _ p fun o q => k _ _ (.inl rfl) q, ⟨o, k _ _ (.inl rfl) e⟩, st⟩
theorem HOk.lt (x : HOk P w H h) (e : H a = some o) : a < h.objs.size := (x a o e).lt
theorem HOk.fresh (x : HOk P w H h) (e : h.objs.size ≤ a) : H a = none := by
  cases q : H a with
  | none => rfl
  | some u => exact absurd (Nat.lt_of_lt_of_le (x.lt q) e) (Nat.lt_irrefl _)
theorem HOk.kept (x : HOk P w H h) (k : ∀ b u, h.get? b = some u → h'.get? b = some u) : HOk P w H h' := fun a o e =>
  (x a o e).stay (fun b u _ q => k b u q) (fun _ q => q) fun _ _ q => q
theorem HOk.laid (x : HOk P w H h) (k : ∀ b u, h.get? b = some u → h'.get? b = some u) (hp : h.objs.size ≤ a) (new : ObjOk P w (upd H a o) h' a o) : HOk P w (upd H a o) h' := fun b u e => by
  have hn := x.fresh hp
  by_cases hb : b = a
  · subst hb; rw [upd_same] at e; cases e; exact new
  · rw [upd_ne hb] at e
    exact (x b u e).stay (fun c v _ q => k c v q) (fun c q => by rw [upd_ne (ne_of_none q hn)]; exact q) fun c xs q => by rw [upd_ne (ne_of_none q hn)]; exact q
end
def Rd (H : Hp) (a : Addr) (u : HO) : Prop := H a = some u ∨ ∃ o, H a = some (.frz o u)
theorem Rd.ok {P : Program} {w : World} {H : Hp} {h : Heap} {a : Addr} {u : HO} (r : Rd H a u) (x : HOk P w H h) : ObjOk P w H h a u := by
  rcases r with r | ⟨o, r⟩
  · exact x a u r
  · obtain ⟨_, q⟩ := x a _ r
    exact q
def Mut : Option HO → Prop
  | some (.lst _) => True
  | some (.dK _) => True
  | some (.dT _) => True
  | some (.set _ _) => True
  | some (.ins _ _ _) => True
  | some (.ext _) => True
  | _ => False
section
variable {P : Program} {w : World} {H : Hp} {h h' : Heap} {x e : Addr} {o' : HO}
theorem HOk.write (ok : HOk P w H h) (mu : Mut (H x)) (he : e = x ∨ H e = some (.own x)) (k : ∀ b u, b ≠ e → h.get? b = some u → h'.get? b = some u) (heo : ∃ u, h'.get? e = some u)
    (new : ObjOk P w (upd H x o') h' x o') : HOk P w (upd H x o') h' := fun b u q => by
  have nown : ∀ c y, H c = some (.own y) → c ≠ x := fun c y r z => by subst z; rw [r] at mu; exact mu
  have ntup : ∀ c xs, H c = some (.tup xs) → c ≠ x := fun c xs r z => by subst z; rw [r] at mu; exact mu
  by_cases hb : b = x
  · subst hb; rw [upd_same] at q; cases q; exact new
  · rw [upd_ne hb] at q
    by_cases hbe : b = e
    · have q' : H b = some (.own x) := by
        rcases he with z | z
        · exact absurd (hbe.trans z) hb
        · rw [hbe]; exact z
      rw [q] at q'; cases q'
      obtain ⟨v, hv⟩ := heo
      exact ⟨v, by rw [hbe]; exact hv⟩
    · refine (ok b u q).stay (fun c v hc r => k c v ?_ r) (fun c r => by rw [upd_ne (nown c b r)]; exact r) fun c xs r => by rw [upd_ne (ntup c xs r)]; exact r
      rcases hc with rfl | hc
      · exact hbe
      · rintro rfl
        rcases he with z | z
        · exact nown c b hc z
        · rw [hc] at z; cases z; exact hb rfl
end
structure Un (fs ex : List Addr) (H H' : Hp) (h h' : Heap) : Prop where
  keep : ∀ b o, h.get? b = some o → H b = none → b ∉ fs → b ∉ ex → h'.get? b = some o
  slot : ∀ b o, h.get? b = some o → H b = none → b ∈ fs → b ∉ ex → ∃ sl, h'.get? b = some { o with slots := sl }
  free : ∀ b o, h.get? b = some o → H b = none → b ∉ ex → H' b = none
  there : ∀ b o, h.get? b = some o → b ∉ ex → ∃ o', h'.get? b = some o'
  tups : ∀ b xs, H b = some (.tup xs) → H' b = some (.tup xs)
  frzs : ∀ b o u, H b = some (.frz o u) → H' b = some (.frz o u)
  tbls : ∀ b ps, H b = some (.tbl ps) → ∃ more, H' b = some (.tbl (ps ++ more))
section
variable {fs fs' ex ex' : List Addr} {H H1 H2 : Hp} {h h1 h2 h' : Heap} {a x e : Addr} {o : HO}
theorem Un.any (u : Un fs ex H H1 h h1) {b : Addr} {ob : Obj} (q : h.get? b = some ob) (n : H b = none) (hx : b ∉ ex) : ∃ sl, h1.get? b = some { ob with slots := sl } := by
  by_cases hb : b ∈ fs
  · exact u.slot b ob q n hb hx
  · exact ⟨ob.slots, u.keep b ob q n hb hx⟩
theorem Un.kept (k : ∀ b u, h.get? b = some u → h'.get? b = some u) : Un fs ex H H h h' :=
  ⟨fun b ob q _ _ _ => k b ob q, fun b ob q _ _ _ => ⟨ob.slots, k b ob q⟩, fun _ _ _ n _ => n, fun b ob q _ => ⟨ob, k b ob q⟩, fun _ _ q => q, fun _ _ _ q => q, fun _ ps q => ⟨#[], by rw [q]; simp⟩⟩
theorem Un.refl : Un fs ex H H h h := Un.kept fun _ _ q => q
theorem Un.laid (k : ∀ b u, h.get? b = some u → h'.get? b = some u) (hp : h.objs.size ≤ a) (hn : H a = none) : Un fs ex H (upd H a o) h h' where
  keep := fun b u q _ _ _ => k b u q
  slot := fun b u q _ _ _ => ⟨u.slots, k b u q⟩
  free := fun b u q n _ => by rw [upd_ne (Nat.ne_of_lt (Nat.lt_of_lt_of_le (Heap.lt_size q) hp))]; exact n
  there := fun b u q _ => ⟨u, k b u q⟩
  tups := fun b xs q => by rw [upd_ne (ne_of_none q hn)]; exact q
  frzs := fun b u xs q => by rw [upd_ne (ne_of_none q hn)]; exact q
  tbls := fun b ps q => ⟨#[], by rw [upd_ne (ne_of_none q hn), q]; simp⟩
theorem Un.write (mu : Mut (H x)) (he : e = x ∨ H e = some (.own x)) (k : ∀ b u, b ≠ e → h.get? b = some u → h'.get? b = some u) (heo : ∃ u, h'.get? e = some u) : Un fs ex H (upd H x o) h h' := by
  have hx : ∀ b, H b = none → b ≠ x := fun b n z => by subst z; rw [n] at mu; exact mu
  have hb : ∀ b, H b = none → b ≠ e := fun b n z => by
    subst z
    rcases he with r | r
    · exact hx b n r
    · rw [n] at r; cases r
  have hm : ∀ b u, H b = some u → ¬ Mut (some u) → b ≠ x := fun b u q nm z => by subst z; rw [q] at mu; exact nm mu
  refine ⟨fun b u q n _ _ => k b u (hb b n) q, fun b u q n _ _ => ⟨u.slots, k b u (hb b n) q⟩, fun b u q n _ => by rw [upd_ne (hx b n)]; exact n, fun b u q _ => ?_,
    fun b xs q => by rw [upd_ne (hm b _ q fun z => z)]; exact q, fun b u xs q => by rw [upd_ne (hm b _ q fun z => z)]; exact q, fun b ps q => ⟨#[], by rw [upd_ne (hm b _ q fun z => z), q]; simp⟩⟩
  by_cases hbe : b = e
  · subst hbe; exact heo
  · exact ⟨u, k b u hbe q⟩
end
def trk (h : Heap) (H : Hp) : List Addr := (List.range h.objs.size).filter fun a => (H a).isSome
def hidT (h : Heap) (H : Hp) : Heap := PySem.W.hideAll h (trk h H)
theorem hidT_size (h : Heap) (H : Hp) : (hidT h H).objs.size = h.objs.size := PySem.W.hideAll_size _ _
theorem hidT_get {h : Heap} {H : Hp} {b : Addr} {o : Obj} (e : h.get? b = some o) (n : H b = none) : (hidT h H).get? b = some o :=
  PySem.W.hideAll_get _ e fun hm => by
    have q : (H b).isSome = true := (List.mem_filter.mp hm).2
    rw [n] at q; simp at q
theorem of_hidT {h : Heap} {H : Hp} {b : Addr} {o : Obj} (e : (hidT h H).get? b = some o) : h.get? b = some o ∧ H b = none := by
  have e' : h.get? b = some o := PySem.W.of_hideAll (trk h H) e
  refine ⟨e', ?_⟩
  cases q : H b with
  | none => rfl
  | some x =>
    have hm : b ∈ trk h H := List.mem_filter.mpr ⟨List.mem_range.mpr (Heap.lt_size e'), by simp [q]⟩
    have z : (hidT h H).get? b = none := PySem.W.hideAll_none (trk h H) hm
    rw [z] at e; cases e
end L2
namespace L2
open PySem PySem.Spec PyProof.Rows
structure Mod (K : PySem.W.Frag) (mg : Str → Option Value) (base : Heap) : Prop where
  kin : K.In base
  glob : base.Ns mainGlobals mg
  blt : ∃ mb, base.Ns builtinsNs mb ∧ ∀ x : Str, x ≠ "__name__" → mb x = bootBuiltins x
  nolimit : base.NoLimit
structure Cx where
  prog : Program
  w : World
  K : PySem.W.Frag
  mg : Str → Option Value
  base : Heap
  A : Around
  N : List Str
  s₀ : Shared
  H₀ : Hp
  env : Env
  outer : List Env
  stack : List Env
  ex : List Addr
  fn : Str → Bool
  calm : Bool
  pn : List (Addr × Obj)
  xe : Value → Shared → Prop
def frs (l : List Env) : List Addr := l.filterMap (·.frame)
abbrev Cx.fs (X : Cx) : List Addr := frs X.outer
def Vis (sc : Scope) (x : Str) : Prop := sc.names.lookup x = some .local ∨ sc.names.lookup x = some .cell ∨ sc.names.lookup x = some .free
def Loc (sc : Scope) (x : Str) : Prop := sc.names.lookup x = some .local ∨ sc.names.lookup x = some .cell
def Look (env : Env) (h : Heap) (m : Str → Option Value) (x : Str) (u : Value) : Prop :=
  (env.kindOf x = some .local ∧ m x = some u) ∨ ((env.kindOf x = some .cell ∨ env.kindOf x = some .free) ∧ ∃ c, env.cells.lookup x = some c ∧ h.IsCell c (some u))
structure Cx.Ok (X : Cx) : Prop where
  mod : Mod X.K X.mg X.base
  kind : X.env.scope.kind = .function
  glob : X.env.globals = mainGlobals
  blt : X.env.builtins = builtinsNs
  above : X.s₀.heap.objs.size ≤ X.env.locals
  inj : ∀ x y c, X.env.cells.lookup x = some c → X.env.cells.lookup y = some c → x = y
  has : ∀ x, (X.env.kindOf x = some .cell ∨ X.env.kindOf x = some .free) → ∃ c, X.env.cells.lookup x = some c
  cab : ∀ x c, X.fn x = true → X.env.cells.lookup x = some c → X.s₀.heap.objs.size ≤ c
  hd : X.calm = true → X.A.handled = none
  frames : X.A.frames = some X.stack
  stk : X.stack = X.outer ∨ (X.stack = X.env :: X.outer ∧ X.env.frame = some X.env.locals)
  exf : ∀ b ∈ X.ex, b ≠ X.env.locals ∧ ∀ x c, X.env.cells.lookup x = some c → c ≠ b
  bs : ∀ b o, X.base.get? b = some o → X.s₀.heap.get? b = some o ∧ X.H₀ b = none
  bsz : X.base.objs.size ≤ X.s₀.heap.objs.size
  noex : ∀ b o, X.base.get? b = some o → b ∉ X.ex
  exfs : ∀ b ∈ X.ex, b ∉ X.fs
  funs : X.s₀.heap.FunFrames X.base X.outer
  frf : ∀ b ∈ X.fs, X.H₀ b = none
structure Inv (X : Cx) (pins : List (Addr × Obj)) (σ : List (Option V)) (H : Hp) (s : Shared) : Prop where
  ok : X.Ok
  os : s.os = X.s₀.os
  bare : AllBare s.gens
  base : Un X.fs X.ex X.H₀ H X.s₀.heap s.heap
  loc : ∃ m, s.heap.Ns X.env.locals m ∧ ∀ (i : Nat) (x : Str) (v : V), X.N[i]? = some x → σ[i]? = some (some v) → Vis X.env.scope x → ∃ u, RelV v u ∧ Look X.env s.heap m x u
  cell : ∀ x c, X.env.cells.lookup x = some c → ∃ v, s.heap.IsCell c v
  free : H X.env.locals = none
  freeC : ∀ x c, X.env.cells.lookup x = some c → H c = none
  pin : ∀ p ∈ X.pn ++ pins, s.heap.get? p.1 = some p.2 ∧ H p.1 = none ∧ p.1 ≠ X.env.locals ∧ p.1 ∉ X.fs ∧ ∀ v, p.2.data ≠ .cell v
  hok : HOk X.prog X.w H s.heap
  len : σ.length = X.N.length
section
variable {X : Cx} {pins : List (Addr × Obj)} {σ : List (Option V)} {H H' : Hp} {s : Shared} {h' : Heap}
theorem Cx.Ok.nofr (ok : X.Ok) {b : Addr} {o : Obj} (e : X.base.get? b = some o) : b ∉ X.fs := fun hb => by
  have := (ok.funs.mem hb).1
  rw [e] at this; cases this
theorem Inv.bs (I : Inv X pins σ H s) : ∀ b o, X.base.get? b = some o → s.heap.get? b = some o ∧ H b = none := fun b o e =>
  ⟨I.base.keep b o (I.ok.bs b o e).1 (I.ok.bs b o e).2 (I.ok.nofr e) (I.ok.noex b o e), I.base.free b o (I.ok.bs b o e).1 (I.ok.bs b o e).2 (I.ok.noex b o e)⟩
theorem Inv.bk (I : Inv X pins σ H s) : ∀ b o, X.base.get? b = some o → s.heap.get? b = some o := fun b o e => (I.bs b o e).1
theorem Inv.mod (I : Inv X pins σ H s) : Mod X.K X.mg X.base := I.ok.mod
theorem Inv.kIn (I : Inv X pins σ H s) : X.K.In s.heap := I.ok.mod.kin.keeps I.bk
theorem Inv.lt (I : Inv X pins σ H s) : X.env.locals < s.heap.objs.size := let ⟨_, hn, _⟩ := I.loc; hn.lt
theorem Inv.sz (I : Inv X pins σ H s) : X.s₀.heap.objs.size ≤ s.heap.objs.size := Nat.le_trans I.ok.above (Nat.le_of_lt I.lt)
theorem Inv.nofs (I : Inv X pins σ H s) {a : Addr} (h : s.heap.objs.size ≤ a) : a ∉ X.fs := fun hb => by
  obtain ⟨_, o, ho, _⟩ := I.ok.funs.mem hb
  exact absurd (Nat.lt_of_lt_of_le (Heap.lt_size ho) (Nat.le_trans I.sz h)) (Nat.lt_irrefl _)
theorem Inv.cne (I : Inv X pins σ H s) : ∀ x c, X.env.cells.lookup x = some c → c ≠ X.env.locals := fun x c e z => by
  obtain ⟨v, o, ho, hd⟩ := I.cell x c e
  obtain ⟨m, ⟨o', es, ep, ho', hd', _⟩, _⟩ := I.loc
  rw [z, ho'] at ho; cases ho; rw [hd'] at hd; cases hd
theorem Inv.funs (I : Inv X pins σ H s) : s.heap.FunFrames X.base X.outer := by
  have all : ∀ (l : List Env), (∀ b ∈ frs l, b ∈ X.fs) → X.s₀.heap.FunFrames X.base l → s.heap.FunFrames X.base l := by
    intro l
    induction l with
    | nil => intro _ _; trivial
    | cons env r ih =>
      intro hs hl
      obtain ⟨hk, ⟨L, o, hf, hn, ho, hd⟩, hr⟩ := hl
      have hL : L ∈ X.fs := hs L (by unfold frs; rw [List.filterMap_cons, hf]; exact List.mem_cons_self)
      obtain ⟨sl, e⟩ := I.base.slot L o ho (I.ok.frf L hL) hL fun z => I.ok.exfs L z hL
      exact ⟨hk, ⟨L, _, hf, hn, e, hd⟩, ih (fun b hb => hs b (by unfold frs; rw [List.filterMap_cons, hf]; exact List.mem_cons_of_mem _ hb)) hr⟩
  exact all X.outer (fun _ hb => hb) I.ok.funs
theorem Inv.stack (I : Inv X pins σ H s) : s.heap.FunFrames X.base X.stack := by
  rcases I.ok.stk with e | ⟨e, hf⟩
  · rw [e]; exact I.funs
  · rw [e]
    obtain ⟨m, hn, _⟩ := I.loc
    refine .cons (by rw [I.ok.kind]; decide) hf hn ?_ I.funs
    exact Heap.get?_none_of_le (Nat.le_trans I.ok.bsz I.ok.above)
theorem Inv.stkSub (I : Inv X pins σ H s) : ∀ b ∈ frs X.stack, b ∈ X.env.locals :: X.fs := fun b hb => by
  rcases I.ok.stk with e | ⟨e, hf⟩
  · rw [e] at hb; exact List.mem_cons_of_mem _ hb
  · rw [e] at hb
    unfold frs at hb
    rw [List.filterMap_cons, hf] at hb
    exact hb
theorem Inv.stkFree (I : Inv X pins σ H s) : ∀ b ∈ frs X.stack, H b = none := fun b hb => by
  rcases List.mem_cons.mp (I.stkSub b hb) with e | hb
  · rw [e]; exact I.free
  · obtain ⟨_, o, ho, _⟩ := I.ok.funs.mem hb
    exact I.base.free b o ho (I.ok.frf b hb) fun z => I.ok.exfs b z hb
theorem Inv.step {g' : Array GenState} {t' : Nat} {d' : Drawn} {ch : List Addr} (I : Inv X pins σ H s)
    (hch : ∀ b ∈ ch, (b ∈ X.ex ∨ X.s₀.heap.objs.size ≤ b) ∧ b ≠ X.env.locals ∧ (∀ x c, X.env.cells.lookup x = some c → c ≠ b) ∧ ∀ p ∈ X.pn ++ pins, p.1 ≠ b)
    (keep : ∀ b o, b ≠ X.env.locals → b ∉ X.fs → b ∉ ch → s.heap.get? b = some o → H b = none → h'.get? b = some o)
    (slot : ∀ b o, b ≠ X.env.locals → b ∈ X.fs → b ∉ ch → s.heap.get? b = some o → H b = none → ∃ sl, h'.get? b = some { o with slots := sl }) (free : ∀ b o, b ∉ ch → s.heap.get? b = some o → H b = none → H' b = none)
    (there : ∀ b o, b ∉ ch → s.heap.get? b = some o → ∃ o', h'.get? b = some o')
    (tups : ∀ b xs, H b = some (.tup xs) → H' b = some (.tup xs)) (frzs : ∀ b o u, H b = some (.frz o u) → H' b = some (.frz o u)) (tbls : ∀ b ps, H b = some (.tbl ps) → ∃ more, H' b = some (.tbl (ps ++ more)))
    (ns : ∀ m, s.heap.Ns X.env.locals m → h'.Ns X.env.locals m) (hok : HOk X.prog X.w H' h') (hg : AllBare g') :
    Inv X pins σ H' { s with heap := h', gens := g', drawn := d', toks := t' } := by
  have neL : ∀ b o, X.s₀.heap.get? b = some o → b ≠ X.env.locals := fun b o e => Nat.ne_of_lt (Nat.lt_of_lt_of_le (Heap.lt_size e) I.ok.above)
  have neC : ∀ b o, X.s₀.heap.get? b = some o → b ∉ X.ex → b ∉ ch := fun b o e hx hb => by
    rcases (hch b hb).1 with z | z
    · exact hx z
    · exact absurd (Nat.lt_of_lt_of_le (Heap.lt_size e) z) (Nat.lt_irrefl _)
  have cellK : ∀ x c, X.env.cells.lookup x = some c → ∀ v, s.heap.IsCell c v → h'.IsCell c v := fun x c e v ⟨o, ho, hd⟩ => by
    have nch : c ∉ ch := fun z => (hch c z).2.2.1 x c e rfl
    by_cases hc : c ∈ X.fs
    · obtain ⟨sl, q⟩ := slot c o (I.cne x c e) hc nch ho (I.freeC x c e)
      exact ⟨_, q, hd⟩
    · exact ⟨o, keep c o (I.cne x c e) hc nch ho (I.freeC x c e), hd⟩
  refine ⟨I.ok, I.os, hg, ⟨fun b o e n hb hx => ?_, fun b o e n hb hx => ?_, fun b o e n hx => ?_, fun b o e hx => ?_, fun b xs e => tups b xs (I.base.tups b xs e), fun b o xs e => frzs b o xs (I.base.frzs b o xs e), fun b ps e => ?_⟩, ?_, fun x c e => ?_, ?_, fun x c e => ?_, fun p hp => ?_, hok, I.len⟩
  · exact keep b o (neL b o e) hb (neC b o e hx) (I.base.keep b o e n hb hx) (I.base.free b o e n hx)
  · obtain ⟨sl, e1⟩ := I.base.slot b o e n hb hx
    obtain ⟨sl', e2⟩ := slot b _ (neL b o e) hb (neC b o e hx) e1 (I.base.free b o e n hx)
    exact ⟨sl', e2⟩
  · obtain ⟨o', e1⟩ := I.base.there b o e hx
    exact free b o' (neC b o e hx) e1 (I.base.free b o e n hx)
  · obtain ⟨o', e1⟩ := I.base.there b o e hx
    exact there b o' (neC b o e hx) e1
  · obtain ⟨m1, e1⟩ := I.base.tbls b ps e
    obtain ⟨m2, e2⟩ := tbls b _ e1
    exact ⟨m1 ++ m2, by rw [e2, Array.append_assoc]⟩
  · obtain ⟨m, hn, hl⟩ := I.loc
    refine ⟨m, ns m hn, fun i x v e1 e2 e3 => ?_⟩
    obtain ⟨u, r, l⟩ := hl i x v e1 e2 e3
    refine ⟨u, r, ?_⟩
    rcases l with l | ⟨k, c, e, z⟩
    · exact .inl l
    · exact .inr ⟨k, c, e, cellK x c e _ z⟩
  · obtain ⟨v, z⟩ := I.cell x c e
    exact ⟨v, cellK x c e v z⟩
  · obtain ⟨m, ⟨o, _, _, ho, _⟩, _⟩ := I.loc
    exact free _ o (fun z => (hch _ z).2.1 rfl) ho I.free
  · obtain ⟨v, o, ho, hd⟩ := I.cell x c e
    exact free c o (fun z => (hch c z).2.2.1 x c e rfl) ho (I.freeC x c e)
  · obtain ⟨e, n, ne, nf, d⟩ := I.pin p hp
    have nch : p.1 ∉ ch := fun z => (hch p.1 z).2.2.2 p hp rfl
    exact ⟨keep p.1 p.2 ne nf nch e n, free p.1 p.2 nch e n, ne, nf, d⟩
theorem Inv.un {t' : Nat} (I : Inv X pins σ H s) (u : Un X.fs [] H H' s.heap h') (hok : HOk X.prog X.w H' h') : Inv X pins σ H' { s with heap := h', toks := t' } := by
  obtain ⟨m, ⟨o, es, ep, ho, r⟩, _⟩ := id I.loc
  obtain ⟨sl, hL⟩ := u.any ho I.free (by simp)
  exact I.step (g' := s.gens) (d' := s.drawn) (ch := []) (fun _ z => nomatch z) (fun b o _ hb _ e n => u.keep b o e n hb (by simp)) (fun b o _ hb _ e n => u.slot b o e n hb (by simp)) (fun b o _ e n => u.free b o e n (by simp)) (fun b o _ e => u.there b o e (by simp)) u.tups u.frzs u.tbls (fun m' hm => by
    obtain ⟨o', es', ep', ho', r'⟩ := hm
    rw [ho] at ho'; cases ho'
    exact ⟨_, es', ep', hL, r'⟩) hok I.bare
theorem Inv.call {g' : Array GenState} {t' : Nat} {d' : Drawn} {ch : List Addr} (I : Inv X pins σ H s) (u : Un (frs X.stack) ch H H' s.heap h') (hok : HOk X.prog X.w H' h') (hg : AllBare g')
    (hch : ∀ b ∈ ch, (b ∈ X.ex ∨ X.s₀.heap.objs.size ≤ b) ∧ b ≠ X.env.locals ∧ (∀ x c, X.env.cells.lookup x = some c → c ≠ b) ∧ ∀ p ∈ X.pn ++ pins, p.1 ≠ b) :
    Inv X pins σ H' { s with heap := h', gens := g', drawn := d', toks := t' } := by
  obtain ⟨m, ⟨o, es, ep, ho, r⟩, _⟩ := id I.loc
  obtain ⟨sl, hL⟩ := u.any ho I.free fun z => (hch _ z).2.1 rfl
  exact I.step (ch := ch) hch (fun b o hL hb hc e n => u.keep b o e n (fun z => (List.mem_cons.mp (I.stkSub b z)).elim hL hb) hc) (fun b o _ _ hc e n => u.any e n hc) (fun b o hc e n => u.free b o e n hc) (fun b o hc e => u.there b o e hc) u.tups u.frzs u.tbls (fun m' hm => by
    obtain ⟨o', es', ep', ho', r'⟩ := hm
    rw [ho] at ho'; cases ho'
    exact ⟨_, es', ep', hL, r'⟩) hok hg
theorem Inv.turned {t' : Nat} {it : Addr} (I : Inv X pins σ H s) (k : ∀ b o, b ≠ it → s.heap.get? b = some o → h'.get? b = some o) (hn : H it = none) (hL : it ≠ X.env.locals)
    (h1 : it ∈ X.ex ∨ X.s₀.heap.objs.size ≤ it) (h2 : ∀ x c, X.env.cells.lookup x = some c → c ≠ it) (h3 : ∀ p ∈ X.pn ++ pins, p.1 ≠ it) : Inv X pins σ H { s with heap := h', toks := t' } := by
  have nit : ∀ b u, H b = some u → b ≠ it := fun b u e z => by rw [z, hn] at e; cases e
  refine I.step (g' := s.gens) (d' := s.drawn) (ch := [it]) (fun b hb => ?_) (fun b o _ _ hc e _ => k b o (fun z => hc (by simp [z])) e) (fun b o _ _ hc e _ => ⟨o.slots, k b o (fun z => hc (by simp [z])) e⟩) (fun _ _ _ _ n => n)
    (fun b o hc e => ⟨o, k b o (fun z => hc (by simp [z])) e⟩) (fun _ _ e => e) (fun _ _ _ e => e) (fun b ps e => ⟨#[], by rw [e]; simp⟩) (fun m hm => ?_) (fun b u e => ?_) I.bare
  · have e : b = it := by simpa using hb
    subst e
    exact ⟨h1, hL, h2, h3⟩
  · obtain ⟨o, es, ep, ho, r⟩ := hm
    exact ⟨o, es, ep, k _ o (Ne.symm hL) ho, r⟩
  · refine (I.hok b u e).stay (fun c v hc q => k c v ?_ q) (fun _ q => q) fun _ _ q => q
    rcases hc with z | z
    · rw [z]; exact nit b u e
    · exact nit c _ z
theorem Inv.tok (I : Inv X pins σ H s) (t : Nat) : Inv X pins σ H { s with toks := t } := I.un (h' := s.heap) (t' := t) Un.refl I.hok
theorem Inv.kept {t' : Nat} (I : Inv X pins σ H s) (k : ∀ b u, s.heap.get? b = some u → h'.get? b = some u) : Inv X pins σ H { s with heap := h', toks := t' } := I.un (Un.kept k) (I.hok.kept k)
theorem Inv.laid {a : Addr} {o : HO} {t' : Nat} (I : Inv X pins σ H s) (k : ∀ b u, s.heap.get? b = some u → h'.get? b = some u) (hp : s.heap.objs.size ≤ a) (new : ObjOk X.prog X.w (upd H a o) h' a o) :
    Inv X pins σ (upd H a o) { s with heap := h', toks := t' } := I.un (Un.laid k hp (I.hok.fresh hp)) (I.hok.laid k hp new)
theorem Inv.write {x e : Addr} {o : HO} {t' : Nat} (I : Inv X pins σ H s) (mu : Mut (H x)) (he : e = x ∨ H e = some (.own x)) (k : ∀ b u, b ≠ e → s.heap.get? b = some u → h'.get? b = some u) (heo : ∃ u, h'.get? e = some u)
    (new : ObjOk X.prog X.w (upd H x o) h' x o) : Inv X pins σ (upd H x o) { s with heap := h', toks := t' } := I.un (Un.write mu he k heo) (I.hok.write mu he k heo new)
theorem Inv.weak {σ' : List (Option V)} (I : Inv X pins σ H s) (hl : σ'.length = σ.length) (w : ∀ (i : Nat) v, σ'[i]? = some (some v) → σ[i]? = some (some v)) : Inv X pins σ' H s :=
  ⟨I.ok, I.os, I.bare, I.base, let ⟨m, hn, hl'⟩ := I.loc; ⟨m, hn, fun i x v e1 e2 e3 => hl' i x v e1 (w i v e2) e3⟩, I.cell, I.free, I.freeC, I.pin, I.hok, hl.trans I.len⟩
theorem Inv.pins_of {pins' : List (Addr × Obj)} (I : Inv X pins σ H s) (h : ∀ p ∈ pins', s.heap.get? p.1 = some p.2 ∧ H p.1 = none ∧ p.1 ≠ X.env.locals ∧ p.1 ∉ X.fs ∧ ∀ v, p.2.data ≠ .cell v) : Inv X pins' σ H s :=
  ⟨I.ok, I.os, I.bare, I.base, I.loc, I.cell, I.free, I.freeC, fun p hp => (List.mem_append.mp hp).elim (fun z => I.pin p (List.mem_append_left _ z)) (h p), I.hok, I.len⟩
theorem nodup_ix {N : List Str} (hN : N.Nodup) {i j : Nat} {x : Str} (a : N[i]? = some x) (b : N[j]? = some x) : i = j := by
  obtain ⟨h1, e1⟩ := List.getElem?_eq_some_iff.mp a
  obtain ⟨h2, e2⟩ := List.getElem?_eq_some_iff.mp b
  exact (List.getElem_inj hN).mp (e1.trans e2.symm)
theorem store_ok2 {M : Model} {A : Around} {E : Value → Shared → Prop} {i : Nat} {x : Str} {v : V} {u : Value} {Q : Unit → Shared → Prop} (I : Inv X pins σ H s) (hN : X.N.Nodup) (hi : X.N[i]? = some x) (hx : Loc X.env.scope x) (r : RelV v u)
    (h : ∀ s', Inv X pins (σ.set i (some v)) H s' → (∃ a, Heap.SameBut a s.heap s'.heap ∧ (a = X.env.locals ∨ X.env.cells.lookup x = some a)) → Q () s') (hf : X.fn x = true ∨ X.env.scope.names.lookup x = some .local := by first | exact .inl rfl | exact .inr rfl | assumption) : wpAny M A (storeName X.env x u) Q E s := by
  obtain ⟨m, hn, hl⟩ := id I.loc
  have hcls : (X.env.scope.kind == .class || (X.env.scope.kind == .module && X.env.locals != X.env.globals)) = false := by rw [I.ok.kind]; rfl
  have hiσ : i < σ.length := by rw [I.len]; exact (List.getElem?_eq_some_iff.mp hi).1
  have cne := I.cne
  have tracked : ∀ {a : Addr} {h' : Heap}, (∃ o, s.heap.get? a = some o ∧ H a = none) → Heap.SameBut a s.heap h' → HOk X.prog X.w H h' := fun {a h'} ha hs b ob e => by
    obtain ⟨_, _, hfree⟩ := ha
    refine (I.hok b ob e).stay (fun c w' hc q => (hs.2 c ?_).trans q) (fun _ q => q) fun _ _ q => q
    rintro rfl
    rcases hc with rfl | hc
    · rw [hfree] at e; cases e
    · rw [hfree] at hc; cases hc
  rcases hx with hk | hk
  · refine wpAny_storeName_local hk hn (fun h' hn' hs => ?_) hcls
    obtain ⟨oL, _, _, hoL, _⟩ := id hn
    refine h _ ⟨I.ok, I.os, I.bare, ⟨fun b o e n hb hx => ?_, fun b o e n hb hx => ?_, I.base.free, fun b o e hx => ?_, I.base.tups, I.base.frzs, I.base.tbls⟩, ⟨_, hn', fun j y v' e1 e2 e3 => ?_⟩, fun y c e => ?_, I.free, I.freeC, fun p hp => ?_, tracked ⟨oL, hoL, I.free⟩ hs, by simpa using I.len⟩ ⟨_, hs, .inl rfl⟩
    · exact (hs.2 b (Nat.ne_of_lt (Nat.lt_of_lt_of_le (Heap.lt_size e) I.ok.above))).trans (I.base.keep b o e n hb hx)
    · obtain ⟨sl, e1⟩ := I.base.slot b o e n hb hx
      exact ⟨sl, (hs.2 b (Nat.ne_of_lt (Nat.lt_of_lt_of_le (Heap.lt_size e) I.ok.above))).trans e1⟩
    · obtain ⟨o', e1⟩ := I.base.there b o e hx
      exact ⟨o', (hs.2 b (Nat.ne_of_lt (Nat.lt_of_lt_of_le (Heap.lt_size e) I.ok.above))).trans e1⟩
    · by_cases hj : j = i
      · subst hj
        rw [hi] at e1; cases e1
        rw [List.getElem?_set_self hiσ] at e2
        cases e2
        exact ⟨u, r, .inl ⟨hk, by simp⟩⟩
      · rw [List.getElem?_set_ne (Ne.symm hj)] at e2
        obtain ⟨u', r', q⟩ := hl j y v' e1 e2 e3
        refine ⟨u', r', ?_⟩
        rcases q with ⟨k, e⟩ | ⟨k, c, e, z⟩
        · refine .inl ⟨k, ?_⟩
          have : y ≠ x := fun e => hj (nodup_ix hN e1 (e ▸ hi))
          simp [this, e]
        · exact .inr ⟨k, c, e, z.sameBut hs (cne y c e)⟩
    · obtain ⟨w', z⟩ := I.cell y c e
      exact ⟨w', z.sameBut hs (cne y c e)⟩
    · obtain ⟨e, n, ne, nf, d⟩ := I.pin p hp
      exact ⟨(hs.2 p.1 ne).trans e, n, ne, nf, d⟩
  · have hfn : X.fn x = true := by
      rcases hf with z | z
      · exact z
      · rw [z] at hk; cases hk
    obtain ⟨c, hc⟩ := I.ok.has x (.inl hk)
    obtain ⟨w', z⟩ := I.cell x c hc
    refine wpAny_storeName_cell I.ok.kind hk hc z (fun h' hc' hs => ?_)
    obtain ⟨oc, hoc, hocd⟩ := id z
    refine h { s with heap := h' } ⟨I.ok, I.os, I.bare, ⟨fun b o e n hb hx => ?_, fun b o e n hb hx => ?_, I.base.free, fun b o e hx => ?_, I.base.tups, I.base.frzs, I.base.tbls⟩, ⟨m, hn.sameBut hs (Ne.symm (cne x c hc)), fun j y v' e1 e2 e3 => ?_⟩, fun y c' e => ?_, I.free, I.freeC, fun p hp => ?_, tracked ⟨oc, hoc, I.freeC x c hc⟩ hs, by simpa using I.len⟩ ⟨c, hs, .inr hc⟩
    · exact (hs.2 b (Nat.ne_of_lt (Nat.lt_of_lt_of_le (Heap.lt_size e) (I.ok.cab x c hfn hc)))).trans (I.base.keep b o e n hb hx)
    · obtain ⟨sl, e1⟩ := I.base.slot b o e n hb hx
      exact ⟨sl, (hs.2 b (Nat.ne_of_lt (Nat.lt_of_lt_of_le (Heap.lt_size e) (I.ok.cab x c hfn hc)))).trans e1⟩
    · obtain ⟨o', e1⟩ := I.base.there b o e hx
      exact ⟨o', (hs.2 b (Nat.ne_of_lt (Nat.lt_of_lt_of_le (Heap.lt_size e) (I.ok.cab x c hfn hc)))).trans e1⟩
    · by_cases hj : j = i
      · subst hj
        rw [hi] at e1; cases e1
        rw [List.getElem?_set_self hiσ] at e2
        cases e2
        exact ⟨u, r, .inr ⟨.inl hk, c, hc, hc'⟩⟩
      · rw [List.getElem?_set_ne (Ne.symm hj)] at e2
        obtain ⟨u', r', q⟩ := hl j y v' e1 e2 e3
        refine ⟨u', r', ?_⟩
        rcases q with q | ⟨k, c', e, z'⟩
        · exact .inl q
        · refine .inr ⟨k, c', e, z'.sameBut hs ?_⟩
          rintro rfl
          exact hj (nodup_ix hN e1 (I.ok.inj _ _ _ e hc ▸ hi))
    · by_cases hcc : c' = c
      · subst hcc; exact ⟨_, hc'⟩
      · obtain ⟨w2, z2⟩ := I.cell y c' e
        exact ⟨w2, z2.sameBut hs hcc⟩
    · obtain ⟨e, n, ne, nf, d⟩ := I.pin p hp
      refine ⟨(hs.2 p.1 ?_).trans e, n, ne, nf, d⟩
      intro q
      rw [q, hoc] at e
      have q' : oc = p.2 := Option.some.inj e
      exact d w' (by rw [← q']; exact hocd)
theorem store_ok {M : Model} {A : Around} {E : Value → Shared → Prop} {i : Nat} {x : Str} {v : V} {u : Value} {Q : Unit → Shared → Prop} (I : Inv X pins σ H s) (hN : X.N.Nodup) (hi : X.N[i]? = some x) (hx : Loc X.env.scope x) (r : RelV v u)
    (h : ∀ s', Inv X pins (σ.set i (some v)) H s' → Q () s') (hf : X.fn x = true ∨ X.env.scope.names.lookup x = some .local := by first | exact .inl rfl | exact .inr rfl | assumption) : wpAny M A (storeName X.env x u) Q E s :=
  store_ok2 I hN hi hx r (fun s' I' _ => h s' I') hf
theorem Inv.call' {s' : Shared} {ch : List Addr} (I : Inv X pins σ H s) (ho : s'.os = s.os) (u : Un (frs X.stack) ch H H' s.heap s'.heap) (hok : HOk X.prog X.w H' s'.heap) (hg : AllBare s'.gens)
    (hch : ∀ b ∈ ch, (b ∈ X.ex ∨ X.s₀.heap.objs.size ≤ b) ∧ b ≠ X.env.locals ∧ (∀ x c, X.env.cells.lookup x = some c → c ≠ b) ∧ ∀ p ∈ X.pn ++ pins, p.1 ≠ b) : Inv X pins σ H' s' := by
  obtain ⟨h', g', d', t', o'⟩ := s'
  have e : o' = s.os := ho
  subst e
  exact I.call (g' := g') (t' := t') (d' := d') u hok hg hch
end
abbrev XK := Value → Option Addr → Hp → Prop
abbrev St := List (Option V)
abbrev VK := V → Hp → Prop
abbrev TE := St → Hp → VK → Prop
abbrev TT := St → Hp → (Bool → Hp → Prop) → Prop
abbrev TA := St → Hp → (List V → Hp → Prop) → Prop
structure Ends where
  nx : St → Hp → Prop
  rt : VK
  bk : St → Hp → Prop := fun _ _ => False
  ct : St → Hp → Prop := fun _ _ => False
abbrev TS := Ends → St → Hp → Prop
def EP (X : Cx) (pins : List (Addr × Obj)) (σ : St) (Q : VK) (u : Value) (s' : Shared) : Prop := Ex2 fun v H' => Inv X pins σ H' s' ∧ RelV v u ∧ Q v H'
def TP (X : Cx) (pins : List (Addr × Obj)) (σ : St) (Q : Bool → Hp → Prop) (b : Bool) (s' : Shared) : Prop := ∃ H', Inv X pins σ H' s' ∧ Q b H'
def AP (X : Cx) (pins : List (Addr × Obj)) (σ : St) (Q : List V → Hp → Prop) (us : List Value) (s' : Shared) : Prop := Ex2 fun vs H' => Inv X pins σ H' s' ∧ Vals vs us ∧ Q vs H'
def SP (X : Cx) (pins : List (Addr × Obj)) (D : Ends) (f : Flow) (s' : Shared) : Prop :=
  match f with
  | .next => ∃ σ' H', Inv X pins σ' H' s' ∧ D.nx σ' H'
  | .brk => ∃ σ' H', Inv X pins σ' H' s' ∧ D.bk σ' H'
  | .cont => ∃ σ' H', Inv X pins σ' H' s' ∧ D.ct σ' H'
  | .ret u => ∃ v σ' H', Inv X pins σ' H' s' ∧ RelV v u ∧ D.rt v H'
def PE (X : Cx) (e : Expr) (t : TE) : Prop :=
  ∀ (pins : List (Addr × Obj)) (s : Shared) (σ : St) (H : Hp) (Q : VK), Inv X pins σ H s → t σ H Q → wpAny (model X.prog X.w) X.A (eval e X.env) (EP X pins σ Q) X.xe s
def PT (X : Cx) (e : Expr) (t : TT) : Prop :=
  ∀ (pins : List (Addr × Obj)) (s : Shared) (σ : St) (H : Hp) (Q : Bool → Hp → Prop), Inv X pins σ H s → t σ H Q → wpAny (model X.prog X.w) X.A (isTrue e X.env (eval e X.env)) (TP X pins σ Q) X.xe s
def PW (X : Cx) (e : Expr) (t : TT) : Prop :=
  ∀ (whole : Sem Value) (pins : List (Addr × Obj)) (s : Shared) (σ : St) (H : Hp) (Q : Bool → Hp → Prop), Inv X pins σ H s → t σ H Q → wpAny (model X.prog X.w) X.A (isTrue e X.env whole) (TP X pins σ Q) X.xe s
theorem PW.pt {X : Cx} {e : Expr} {t : TT} (h : PW X e t) : PT X e t := h _
def PA (X : Cx) (es : List Expr) (t : TA) : Prop :=
  ∀ (pos : Pos) (pins : List (Addr × Obj)) (s : Shared) (σ : St) (H : Hp) (Q : List V → Hp → Prop), Inv X pins σ H s → t σ H Q → wpAny (model X.prog X.w) X.A (spliced (backTo pos (starEach es X.env))) (AP X pins σ Q) X.xe s
def PS (X : Cx) (st : Stmt) (t : TS) : Prop :=
  ∀ (pins : List (Addr × Obj)) (s : Shared) (σ : St) (H : Hp) (D : Ends), Inv X pins σ H s → t D σ H → wpAny (model X.prog X.w) X.A (exec st X.env) (SP X pins D) X.xe s
def PSs (X : Cx) (st : List Stmt) (t : TS) : Prop :=
  ∀ (pins : List (Addr × Obj)) (s : Shared) (σ : St) (H : Hp) (D : Ends), Inv X pins σ H s → t D σ H → wpAny (model X.prog X.w) X.A (execs st X.env) (SP X pins D) X.xe s
theorem thn {α : Type} {t : Sem α} {Q Q' : α → Shared → Prop} {M : Model} {A : Around} {E : Value → Shared → Prop} {s : Shared} (h : wpAny M A t Q E s) (hQ : ∀ a s, Q a s → Q' a s) : wpAny M A t Q' E s := wpAny_mono h hQ fun _ _ x => x
end L2
namespace L2
open PySem PySem.Spec PyProof.Rows
section
variable {X : Cx}
inductive tVar_ (i : Nat) (σ : St) (H : Hp) (Q : VK) : Prop
  | mk (v : _) (h0 : σ[i]? = some (some v)) (h1 : Q v H)
def tVar (i : Nat) : TE := fun σ H Q => tVar_ i σ H Q
def tC (v : V) : TE := fun _ H Q => Q v H
theorem pe_var {i : Nat} {x : Str} {pos : Pos} (hN : X.N[i]? = some x) (hv : Vis X.env.scope x) (hd : (x == ("__debug__" : Str)) = false := by decide) (hcd : (x == ("__classdict__" : Str)) = false := by decide) : PE X (.Name x pos) (tVar i) := by
  intro pins s σ H Q I h
  obtain ⟨v, e, h⟩ := h
  obtain ⟨m, hn, hl⟩ := I.loc
  obtain ⟨u, r, l⟩ := hl i x v hN e hv
  have fin : EP X pins σ Q u s := ⟨v, H, I, r, h⟩
  rcases l with ⟨hk, hm⟩ | ⟨hk, c, hc, hcell⟩
  · exact wpAny_Name (wpAny_loadName_local I.ok.kind hk hn hm fin) hd
  · rcases hk with hk | hk
    · exact wpAny_Name (wpAny_loadName_cell I.ok.kind hk hc hcell fin) hd
    · exact wpAny_Name (wpAny_loadName_free I.ok.kind hk hc hcell fin hcd) hd
theorem pe_int {i j pos} : PE X (.Constant (.int i) j pos) (tC (.int i)) := fun _ _ _ H _ I h => wpAny_Constant_int ⟨.int i, H, I.tok _, ⟨_, rfl⟩, h⟩
theorem pe_bl {b j pos} : PE X (.Constant (.bool b) j pos) (tC (.bl b)) := fun _ _ _ H _ I h => Constant_bool ⟨.bl b, H, I, rfl, h⟩
theorem pe_non {j pos} : PE X (.Constant .none j pos) (tC .non) := fun _ _ _ H _ I h => Constant_none ⟨.non, H, I, rfl, h⟩
theorem pe_str {x j pos} : PE X (.Constant (.str x) j pos) (tC (.str x)) := fun _ _ _ H _ I h => Calls.Constant_str ⟨.str x, H, I.tok _, ⟨_, rfl⟩, h⟩
def Gl (X : Cx) (x : Str) : Prop := X.env.kindOf x = some .globalImplicit
theorem ld_glob {E : Value → Shared → Prop} {pins : List (Addr × Obj)} {s : Shared} {σ : St} {H : Hp} {x : Str} {u : Value} {pos : Pos} {Q : Value → Shared → Prop} (I : Inv X pins σ H s) (hg : Gl X x) (hm : X.mg x = some u) (h : Q u s)
    (hd : (x == ("__debug__" : Str)) = false := by decide) : wpAny (model X.prog X.w) X.A (eval (.Name x pos) X.env) Q E s :=
  Calls.Name_function_global I.ok.kind hg (Calls.loadGlobal_global (by rw [I.ok.glob]; exact I.mod.glob.keeps I.bk) hm h) hd
theorem ld_blt {E : Value → Shared → Prop} {pins : List (Addr × Obj)} {s : Shared} {σ : St} {H : Hp} {x : Str} {u : Value} {pos : Pos} {Q : Value → Shared → Prop} (I : Inv X pins σ H s) (hg : Gl X x) (hm : X.mg x = none) (hv : bootBuiltins x = some u) (h : Q u s)
    (hn : x ≠ "__name__" := by decide) (hd : (x == ("__debug__" : Str)) = false := by decide) : wpAny (model X.prog X.w) X.A (eval (.Name x pos) X.env) Q E s := by
  obtain ⟨mb, h1, h2⟩ := I.mod.blt
  exact Calls.Name_function_global I.ok.kind hg (Calls.loadGlobal_builtin (by rw [I.ok.glob]; exact I.mod.glob.keeps I.bk) hm (by rw [I.ok.blt]; exact h1.keeps I.bk) ((h2 x hn).trans hv) h) hd
theorem pe_bltn {x : Str} {v : V} {u : Value} {pos : Pos} (hg : Gl X x) (hm : X.mg x = none) (hv : bootBuiltins x = some u) (r : RelV v u) (hn : x ≠ "__name__" := by decide) (hd : (x == ("__debug__" : Str)) = false := by decide) : PE X (.Name x pos) (tC v) :=
  fun _ _ _ H _ I h => ld_blt I hg hm hv ⟨v, H, I, r, h⟩ hn hd
variable {a b : Expr} {ta tb : TE} {pos : Pos}
inductive IsBl (x : V) (P : Bool → Prop) : Prop
  | mk (c : Bool) (e : x = .bl c) (h : P c)
inductive IsIn (x : V) (P : Int → Prop) : Prop
  | mk (c : Int) (e : x = .int c) (h : P c)
def tB (t : TE) : TT := fun σ H Q => t σ H fun x H1 => IsBl x fun c => Q c H1
theorem pt_val {e : Expr} {t : TE} (h : PE X e t) (he : ∀ whole, isTrue e X.env whole = (do let v ← whole; standAt e.pos; holding [v] (truthy v)) := by intro _; rfl) : PT X e (tB t) := by
  intro pins s σ H Q I hw
  refine isTrue_plain (thn (h pins s σ H _ I hw) fun v s1 ⟨x, H1, I1, r1, q1⟩ => ?_) (he _)
  obtain ⟨d, rfl, q⟩ := q1
  cases r1
  exact wpAny_truthy_bool ⟨H1, I1, q⟩
variable {tA tB' : TT} {rest : List Expr}
def tAnd (t u : TT) : TT := fun σ H Q => t σ H fun c H1 => if c = true then u σ H1 Q else Q false H1
def tOr (t u : TT) : TT := fun σ H Q => t σ H fun c H1 => if c = true then Q true H1 else u σ H1 Q
def tNot (t : TT) : TT := fun σ H Q => t σ H fun c H1 => Q (!c) H1
theorem pw_and1 (ha : PT X a tA) : PW X (.BoolOp .And [a] pos) tA := by
  intro wh pins s σ H Q I h
  refine isTrue_and (thn (ha pins s σ H Q I h) fun c s1 e => ?_)
  cases c with
  | true => exact isTrue_and_nil e
  | false => exact e
theorem pw_or1 (ha : PT X a tA) : PW X (.BoolOp .Or [a] pos) tA := by
  intro wh pins s σ H Q I h
  refine isTrue_or (thn (ha pins s σ H Q I h) fun c s1 e => ?_)
  cases c with
  | false => exact isTrue_or_nil e
  | true => exact e
theorem pw_and (ha : PT X a tA) (hb : PW X (.BoolOp .And (b :: rest) pos) tB') : PW X (.BoolOp .And (a :: b :: rest) pos) (tAnd tA tB') := by
  intro wh pins s σ H Q I h
  refine isTrue_and (thn (ha pins s σ H _ I h) fun c s1 ⟨H1, I1, q1⟩ => ?_)
  cases c with
  | true => exact hb wh pins s1 σ H1 Q I1 q1
  | false => exact ⟨H1, I1, q1⟩
theorem pw_or (ha : PT X a tA) (hb : PW X (.BoolOp .Or (b :: rest) pos) tB') : PW X (.BoolOp .Or (a :: b :: rest) pos) (tOr tA tB') := by
  intro wh pins s σ H Q I h
  refine isTrue_or (thn (ha pins s σ H _ I h) fun c s1 ⟨H1, I1, q1⟩ => ?_)
  cases c with
  | true => exact ⟨H1, I1, q1⟩
  | false => exact hb wh pins s1 σ H1 Q I1 q1
theorem pt_not (ha : PT X a tA) : PT X (.UnaryOp .Not a pos) (tNot tA) := by
  intro pins s σ H Q I h
  exact isTrue_not (ha pins s σ H (fun c H1 => Q (!c) H1) I h)
def tAndV (ta tb : TE) : TE := fun σ H Q => ta σ H fun x H1 => IsBl x fun c => if c = true then tb σ H1 Q else Q (.bl false) H1
def tNotV (ta : TE) : TE := fun σ H Q => ta σ H fun x H1 => IsBl x fun c => Q (.bl (!c)) H1
theorem pe_one {op} {t : TE} (h : PE X a t) : PE X (.BoolOp op [a] pos) t := fun pins s σ H Q I hw => BoolOp_one (h pins s σ H Q I hw)
theorem pe_and (ha : PE X a ta) (hb : PE X (.BoolOp .And (b :: rest) pos) tb) : PE X (.BoolOp .And (a :: b :: rest) pos) (tAndV ta tb) := by
  intro pins s σ H Q I h
  refine BoolOp_and (thn (ha pins s σ H _ I h) fun v s1 ⟨x, H1, I1, r1, q1⟩ => ?_)
  obtain ⟨c, rfl, q1⟩ := q1
  cases r1
  refine wpAny_truthy_bool ?_
  cases c with
  | true => exact hb pins s1 σ H1 Q I1 q1
  | false => exact ⟨.bl false, H1, I1, rfl, q1⟩
theorem pe_not (ha : PE X a ta) : PE X (.UnaryOp .Not a pos) (tNotV ta) := by
  intro pins s σ H Q I h
  refine UnaryOp_ (thn (ha pins s σ H _ I h) fun v s1 ⟨x, H1, I1, r1, q1⟩ => ?_)
  obtain ⟨c, rfl, q1⟩ := q1
  cases r1
  exact not_of (wpAny_truthy_bool ⟨.bl (!c), H1, I1, rfl, q1⟩)
def tIf (t : TT) (ta tb : TE) : TE := fun σ H Q => t σ H fun c H1 => if c = true then ta σ H1 Q else tb σ H1 Q
theorem pe_ifExp {c : Expr} (hc : PT X c tA) (ha : PE X a ta) (hb : PE X b tb) : PE X (.IfExp c a b pos) (tIf tA ta tb) := by
  intro pins s σ H Q I h
  refine wpAny_IfExp (thn (hc pins s σ H _ I h) fun d s1 ⟨H1, I1, q1⟩ => ?_)
  cases d with
  | true => exact ha pins s1 σ H1 Q I1 q1
  | false => exact hb pins s1 σ H1 Q I1 q1
end
end L2
namespace L2
open PySem PySem.Spec PyProof.Rows
def SqL (K : PySem.W.Frag) (H : Hp) (a : Addr) (xs : List V) : Prop :=
  Rd H a (.lst xs) ∨
    Ex3 fun (o : Obj) (its : Array Value) (n : Nat) => K.lookup a = some o ∧ o.cls = .type "list" ∧ o.dict = none ∧ o.data = .seq its n ∧ its.size ≤ sizeLine ∧ Vals xs its.toList
def SqT (K : PySem.W.Frag) (H : Hp) (a : Addr) (xs : List V) : Prop :=
  Rd H a (.tup xs) ∨
    Ex3 fun (o : Obj) (its : Array Value) (n : Nat) => K.lookup a = some o ∧ o.cls = .type "tuple" ∧ o.data = .seq its n ∧ its.size ≤ sizeLine ∧ Vals xs its.toList
def absV : Value → Option V
  | .none => some .non
  | .bool b => some (.bl b)
  | .int i _ => some (.int i)
  | .str x _ => some (.str x)
  | .bytes b _ => some (.byt b)
  | .float b _ => some (.flt b)
  | .ref a => some (.ref a)
  | .type n => some (.ty n)
  | _ => none
theorem RelV.abs {x : V} {u : Value} (r : RelV x u) : absV u = some x := by
  cases x with
  | non => cases r; rfl
  | bl _ => cases r; rfl
  | int _ => obtain ⟨t, rfl⟩ := r; rfl
  | str _ => obtain ⟨t, rfl⟩ := r; rfl
  | byt _ => obtain ⟨t, rfl⟩ := r; rfl
  | flt _ => obtain ⟨t, rfl⟩ := r; rfl
  | ref _ => cases r; rfl
  | ty _ => cases r; rfl
theorem RelV.inj {x y : V} {u : Value} (r : RelV x u) (q : RelV y u) : x = y := Option.some.inj (r.abs.symm.trans q.abs)
theorem Vals.inj : ∀ {xs ys : List V} {us : List Value}, Vals xs us → Vals ys us → xs = ys
  | _, _, _, .nil, .nil => rfl
  | _, _, _, .cons r t, .cons r' t' => by rw [r.inj r', Vals.inj t t']
section
variable {X : Cx} {pins : List (Addr × Obj)} {σ : St} {H : Hp} {s : Shared} {a : Addr} {xs ys : List V}
theorem SqL.of {K : PySem.W.Frag} (h : H a = some (.lst xs)) : SqL K H a xs := .inl (.inl h)
theorem SqT.of {K : PySem.W.Frag} (h : H a = some (.tup xs)) : SqT K H a xs := .inl (.inl h)
theorem Inv.list (I : Inv X pins σ H s) (h : SqL X.K H a xs) : ∃ its : List Value, Vals xs its ∧ PlainL s.heap a its.toArray ∧ xs.length ≤ sizeLine := by
  rcases h with h | ⟨o, its, n, hk, hc, hd, hs, hz, r⟩
  · obtain ⟨z, its, n, r, e⟩ := h.ok I.hok
    exact ⟨its, r, ⟨_, n, e, rfl, rfl, rfl⟩, z⟩
  · refine ⟨its.toList, r, ⟨o, n, I.kIn a o hk, hc, hd, by simpa using hs⟩, ?_⟩
    have e := r.length
    simp only [Array.length_toList] at e
    trivial
theorem Inv.tuple (I : Inv X pins σ H s) (h : SqT X.K H a xs) : ∃ its : List Value, Vals xs its ∧ IsTup s.heap a its.toArray ∧ xs.length ≤ sizeLine := by
  rcases h with h | ⟨o, its, n, hk, hc, hs, hz, r⟩
  · obtain ⟨z, its, r, p, _⟩ := h.ok I.hok
    exact ⟨its, r, p, z⟩
  · refine ⟨its.toList, r, ⟨o, I.kIn a o hk, hc, n, by simpa using hs⟩, ?_⟩
    have e := r.length
    simp only [Array.length_toList] at e
    trivial
theorem Inv.list_inj (I : Inv X pins σ H s) (h : SqL X.K H a xs) (h' : SqL X.K H a ys) : xs = ys := by
  obtain ⟨its, r, ⟨o, n, e, _, _, d⟩, _⟩ := I.list h
  obtain ⟨its', r', ⟨o', n', e', _, _, d'⟩, _⟩ := I.list h'
  rw [e] at e'; cases e'
  rw [d] at d'
  injection d' with d1 _
  have : its = its' := by simpa using congrArg Array.toList d1
  subst this
  exact r.inj r'
theorem Inv.tuple_inj (I : Inv X pins σ H s) (h : SqT X.K H a xs) (h' : SqT X.K H a ys) : xs = ys := by
  obtain ⟨its, r, ⟨o, e, _, n, d⟩, _⟩ := I.tuple h
  obtain ⟨its', r', ⟨o', e', _, n', d'⟩, _⟩ := I.tuple h'
  rw [e] at e'; cases e'
  rw [d] at d'
  injection d' with d1 _
  have : its = its' := by simpa using congrArg Array.toList d1
  subst this
  exact r.inj r'
end
abbrev Cx.wish (X : Cx) (E : Value → Shared → Prop) : Cx := { X with xe := E }
abbrev Cx.nox (X : Cx) : Cx := X.wish fun _ _ => False
theorem Cx.Ok.wish {X : Cx} (ok : X.Ok) (E : Value → Shared → Prop) : (X.wish E).Ok :=
  ⟨ok.mod, ok.kind, ok.glob, ok.blt, ok.above, ok.inj, ok.has, ok.cab, ok.hd, ok.frames, ok.stk, ok.exf, ok.bs, ok.bsz, ok.noex, ok.exfs, ok.funs, ok.frf⟩
theorem Cx.Ok.unwish {X : Cx} {E : Value → Shared → Prop} (ok : (X.wish E).Ok) : X.Ok :=
  ⟨ok.mod, ok.kind, ok.glob, ok.blt, ok.above, ok.inj, ok.has, ok.cab, ok.hd, ok.frames, ok.stk, ok.exf, ok.bs, ok.bsz, ok.noex, ok.exfs, ok.funs, ok.frf⟩
section
variable {X : Cx} {pins : List (Addr × Obj)} {σ : St} {H : Hp} {s : Shared} {E : Value → Shared → Prop}
theorem Inv.wish (I : Inv X pins σ H s) (E : Value → Shared → Prop) : Inv (X.wish E) pins σ H s := ⟨I.ok.wish E, I.os, I.bare, I.base, I.loc, I.cell, I.free, I.freeC, I.pin, I.hok, I.len⟩
theorem Inv.unwish (I : Inv (X.wish E) pins σ H s) : Inv X pins σ H s := ⟨I.ok.unwish, I.os, I.bare, I.base, I.loc, I.cell, I.free, I.freeC, I.pin, I.hok, I.len⟩
theorem SP.unwish {D : Ends} {f : Flow} {s' : Shared} (h : SP (X.wish E) pins D f s') : SP X pins D f s' := by
  cases f with
  | next => obtain ⟨σ', H', I, q⟩ := h; exact ⟨σ', H', I.unwish, q⟩
  | brk => obtain ⟨σ', H', I, q⟩ := h; exact ⟨σ', H', I.unwish, q⟩
  | cont => obtain ⟨σ', H', I, q⟩ := h; exact ⟨σ', H', I.unwish, q⟩
  | ret u => obtain ⟨v, σ', H', I, r, q⟩ := h; exact ⟨v, σ', H', I.unwish, r, q⟩
theorem PSs.nox {st : List Stmt} {t : TS} (h : PSs X.nox st t) : PSs X st t := fun pins s σ H D I hw =>
  wpAny_mono (h pins s σ H D (I.wish _) hw) (fun _ _ q => q.unwish) fun _ _ z => False.elim z
end
section
variable {X : Cx} {st : Stmt} {rest : List Stmt} {t u : TS} {e : Expr} {te : TE} {pos : Pos}
def tNext : TS := fun D σ H => D.nx σ H
def tSeq (t u : TS) : TS := fun D σ H => t { D with nx := u D } σ H
theorem pss_nil : PSs X [] tNext := fun _ _ σ H _ I h => wpAny_execs_nil ⟨σ, H, I, h⟩
theorem pss_cons (h1 : PS X st t) (h2 : PSs X rest u) : PSs X (st :: rest) (tSeq t u) := by
  intro pins s σ H D I h
  refine wpAny_execs_cons (thn (h1 pins s σ H { D with nx := u D } I h) fun f s1 q => ?_)
  cases f with
  | next =>
    obtain ⟨σ', H', I', q⟩ := q
    exact h2 pins s1 σ' H' D I' q
  | ret v => exact q
  | brk => exact q
  | cont => exact q
theorem pss_one (h1 : PS X st t) : PSs X [st] t := by
  intro pins s σ H D I h
  refine wpAny_execs_cons (thn (h1 pins s σ H D I h) fun f s1 q => ?_)
  cases f with
  | next => exact wpAny_execs_nil q
  | ret v => exact q
  | brk => exact q
  | cont => exact q
theorem Inv.quiet {pins : List (Addr × Obj)} {σ : St} {H : Hp} {s : Shared} (I : Inv X pins σ H s) : interactive X.env = false := by simp [interactive, I.ok.kind]
def tDrop (te : TE) : TS := fun D σ H => te σ H fun _ H1 => D.nx σ H1
theorem ps_expr (he : PE X e te) (hs : swapsWith e none pos.line X.env = pure false := by rfl) : PS X (.Expr e pos) (tDrop te) := by
  intro pins s σ H D I h
  exact wpAny_Expr_any (thn (he pins s σ H _ I h) fun v s1 ⟨x, H1, I1, r1, q1⟩ => ⟨σ, H1, I1, q1⟩) I.quiet hs
def tRet (te : TE) : TS := fun D σ H => te σ H D.rt
theorem ps_ret (he : PE X e te) : PS X (.Return (some e) pos) (tRet te) := by
  intro pins s σ H D I h
  exact wpAny_Return_some (thn (he pins s σ H _ I h) fun v s1 ⟨x, H1, I1, r1, q1⟩ => ⟨x, σ, H1, I1, r1, q1⟩)
def tIfS (c : TT) (t u : TS) : TS := fun D σ H => c σ H fun b H1 => if b = true then t D σ H1 else u D σ H1
theorem ps_if {c : Expr} {a b : List Stmt} {tc : TT} (hc : PT X c tc) (ha : PSs X a t) (hb : PSs X b u) : PS X (.If c a b pos) (tIfS tc t u) := by
  intro pins s σ H D I h
  refine wpAny_If (thn (hc pins s σ H _ I h) fun d s1 ⟨H1, I1, q1⟩ => ?_)
  cases d with
  | true => exact ha pins s1 σ H1 D I1 q1
  | false => exact hb pins s1 σ H1 D I1 q1
end
abbrev TG := V → St → Hp → (St → Hp → Prop) → Prop
abbrev TGs := List V → St → Hp → (St → Hp → Prop) → Prop
def PG (X : Cx) (target : Expr) (t : TG) : Prop :=
  ∀ (pins : List (Addr × Obj)) (s : Shared) (σ : St) (H : Hp) (v : V) (u : Value) (Q : St → Hp → Prop), Inv X pins σ H s → RelV v u → t v σ H Q →
    wpAny (model X.prog X.w) X.A (assign target X.env u) (fun _ s' => ∃ σ' H', Inv X pins σ' H' s' ∧ Q σ' H') X.xe s
def PGs (X : Cx) (ts : List Expr) (t : TGs) : Prop :=
  ∀ (pins : List (Addr × Obj)) (s : Shared) (σ : St) (H : Hp) (vs : List V) (us : List Value) (Q : St → Hp → Prop), Inv X pins σ H s → Vals vs us → t vs σ H Q →
    wpAny (model X.prog X.w) X.A (assignInOrder ((assignEach ts X.env).map (·.2)) us) (fun _ s' => ∃ σ' H', Inv X pins σ' H' s' ∧ Q σ' H') X.xe s
abbrev TSet := V → V → V → Hp → (Hp → Prop) → Prop
def PSet (X : Cx) (t : TSet) : Prop :=
  ∀ (pins : List (Addr × Obj)) (s : Shared) (σ : St) (H : Hp) (o i v : V) (ov iv u : Value) (Q : Hp → Prop), Inv X pins σ H s → RelV o ov → RelV i iv → RelV v u → t o i v H Q →
    wpAny (model X.prog X.w) X.A (setItem ov iv u) (fun _ s' => ∃ H', Inv X pins σ H' s' ∧ Q H') X.xe s
section
variable {X : Cx} {pos : Pos}
def gName (i : Nat) : TG := fun v σ H Q => Q (σ.set i (some v)) H
theorem pg_name {i : Nat} {x : Str} (hN : X.N.Nodup) (hi : X.N[i]? = some x) (hx : Loc X.env.scope x) (hf : X.fn x = true ∨ X.env.scope.names.lookup x = some .local := by first | exact .inl rfl | exact .inr rfl | assumption) : PG X (.Name x pos) (gName i) := by
  intro pins s σ H v u Q I r h
  exact wpAny_assign_Name (store_ok I hN hi hx r (fun s' I' => ⟨_, H, I', h⟩) hf)
def gNil : TGs := fun vs σ H Q => vs = [] ∧ Q σ H
inductive gCons_ (t : TG) (u : TGs) (vs : List V) (σ : St) (H : Hp) (Q : St → Hp → Prop) : Prop
  | mk (v : _) (r : _) (h0 : vs = v :: r) (h1 : t v σ H fun σ' H' => u r σ' H' Q)
def gCons (t : TG) (u : TGs) : TGs := fun vs σ H Q => gCons_ t u vs σ H Q
theorem pgs_nil : PGs X [] gNil := by
  intro pins s σ H vs us Q I r h
  obtain ⟨e, h⟩ := h
  subst e
  cases r
  exact assignInOrder_nil ⟨σ, H, I, h⟩
theorem pgs_cons {e : Expr} {es : List Expr} {t : TG} {u : TGs} (h1 : PG X e t) (h2 : PGs X es u)
    (hs : (assignEach (e :: es) X.env).map (·.2) = assign e X.env :: (assignEach es X.env).map (·.2) := by rfl) : PGs X (e :: es) (gCons t u) := by
  intro pins s σ H vs us Q I r h
  obtain ⟨v, vr, e1, h⟩ := h
  subst e1
  cases r with
  | cons r rr =>
    rw [hs]
    refine assignInOrder_cons (thn (h1 pins s σ H _ _ _ I r h) fun _ s1 ⟨σ1, H1, I1, q1⟩ => ?_)
    exact h2 pins s1 σ1 H1 _ _ Q I1 rr q1
inductive gTup_ (K : PySem.W.Frag) (n : Nat) (t : TGs) (v : V) (σ : St) (H : Hp) (Q : St → Hp → Prop) : Prop
  | mk (a : _) (xs : _) (h0 : v = .ref a) (h1 : SqT K H a xs) (h2 : xs.length = n) (h3 : t xs σ H Q)
def gTup (K : PySem.W.Frag) (n : Nat) (t : TGs) : TG := fun v σ H Q => gTup_ K n t v σ H Q
theorem pg_tup {es : List Expr} {k : Nat} {t : TGs} {n : Nat} (hc : X.calm = true) (h : PGs X es t)
    (hn : (assignEach es X.env).length = n := by rfl) (hst : (assignEach es X.env).findIdx? (·.1) = none := by rfl) : PG X (.Tuple es k pos) (gTup X.K n t) := by
  intro pins s σ H v u Q I r hw
  obtain ⟨a, xs, e1, hq, hl, hw⟩ := hw
  subst e1
  cases r
  obtain ⟨its, rv, ht, hz⟩ := I.tuple hq
  refine assign_Tuple_tuple (I.ok.hd hc) ht (by simp [hn, ← hl, rv.length]) hst fun h' hx => ?_
  have I1 : Inv X pins σ H { s with heap := h' } := I.kept (t' := s.toks) fun b o e => hx b o (Nat.ne_of_lt (Heap.lt_size e)) e
  exact h pins _ σ H xs _ Q I1 (by simpa using rv) hw
def gSub (to ti : TE) (t : TSet) : TG := fun v σ H Q => to σ H fun o H1 => ti σ H1 fun i H2 => t o i v H2 fun H3 => Q σ H3
theorem pg_sub {o i : Expr} {to ti : TE} {t : TSet} (ho : PE X o to) (hi : PE X i ti) (hs : PSet X t)
    (ha : ∀ v, assign (.Subscript o i pos) X.env v = (do
      let ov ← holding [v] (eval o X.env)
      let iv ← holding [v, ov] (eval i X.env)
      standAt pos
      holding [v, ov, iv] (setItem ov iv v)
      release [v, ov, iv] []) := by intro _; rfl) : PG X (.Subscript o i pos) (gSub to ti t) := by
  intro pins s σ H v u Q I r h
  rw [ha]
  refine wpAny_bind (wpAny_holding (thn (ho pins s σ H _ I h) fun ov s1 ⟨x, H1, I1, r1, q1⟩ => ?_))
  refine wpAny_bind (wpAny_holding (thn (hi pins s1 σ H1 _ I1 q1) fun iv s2 ⟨y, H2, I2, r2, q2⟩ => ?_))
  refine wpAny_bind (wpAny_standAt (wpAny_bind (wpAny_holding (thn (hs pins s2 σ H2 x y v ov iv u _ I2 r1 r2 r q2) fun _ s3 ⟨H3, I3, q3⟩ => ?_))))
  exact wpAny_release ⟨σ, H3, I3, q3⟩
def tAsg (te : TE) (g : TG) : TS := fun D σ H => te σ H fun x H1 => g x σ H1 D.nx
theorem ps_asg {tg e : Expr} {te : TE} {g : TG} (he : PE X e te) (hg : PG X tg g) (hs : swapsWithSole [tg] e pos.line X.env = pure false := by rfl) (hw : swappedStores [tg] e X.env = pure none := by rfl)
    (h1 : (assignEach [tg] X.env).map (·.2) = [assign tg X.env] := by rfl) : PS X (.Assign [tg] e pos) (tAsg te g) := by
  intro pins s σ H D I h
  refine wpAny_Assign_stores (thn (he pins s σ H _ I h) fun v s1 ⟨x, H1, I1, r1, q1⟩ => ?_) hs hw
  rw [h1]
  exact thn (hg pins s1 σ H1 x v _ I1 r1 q1) fun _ s2 q => q
theorem ps_set {i : Nat} {x : Str} {e : Expr} {te : TE} {pos' : Pos} (hN : X.N.Nodup) (hi : X.N[i]? = some x) (hx : Loc X.env.scope x) (he : PE X e te) (hs : swapsWith e (some (.Name x pos')) pos.line X.env = pure false := by rfl) (hf : X.fn x = true ∨ X.env.scope.names.lookup x = some .local := by first | exact .inl rfl | exact .inr rfl | assumption) :
    PS X (.Assign [.Name x pos'] e pos) (tAsg te (gName i)) := by
  intro pins s σ H D I h
  refine wpAny_Assign_Name (thn (he pins s σ H _ I h) fun v s1 ⟨y, H1, I1, r1, q1⟩ => ?_) hs
  exact store_ok I1 hN hi hx r1 (fun s2 I2 => ⟨_, H1, I2, q1⟩) hf
def tPar (i j : Nat) (ta : TA) : TS := fun D σ H => ta σ H fun vs H1 => Ex2 fun v w => vs = [v, w] ∧ D.nx ((σ.set i (some v)).set j (some w)) H1
theorem ps_par {i j : Nat} {x y : Str} {a b : Expr} {ta : TA} {px py pt : Pos} {kt k2 pt2} (hc : X.calm = true) (hN : X.N.Nodup) (hi : X.N[i]? = some x) (hj : X.N[j]? = some y) (hij : i ≠ j)
    (hx : X.env.scope.names.lookup x = some .local) (hy : X.env.scope.names.lookup y = some .local) (ha : PA X [a, b] ta)
    (hw : swappedStores [.Tuple [.Name x px, .Name y py] kt pt] (.Tuple [a, b] k2 pt2) X.env = pure (some [x, y]))
    (hs : swapsWithSole [.Tuple [.Name x px, .Name y py] kt pt] (.Tuple [a, b] k2 pt2) pos.line X.env = pure false := by rfl) :
    PS X (.Assign [.Tuple [.Name x px, .Name y py] kt pt] (.Tuple [a, b] k2 pt2) pos) (tPar i j ta) := by
  intro pins s σ H D I h
  rw [exec_Assign_arm]
  refine wpAny_bind (wpAny_standAt ?_)
  rw [hs]
  refine wpAny_bind (wpAny_pure ?_)
  rw [if_neg (by decide)]
  refine wpAny_bind (Tuple_ (thn (ha _ pins s σ H _ I h) fun us s1 ⟨vs, H1, I1, r1, q1⟩ => ?_))
  obtain ⟨v, w, e1, q1⟩ := q1
  subst e1
  obtain ⟨u1, u2, rfl, rv, rw'⟩ : Ex2 fun u1 u2 => us = [u1, u2] ∧ RelV v u1 ∧ RelV w u2 := by
    cases r1 with
    | cons p q =>
      cases q with
      | cons p' q' =>
        cases q'
        exact ⟨_, _, rfl, p, p'⟩
  refine wpAny_newObj_type ?_ (by show 2 ≤ sizeLine; decide)
  have I2 : Inv X pins σ H1 { s1 with heap := s1.heap.push { cls := .type "tuple", data := .seq [u1, u2].toArray } } := I1.kept (t' := s1.toks) fun b o e => Heap.get?_push_of_some _ e
  rw [hw]
  refine wpAny_bind (wpAny_pure ?_)
  show wpAny (model X.prog X.w) X.A (do rule "assign.swapped-stores"; let items ← unpackItems (.ref s1.heap.objs.size) 2 none; assignInOrder [fun v => bindName X.env y v, fun v => bindName X.env x v] items.reverse; pure Flow.next) _ _ _
  refine wpAny_bind (wpAny_rule (wpAny_bind (unpackItems_tuple (items := #[u1, u2]) (I.ok.hd hc) (IsTup.new s1.heap _) fun h' hx' => ?_)))
  have I3 := I2.kept (h' := h') (t' := s1.toks) fun b o e => hx' b o (Nat.ne_of_lt (Heap.lt_size e)) e
  show wpAny _ _ (assignInOrder [fun v => bindName X.env y v, fun v => bindName X.env x v] [u2, u1] >>= fun _ => pure Flow.next) _ _ _
  refine wpAny_bind (assignInOrder_cons (wpAny_bindName (store_ok I3 hN hj (.inl hy) rw' (fun s2 I4 => ?_) (.inr hy))))
  refine assignInOrder_cons (wpAny_bindName (store_ok I4 hN hi (.inl hx) rv (fun s3 I5 => assignInOrder_nil (wpAny_pure ?_)) (.inr hx)))
  rw [List.set_comm _ _ (Ne.symm hij)] at I5
  exact ⟨_, H1, I5, q1⟩
end
section
variable {X : Cx} {pos : Pos}
def tWhile (c : TT) (tb : TS) : TS := fun D σ H => ∃ W : Nat → St → Hp → Prop, (∃ m, W m σ H) ∧ ∀ m σ H, W m σ H →
  c σ H fun b H1 => if b = true then ∃ N : St → Hp → Prop, (∀ σ' H', N σ' H' → ∃ m', m' < m ∧ W m' σ' H') ∧ tb { D with nx := N, ct := N, bk := D.nx } σ H1 else D.nx σ H1
theorem ps_while {c : Expr} {body : List Stmt} {tc : TT} {tb : TS} (hp : PassesOwn (model X.prog X.w) X.A X.env X.xe) (hc : PT X c tc) (hb : PSs X body tb) : PS X (.While c body [] pos) (tWhile tc tb) := by
  intro pins s σ H D I h
  obtain ⟨W, ⟨m0, w0⟩, turn⟩ := h
  refine wpAny_While (codeAny_whileLoop (fun n s' => ∃ σ' H', Inv X pins σ' H' s' ∧ W n σ' H') ?_ m0 ⟨σ, H, I, w0⟩)
  rintro n s1 ⟨σ1, H1, I1, w1⟩
  refine wpAny_passesOwn hp (thn (hc pins s1 σ1 H1 _ I1 (turn n σ1 H1 w1)) fun b s2 ⟨H2, I2, q2⟩ => ?_)
  cases b with
  | true =>
    obtain ⟨N, hN, q2⟩ := q2
    rw [if_pos rfl]
    refine wpAny_passesOwn hp (thn (hb pins s2 σ1 H2 _ I2 q2) fun f s3 q3 => ?_)
    cases f with
    | next =>
      obtain ⟨σ3, H3, I3, n3⟩ := q3
      obtain ⟨m', hm, w3⟩ := hN σ3 H3 n3
      exact ⟨m', hm, σ3, H3, I3, w3⟩
    | cont =>
      obtain ⟨σ3, H3, I3, n3⟩ := q3
      obtain ⟨m', hm, w3⟩ := hN σ3 H3 n3
      exact ⟨m', hm, σ3, H3, I3, w3⟩
    | brk => exact q3
    | ret v => exact q3
  | false =>
    rw [if_neg Bool.false_ne_true]
    exact wpAny_execs_nil ⟨σ1, H2, I2, q2⟩
end
structure It where
  go : Nat → Hp → Prop
  yld : Nat → Hp → V → Hp → Prop
  stop : Nat → Hp → Prop
def FpOk (X : Cx) (pins : List (Addr × Obj)) (H : Hp) (b : Addr) : Prop :=
  H b = none ∧ b ≠ X.env.locals ∧ b ∉ X.fs ∧ (b ∈ X.ex ∨ X.s₀.heap.objs.size ≤ b) ∧ (∀ x c, X.env.cells.lookup x = some c → c ≠ b) ∧ ∀ p ∈ X.pn ++ pins, p.1 ≠ b
theorem Inv.fpOk {X : Cx} {pins : List (Addr × Obj)} {σ : St} {H H' : Hp} {s : Shared} {b : Addr} (I : Inv X pins σ H s) (hb : s.heap.objs.size ≤ b) (hn : H' b = none) : FpOk X pins H' b := by
  refine ⟨hn, Nat.ne_of_gt (Nat.lt_of_lt_of_le I.lt hb), I.nofs hb, .inr (Nat.le_trans I.sz hb), fun x c e z => ?_, fun p hp z => ?_⟩
  · obtain ⟨v, q⟩ := I.cell x c e
    exact absurd (Nat.lt_of_lt_of_le q.lt (by rw [z]; exact hb)) (Nat.lt_irrefl _)
  · exact absurd (Nat.lt_of_lt_of_le (Heap.lt_size (I.pin p hp).1) (by rw [z]; exact hb)) (Nat.lt_irrefl _)
structure Turn (P : Program) (w : World) (K : PySem.W.Frag) (tg : Expr) (J : It) (fp : List Addr) (it : Addr) (tn : Nat → Heap → Prop) : Prop where
  mem : it ∈ fp
  obj : ∀ i h, tn i h → ∀ b ∈ fp, ∃ o, h.get? b = some o ∧ ∀ v, o.data ≠ .cell v
  keep : ∀ i h h', tn i h → (∀ b ∈ fp, ∀ o, h.get? b = some o → h'.get? b = some o) → tn i h'
  item : ∀ (X : Cx), X.prog = P → X.w = w → X.K = K → X.calm = true → ∀ (i : Nat) (pins : List (Addr × Obj)) (s : Shared) (σ : St) (H : Hp) (E : Value → Shared → Prop), Inv X pins σ H s → (∀ b ∈ fp, FpOk X pins H b) → tn i s.heap → J.go i H →
    wpAny (model P w) X.A (pyNext (.ref it)) (fun r s1 => ∃ u, r = some u ∧
      wpAny (model P w) X.A (letOwnedTupleGo tg (.ref it) u) (fun _ s2 => Ex2 fun x H' => Inv X pins σ H' s2 ∧ RelV x u ∧ J.yld i H x H' ∧ tn (i + 1) s2.heap ∧ ∀ b ∈ fp, H' b = none) E s1) E s
  done : ∀ (X : Cx), X.prog = P → X.w = w → X.K = K → X.calm = true → ∀ (i : Nat) (pins : List (Addr × Obj)) (s : Shared) (σ : St) (H : Hp) (E : Value → Shared → Prop), Inv X pins σ H s → (∀ b ∈ fp, FpOk X pins H b) → tn i s.heap → J.stop i H →
    wpAny (model P w) X.A (pyNext (.ref it)) (fun r s1 => r = none ∧ Inv X pins σ H s1) E s
  self : ∀ (A : Around) (i : Nat) (s : Shared) (Q : Value → Shared → Prop) (E : Value → Shared → Prop), tn i s.heap → Q (.ref it) s → wpAny (model P w) A (pyIter (.ref it)) Q E s
abbrev TI := St → Hp → (It → Hp → Prop) → Prop
def PIE (X : Cx) (pins : List (Addr × Obj)) (σ : St) (tg : Expr) (R : It → Hp → Prop) (itv : Value) (s2 : Shared) : Prop :=
  Ex5 fun (it : Addr) (fp : List Addr) (tn : Nat → Heap → Prop) (J : It) (H' : Hp) => itv = .ref it ∧ Inv X pins σ H' s2 ∧ Turn X.prog X.w X.K tg J fp it tn ∧ tn 0 s2.heap ∧ (∀ b ∈ fp, FpOk X pins H' b) ∧ R J H'
def PI (X : Cx) (tg iter : Expr) (wi : TI) : Prop :=
  ∀ (pins : List (Addr × Obj)) (s : Shared) (σ : St) (H : Hp) (R : It → Hp → Prop), Inv X pins σ H s → wi σ H R →
    wpAny (model X.prog X.w) X.A (eval iter X.env) (fun v s1 => wpAny (model X.prog X.w) X.A (pyIter v) (PIE X pins σ tg R) X.xe s1) X.xe s
theorem go_of {M : Model} {A : Around} {E : Value → Shared → Prop} {s : Shared} {tg : Expr} {it : Addr} {u : Value} {o : Obj} {n : String} {vs : Array Value} {Q : Unit → Shared → Prop} (ho : s.heap.get? it = some o) (hc : o.cls = .type n) (hd : o.data = .fields vs)
    (hn : ["enumerate", "zip", "dict_itemiterator", "dict_reverseitemiterator", "odict_iterator", "itertools.zip_longest", "itertools.pairwise"].contains n = false) (hQ : Q () s) : wpAny M A (letOwnedTupleGo tg (.ref it) u) Q E s := by
  unfold letOwnedTupleGo
  cases tg <;> first
    | exact wpAny_pure hQ
    | (cases u <;> first
        | exact wpAny_pure hQ
        | (refine wpAny_bind (wpAny_load ho ?_)
           rw [hc, hd]
           show wpAny M A (if (["enumerate", "zip", "dict_itemiterator", "dict_reverseitemiterator", "odict_iterator", "itertools.zip_longest", "itertools.pairwise"].contains n && vs[0]? == some (rawInt _)) = true then _ else _) Q E s
           rw [if_neg (by intro h; rw [hn, Bool.false_and] at h; cases h)]
           exact wpAny_pure hQ))
def Itl (K : PySem.W.Frag) (a : Addr) : It :=
  ⟨fun i H => Ex2 fun xs x => SqL K H a xs ∧ xs[i]? = some x, fun i H x H' => H' = H ∧ ∀ xs, SqL K H a xs → xs[i]? = some x, fun i H => ∃ xs, SqL K H a xs ∧ xs.length ≤ i⟩
def Itt (K : PySem.W.Frag) (a : Addr) : It :=
  ⟨fun i H => Ex2 fun xs x => SqT K H a xs ∧ xs[i]? = some x, fun i H x H' => H' = H ∧ ∀ xs, SqT K H a xs → xs[i]? = some x, fun i H => ∃ xs, SqT K H a xs ∧ xs.length ≤ i⟩
def Itr (lo : Int) (n : Nat) : It := ⟨fun i _ => i < n, fun i H x H' => H' = H ∧ x = .int (lo + i), fun i _ => n ≤ i⟩
theorem turn_list {P : Program} {w : World} {K : PySem.W.Frag} {tg : Expr} (a it : Addr) : Turn P w K tg (Itl K a) [it] it (fun i h => h.IsListIter it a i) where
  mem := by simp
  obj := fun i h st b hb => by
    have e : b = it := by simpa using hb
    subst e
    obtain ⟨o, e, c, d⟩ := st
    exact ⟨o, e, fun v z => by rw [d] at z; cases z⟩
  keep := fun i h h' st k => st.at fun o e => k it (by simp) o e
  item := by
    intro X hP hw hK hc i pins s σ H E I hf st hg
    subst hP hw hK
    obtain ⟨xs, x, hq, hx⟩ := hg
    obtain ⟨its, rv, p, hz⟩ := I.list hq
    obtain ⟨u, hu, ru⟩ := rv.get hx
    obtain ⟨f0, f1, f2, f3, f4, f5⟩ := hf it (by simp)
    refine wpAny_pyNext_list_item st p.isList (x := u) (by simpa using hu) fun h' st' sb => ?_
    have I1 : Inv X pins σ H { s with heap := h' } := I.turned (t' := s.toks) (fun b o hb e => (sb.2 b hb).trans e) f0 f1 f3 f4 f5
    obtain ⟨o, e, c, d⟩ := id st'
    exact ⟨u, rfl, go_of (s := { s with heap := h' }) e c d (by decide) ⟨x, H, I1, ru, ⟨rfl, fun ys hy => by rw [I.list_inj hy hq]; exact hx⟩, st', fun b hb => (hf b hb).1⟩⟩
  done := by
    intro X hP hw hK hc i pins s σ H E I hf st hg
    subst hP hw hK
    obtain ⟨xs, hq, hx⟩ := hg
    obtain ⟨its, rv, p, hz⟩ := I.list hq
    obtain ⟨f0, f1, f2, f3, f4, f5⟩ := hf it (by simp)
    have hl := rv.length
    exact wpAny_pyNext_list_end (I.ok.hd hc) st p.isList (by simp; trivial) fun h' eb => ⟨rfl, I.turned (t' := s.toks) (fun b o hb e => eb b o hb e) f0 f1 f3 f4 f5⟩
  self := fun _ _ _ _ _ st h => wpAny_pyIter_listiter st h
theorem turn_tuple {P : Program} {w : World} {K : PySem.W.Frag} {tg : Expr} (a it : Addr) : Turn P w K tg (Itt K a) [it] it (fun i h => h.IsTupleIter it a i) where
  mem := by simp
  obj := fun i h st b hb => by
    have e : b = it := by simpa using hb
    subst e
    obtain ⟨o, e, c, d⟩ := st
    exact ⟨o, e, fun v z => by rw [d] at z; cases z⟩
  keep := fun i h h' st k => st.at fun o e => k it (by simp) o e
  item := by
    intro X hP hw hK hc i pins s σ H E I hf st hg
    subst hP hw hK
    obtain ⟨xs, x, hq, hx⟩ := hg
    obtain ⟨its, rv, p, hz⟩ := I.tuple hq
    obtain ⟨u, hu, ru⟩ := rv.get hx
    obtain ⟨f0, f1, f2, f3, f4, f5⟩ := hf it (by simp)
    refine wpAny_pyNext_tuple_item st (show s.heap.IsTuple a its.toArray from p) (x := u) (by simpa using hu) fun h' st' sb => ?_
    have I1 : Inv X pins σ H { s with heap := h' } := I.turned (t' := s.toks) (fun b o hb e => (sb.2 b hb).trans e) f0 f1 f3 f4 f5
    obtain ⟨o, e, c, d⟩ := id st'
    exact ⟨u, rfl, go_of (s := { s with heap := h' }) e c d (by decide) ⟨x, H, I1, ru, ⟨rfl, fun ys hy => by rw [I.tuple_inj hy hq]; exact hx⟩, st', fun b hb => (hf b hb).1⟩⟩
  done := by
    intro X hP hw hK hc i pins s σ H E I hf st hg
    subst hP hw hK
    obtain ⟨xs, hq, hx⟩ := hg
    obtain ⟨its, rv, p, hz⟩ := I.tuple hq
    obtain ⟨f0, f1, f2, f3, f4, f5⟩ := hf it (by simp)
    have hl := rv.length
    exact wpAny_pyNext_tuple_end (I.ok.hd hc) st (show s.heap.IsTuple a its.toArray from p) (by simp; trivial) fun h' eb => ⟨rfl, I.turned (t' := s.toks) (fun b o hb e => eb b o hb e) f0 f1 f3 f4 f5⟩
  self := fun _ _ _ _ _ st h => wpAny_pyIter_tupleiter st h
theorem turn_range {P : Program} {w : World} {K : PySem.W.Frag} {tg : Expr} (it : Addr) (lo : Int) (n : Nat) : Turn P w K tg (Itr lo n) [it] it (fun i h => IsRangeIter h it (lo + (i : Nat) * 1) ((n : Int) - (i : Nat)) 1) where
  mem := by simp
  obj := fun i h st b hb => by
    have e : b = it := by simpa using hb
    subst e
    exact ⟨_, st, fun v z => by
      have z' : Data.fields _ = Data.cell v := z
      cases z'⟩
  keep := fun i h h' st k => k it (by simp) _ st
  item := by
    intro X hP hw hK hc i pins s σ H E I hf st hg
    subst hP hw hK
    obtain ⟨f0, f1, f2, f3, f4, f5⟩ := hf it (by simp)
    have W := Walks.range (prog := X.prog) (w := X.w) (I.ok.hd hc) it lo 1 n
    refine W.item i s _ _ hg st fun v h' tk hv st' kk => ?_
    obtain ⟨t, rfl⟩ := hv
    have I1 : Inv X pins σ H { s with heap := h', toks := tk } := I.turned (fun b o hb e => kk b o (by simpa using hb) e) f0 f1 f3 f4 f5
    refine ⟨_, rfl, go_of (s := { s with heap := h', toks := tk }) (n := "range_iterator") st' rfl rfl (by decide) ⟨.int (lo + i), H, I1, ⟨t, ?_⟩, ⟨rfl, rfl⟩, st', fun b hb => (hf b hb).1⟩⟩
    rw [Int.mul_one]
  done := by
    intro X hP hw hK hc i pins s σ H E I hf st hg
    subst hP hw hK
    obtain ⟨f0, f1, f2, f3, f4, f5⟩ := hf it (by simp)
    exact wpAny_pyNext_range_end (I.ok.hd hc) st (by have : n ≤ i := hg; trivial) fun h' eb => ⟨rfl, I.turned (t' := s.toks) (fun b o hb e => eb b o hb e) f0 f1 f3 f4 f5⟩
  self := fun _ _ _ _ _ st h => wpAny_pyIter_rangeiter st h
end L2
namespace L2
open PySem PySem.Spec PyProof.Rows
section
variable {X : Cx} {tg : Expr}
def iList (K : PySem.W.Frag) (tl : TE) : TI := fun σ H R => tl σ H fun x H1 => ∃ a, x = .ref a ∧ (∃ xs, SqL K H1 a xs) ∧ R (Itl K a) H1
def iTup (K : PySem.W.Frag) (tl : TE) : TI := fun σ H R => tl σ H fun x H1 => ∃ a, x = .ref a ∧ (∃ xs, SqT K H1 a xs) ∧ R (Itt K a) H1
theorem pi_list {l : Expr} {tl : TE} (hl : PE X l tl) : PI X tg l (iList X.K tl) := by
  intro pins s σ H R I h
  refine thn (hl pins s σ H _ I h) fun v s1 ⟨x, H1, I1, r1, q1⟩ => ?_
  obtain ⟨a, e, ⟨xs, hq⟩, q⟩ := q1
  subst e
  cases r1
  obtain ⟨its, rv, p, hz⟩ := I1.list hq
  refine wpAny_pyIter_list p.isList ?_
  refine ⟨s1.heap.objs.size, [s1.heap.objs.size], _, _, H1, rfl, I1.kept (t' := s1.toks) fun b o e => Heap.get?_push_of_some _ e, turn_list a _, ⟨_, Heap.get?_push_size _ rfl, rfl, rfl⟩, fun b hb => ?_, q⟩
  have e : b = s1.heap.objs.size := by simpa using hb
  subst e
  exact I1.fpOk (Nat.le_refl _) (I1.hok.fresh (Nat.le_refl _))
theorem pi_tup {l : Expr} {tl : TE} (hl : PE X l tl) : PI X tg l (iTup X.K tl) := by
  intro pins s σ H R I h
  refine thn (hl pins s σ H _ I h) fun v s1 ⟨x, H1, I1, r1, q1⟩ => ?_
  obtain ⟨a, e, ⟨xs, hq⟩, q⟩ := q1
  subst e
  cases r1
  obtain ⟨its, rv, p, hz⟩ := I1.tuple hq
  refine wpAny_pyIter_tuple (show s1.heap.IsTuple a its.toArray from p) ?_
  refine ⟨s1.heap.objs.size, [s1.heap.objs.size], _, _, H1, rfl, I1.kept (t' := s1.toks) fun b o e => Heap.get?_push_of_some _ e, turn_tuple a _, ⟨_, Heap.get?_push_size _ rfl, rfl, rfl⟩, fun b hb => ?_, q⟩
  have e : b = s1.heap.objs.size := by simpa using hb
  subst e
  exact I1.fpOk (Nat.le_refl _) (I1.hok.fresh (Nat.le_refl _))
theorem range_it {pins : List (Addr × Obj)} {σ : St} {H : Hp} {s : Shared} {R : It → Hp → Prop} {E : Value → Shared → Prop} {lo hi : Int} {t u v : Tok} {tk : Nat} (I : Inv X pins σ H s) (h1 : -(2 ^ 62) ≤ lo) (h2 : lo < 2 ^ 62) (h3 : -(2 ^ 62) ≤ hi) (h4 : hi < 2 ^ 62)
    (q : R (Itr lo (hi - lo).toNat) H) : wpAny (model X.prog X.w) X.A (pyIter (.ref s.heap.objs.size)) (PIE X pins σ tg R) E { s with heap := s.heap.push { cls := .type "range", data := .fields #[.int lo t, .int hi u, .int 1 v] }, toks := tk } := by
  refine wpAny_pyIter_range (IsRange.new ..) (small_one h1 h2 h3 h4) ?_
  have I1 : Inv X pins σ H { s with heap := s.heap.push { cls := .type "range", data := .fields #[.int lo t, .int hi u, .int 1 v] }, toks := tk } := I.kept fun b o e => Heap.get?_push_of_some _ e
  refine ⟨(s.heap.push { cls := .type "range", data := .fields #[.int lo t, .int hi u, .int 1 v] }).objs.size, [(s.heap.push { cls := .type "range", data := .fields #[.int lo t, .int hi u, .int 1 v] }).objs.size], _, _, H, rfl,
    I1.kept (t' := tk) fun b o e => Heap.get?_push_of_some _ e, turn_range _ lo (hi - lo).toNat, ?_, fun b hb => ?_, q⟩
  · have e1 : lo + ((0 : Nat) : Int) * 1 = lo := by simp
    have e2 : (((hi - lo).toNat : Nat) : Int) - ((0 : Nat) : Int) = Builtin.Range.rangeSize lo hi 1 := by rw [rangeSize_one]; split <;> trivial
    show IsRangeIter _ _ (lo + ((0 : Nat) : Int) * 1) ((((hi - lo).toNat : Nat) : Int) - ((0 : Nat) : Int)) 1
    rw [e1, e2]
    exact Heap.get?_push_size _ rfl
  · have e : b = (s.heap.push { cls := .type "range", data := .fields #[.int lo t, .int hi u, .int 1 v] }).objs.size := by simpa using hb
    subst e
    exact I1.fpOk (Nat.le_refl _) (I1.hok.fresh (Nat.le_refl _))
def iRng1 (ta : TA) : TI := fun σ H R => ta σ H fun vs H1 => ∃ j : Int, vs = [.int j] ∧ -(2 ^ 62) ≤ j ∧ j < 2 ^ 62 ∧ R (Itr 0 j.toNat) H1
theorem pi_range1 {a : Expr} {ta : TA} {p pos : Pos} (hg : Gl X "range") (hm : X.mg "range" = none) (ha : PA X [a] ta) (hs : starEach [a] X.env = [(false, eval a X.env)] := by rfl) : PI X tg (.Call (.Name "range" p) [a] [] pos) (iRng1 ta) := by
  intro pins s σ H R I h
  refine Call_ (ld_blt I hg hm boot_range (PyProof.Rows.callWith_type1 (thn (ha pos pins s σ H _ I h) fun us s1 ⟨vs, H1, I1, r1, q1⟩ => ?_) hs rfl))
  obtain ⟨j, e, q1, q2, q⟩ := q1
  subst e
  cases r1 with
  | cons r rr =>
    cases rr
    obtain ⟨t, rfl⟩ := r
    exact call_range_1 (range_it I1 (by trivial) (by trivial) q1 q2 (by simpa using q))
def tFor (wi : TI) (g : TG) (tb : TS) : TS := fun D σ H => wi σ H fun J H1 => ∃ W : Nat → Nat → St → Hp → Prop, (∃ m, W 0 m σ H1) ∧ ∀ i m σ H, W i m σ H →
  (J.stop i H ∧ D.nx σ H) ∨ (J.go i H ∧ ∃ N : St → Hp → Prop, (∀ σ' H', N σ' H' → ∃ m', m' < m ∧ W (i + 1) m' σ' H') ∧ ∀ x H', J.yld i H x H' → g x σ H' fun σ2 H2 => tb { D with nx := N, ct := N, bk := D.nx } σ2 H2)
def pinsAt (fp : List Addr) (h : Heap) : List (Addr × Obj) := fp.filterMap fun b => (h.get? b).map fun o => (b, o)
theorem mem_pinsAt {fp : List Addr} {h : Heap} {b : Addr} {o : Obj} (hb : b ∈ fp) (e : h.get? b = some o) : (b, o) ∈ pinsAt fp h := List.mem_filterMap.mpr ⟨b, hb, by rw [e]; rfl⟩
theorem of_pinsAt {fp : List Addr} {h : Heap} {p : Addr × Obj} (hp : p ∈ pinsAt fp h) : p.1 ∈ fp ∧ h.get? p.1 = some p.2 := by
  obtain ⟨b, hb, e⟩ := List.mem_filterMap.mp hp
  cases q : h.get? b with
  | none => rw [q] at e; cases e
  | some o =>
    rw [q] at e
    have e' : (b, o) = p := Option.some.inj e
    subst e'
    exact ⟨hb, q⟩
theorem Inv.pinned {pins : List (Addr × Obj)} {σ : St} {H : Hp} {s : Shared} {fp : List Addr} (I : Inv X pins σ H s) (hf : ∀ b ∈ fp, FpOk X pins H b) (ho : ∀ b ∈ fp, ∃ o, s.heap.get? b = some o ∧ ∀ v, o.data ≠ .cell v) : Inv X (pins ++ pinsAt fp s.heap) σ H s :=
  I.pins_of fun p hp => (List.mem_append.mp hp).elim (fun z => I.pin p (List.mem_append_right _ z)) fun z => by
    obtain ⟨hb, e⟩ := of_pinsAt z
    obtain ⟨f0, f1, f2, _⟩ := hf p.1 hb
    obtain ⟨o, e', d⟩ := ho p.1 hb
    rw [e] at e'; cases e'
    exact ⟨e, f0, f1, f2, d⟩
theorem Inv.unpinned {pins pl : List (Addr × Obj)} {σ : St} {H : Hp} {s : Shared} (I : Inv X (pins ++ pl) σ H s) : Inv X pins σ H s := I.pins_of fun p hp => I.pin p (List.mem_append_right _ (List.mem_append_left _ hp))
theorem ps_for {iter : Expr} {body : List Stmt} {wi : TI} {g : TG} {tb : TS} {pos : Pos} (hp : PassesOwn (model X.prog X.w) X.A X.env X.xe) (hc : X.calm = true) (hi : PI X tg iter wi) (hg : PG X tg g) (hb : PSs X body tb)
    (hs : ∀ x, foldedSetIterable iter X.env x = pure x := by intro _; rfl) : PS X (.For tg iter body [] pos) (tFor wi g tb) := by
  intro pins s σ H D I h
  refine wpAny_For (thn (hi pins s σ H _ I h) fun v s1 h1 => thn h1 fun itv s2 h2 => ?_) hs
  obtain ⟨it, fp, tn, J, H2, e, I2, T, st2, f2, W, ⟨m0, w0⟩, turn⟩ := h2
  subst e
  have stat : ∀ {H' : Hp}, (∀ b ∈ fp, H' b = none) → ∀ b ∈ fp, FpOk X pins H' b := fun hn b hb => ⟨hn b hb, (f2 b hb).2⟩
  refine codeAny_forLoop_any (fun n s' => ∃ i σ' H', Inv X pins σ' H' s' ∧ tn i s'.heap ∧ (∀ b ∈ fp, H' b = none) ∧ W i n σ' H') ?_ m0 ⟨0, σ, H2, I2, st2, fun b hb => (f2 b hb).1, w0⟩
  rintro n s3 ⟨i, σ3, H3, I3, st3, fr3, w3⟩
  rcases turn i n σ3 H3 w3 with ⟨stop, qn⟩ | ⟨go, N, hN, step⟩
  · refine wpAny_passesOwn hp (thn (T.done X rfl rfl rfl hc i pins s3 σ3 H3 X.xe I3 (stat fr3) st3 stop) fun r s4 ⟨hr, I4⟩ => ?_)
    subst hr
    exact wpAny_execs_nil ⟨σ3, H3, I4, qn⟩
  · refine wpAny_passesOwn hp (thn (T.item X rfl rfl rfl hc i pins s3 σ3 H3 X.xe I3 (stat fr3) st3 go) fun r s4 ⟨u, hr, h4⟩ => ?_)
    subst hr
    refine wpAny_passesOwn hp (thn h4 fun _ s5 ⟨x, H5, I5, r5, y5, st5, fr5⟩ => ?_)
    have I5' := I5.pinned (stat fr5) (T.obj _ _ st5)
    refine wpAny_passesOwn hp (thn (hg _ s5 σ3 H5 x u _ I5' r5 (step x H5 y5)) fun _ s6 ⟨σ6, H6, I6, q6⟩ => ?_)
    refine wpAny_passesOwn hp (thn (hb _ s6 σ6 H6 _ I6 q6) fun f s7 q7 => ?_)
    have again : ∀ {σ7 : St} {H7 : Hp}, Inv X (pins ++ pinsAt fp s5.heap) σ7 H7 s7 → N σ7 H7 → ∃ m, m < n ∧ ∃ i σ' H', Inv X pins σ' H' s7 ∧ tn i s7.heap ∧ (∀ b ∈ fp, H' b = none) ∧ W i m σ' H' := fun {σ7 H7} I7 n7 => by
      obtain ⟨m', hm, w7⟩ := hN σ7 H7 n7
      refine ⟨m', hm, i + 1, σ7, H7, I7.unpinned, T.keep _ _ _ st5 fun b hb o e => (I7.pin (b, o) (List.mem_append_right _ (List.mem_append_right _ (mem_pinsAt hb e)))).1, fun b hb => ?_, w7⟩
      obtain ⟨o, e, d⟩ := T.obj _ _ st5 b hb
      exact (I7.pin (b, o) (List.mem_append_right _ (List.mem_append_right _ (mem_pinsAt hb e)))).2.1
    cases f with
    | next => obtain ⟨σ7, H7, I7, n7⟩ := q7; exact again I7 n7
    | cont => obtain ⟨σ7, H7, I7, n7⟩ := q7; exact again I7 n7
    | brk => obtain ⟨σ7, H7, I7, q7⟩ := q7; exact ⟨σ7, H7, I7.unpinned, q7⟩
    | ret v => obtain ⟨x7, σ7, H7, I7, r7, q7⟩ := q7; exact ⟨x7, σ7, H7, I7.unpinned, r7, q7⟩
end
theorem for_list {K : PySem.W.Frag} {a : Addr} {xs : List V} {g : TG} {tb : TS} {D : Ends} {σ : St} {H : Hp} (Pv : Nat → St → Hp → Prop) (h0 : Pv 0 σ H) (hl : ∀ i σ H, i ≤ xs.length → Pv i σ H → SqL K H a xs)
    (hs : ∀ i x σ H, xs[i]? = some x → Pv i σ H → g x σ H fun σ2 H2 => tb { D with nx := Pv (i + 1), ct := Pv (i + 1), bk := D.nx } σ2 H2) (hd : ∀ σ H, Pv xs.length σ H → D.nx σ H) :
    ∃ W : Nat → Nat → St → Hp → Prop, (∃ m, W 0 m σ H) ∧ ∀ i m σ H, W i m σ H →
      ((Itl K a).stop i H ∧ D.nx σ H) ∨ ((Itl K a).go i H ∧ ∃ N : St → Hp → Prop, (∀ σ' H', N σ' H' → ∃ m', m' < m ∧ W (i + 1) m' σ' H') ∧ ∀ x H', (Itl K a).yld i H x H' → g x σ H' fun σ2 H2 => tb { D with nx := N, ct := N, bk := D.nx } σ2 H2) := by
  refine ⟨fun i m σ H => m = xs.length - i ∧ i ≤ xs.length ∧ Pv i σ H, ⟨xs.length, by simp, Nat.zero_le _, h0⟩, ?_⟩
  rintro i m σ H ⟨rfl, hi, p⟩
  have q := hl i σ H hi p
  by_cases hlt : i < xs.length
  · refine .inr ⟨⟨xs, xs[i], q, by simp [hlt]⟩, Pv (i + 1), fun σ' H' p' => ⟨xs.length - (i + 1), by trivial, rfl, hlt, p'⟩, fun x H' y => ?_⟩
    obtain ⟨e, y⟩ := y
    subst e
    exact hs i x σ _ (y xs q) p
  · have e : i = xs.length := by trivial
    subst e
    exact .inl ⟨⟨xs, q, Nat.le_refl _⟩, hd σ H p⟩
theorem for_tup {K : PySem.W.Frag} {a : Addr} {xs : List V} {g : TG} {tb : TS} {D : Ends} {σ : St} {H : Hp} (Pv : Nat → St → Hp → Prop) (h0 : Pv 0 σ H) (hl : ∀ i σ H, i ≤ xs.length → Pv i σ H → SqT K H a xs)
    (hs : ∀ i x σ H, xs[i]? = some x → Pv i σ H → g x σ H fun σ2 H2 => tb { D with nx := Pv (i + 1), ct := Pv (i + 1), bk := D.nx } σ2 H2) (hd : ∀ σ H, Pv xs.length σ H → D.nx σ H) :
    ∃ W : Nat → Nat → St → Hp → Prop, (∃ m, W 0 m σ H) ∧ ∀ i m σ H, W i m σ H →
      ((Itt K a).stop i H ∧ D.nx σ H) ∨ ((Itt K a).go i H ∧ ∃ N : St → Hp → Prop, (∀ σ' H', N σ' H' → ∃ m', m' < m ∧ W (i + 1) m' σ' H') ∧ ∀ x H', (Itt K a).yld i H x H' → g x σ H' fun σ2 H2 => tb { D with nx := N, ct := N, bk := D.nx } σ2 H2) := by
  refine ⟨fun i m σ H => m = xs.length - i ∧ i ≤ xs.length ∧ Pv i σ H, ⟨xs.length, by simp, Nat.zero_le _, h0⟩, ?_⟩
  rintro i m σ H ⟨rfl, hi, p⟩
  have q := hl i σ H hi p
  by_cases hlt : i < xs.length
  · refine .inr ⟨⟨xs, xs[i], q, by simp [hlt]⟩, Pv (i + 1), fun σ' H' p' => ⟨xs.length - (i + 1), by trivial, rfl, hlt, p'⟩, fun x H' y => ?_⟩
    obtain ⟨e, y⟩ := y
    subst e
    exact hs i x σ _ (y xs q) p
  · have e : i = xs.length := by trivial
    subst e
    exact .inl ⟨⟨xs, q, Nat.le_refl _⟩, hd σ H p⟩
theorem for_range {lo : Int} {n : Nat} {g : TG} {tb : TS} {D : Ends} {σ : St} {H : Hp} (Pv : Nat → St → Hp → Prop) (h0 : Pv 0 σ H)
    (hs : ∀ i σ H, i < n → Pv i σ H → g (.int (lo + i)) σ H fun σ2 H2 => tb { D with nx := Pv (i + 1), ct := Pv (i + 1), bk := D.nx } σ2 H2) (hd : ∀ σ H, Pv n σ H → D.nx σ H) :
    ∃ W : Nat → Nat → St → Hp → Prop, (∃ m, W 0 m σ H) ∧ ∀ i m σ H, W i m σ H →
      ((Itr lo n).stop i H ∧ D.nx σ H) ∨ ((Itr lo n).go i H ∧ ∃ N : St → Hp → Prop, (∀ σ' H', N σ' H' → ∃ m', m' < m ∧ W (i + 1) m' σ' H') ∧ ∀ x H', (Itr lo n).yld i H x H' → g x σ H' fun σ2 H2 => tb { D with nx := N, ct := N, bk := D.nx } σ2 H2) := by
  refine ⟨fun i m σ H => m = n - i ∧ i ≤ n ∧ Pv i σ H, ⟨n, by simp, Nat.zero_le _, h0⟩, ?_⟩
  rintro i m σ H ⟨rfl, hi, p⟩
  by_cases hlt : i < n
  · refine .inr ⟨hlt, Pv (i + 1), fun σ' H' p' => ⟨n - (i + 1), by trivial, rfl, hlt, p'⟩, fun x H' y => ?_⟩
    obtain ⟨e, y⟩ := y
    subst e y
    exact hs i σ _ hlt p
  · have e : i = n := by trivial
    subst e
    exact .inl ⟨Nat.le_refl _, hd σ H p⟩
end L2
namespace L2
open PySem PySem.Spec PyProof.Rows
abbrev R2 := V → V → Hp → VK → Prop
def OpR (X : Cx) (f : Value → Value → Sem Value) (r : R2) : Prop :=
  ∀ (pins : List (Addr × Obj)) (s : Shared) (σ : St) (H : Hp) (x y : V) (v u : Value) (Q : VK), Inv X pins σ H s → RelV x v → RelV y u → r x y H Q →
    wpAny (model X.prog X.w) X.A (f v u) (EP X pins σ Q) X.xe s
def UnR (X : Cx) (f : Value → Sem Value) (r : V → Hp → VK → Prop) : Prop :=
  ∀ (pins : List (Addr × Obj)) (s : Shared) (σ : St) (H : Hp) (x : V) (v : Value) (Q : VK), Inv X pins σ H s → RelV x v → r x H Q →
    wpAny (model X.prog X.w) X.A (f v) (EP X pins σ Q) X.xe s
def CallR (X : Cx) (f : Value) (r : List V → Hp → VK → Prop) : Prop :=
  ∀ (pins : List (Addr × Obj)) (s : Shared) (σ : St) (H : Hp) (xs : List V) (us : List Value) (Q : VK), Inv X pins σ H s → Vals xs us → r xs H Q →
    wpAny (model X.prog X.w) X.A (call f us) (EP X pins σ Q) X.xe s
def tOp (r : R2) (ta tb : TE) : TE := fun σ H Q => ta σ H fun x H1 => tb σ H1 fun y H2 => r x y H2 Q
def tUn (r : V → Hp → VK → Prop) (ta : TE) : TE := fun σ H Q => ta σ H fun x H1 => r x H1 Q
inductive rI_ (C : Int → Int → Prop) (g : Int → Int → V) (x : V) (y : V) (H : Hp) (Q : VK) : Prop
  | mk (i : _) (j : _) (h0 : x = .int i) (h1 : y = .int j) (h2 : C i j) (h3 : Q (g i j) H)
def rI (C : Int → Int → Prop) (g : Int → Int → V) : R2 := fun x y H Q => rI_ C g x y H Q
inductive rI0_ (g : Int → Int → V) (x : V) (y : V) (H : Hp) (Q : VK) : Prop
  | mk (i : _) (j : _) (h0 : x = .int i) (h1 : y = .int j) (h2 : Q (g i j) H)
def rI0 (g : Int → Int → V) : R2 := fun x y H Q => rI0_ g x y H Q
def rU (g : Int → V) : V → Hp → VK → Prop := fun x H Q => IsIn x fun i => Q (g i) H
section
variable {X : Cx} {a b c : Expr} {ta tb tc : TE} {pos : Pos}
theorem binT (ha : PE X a ta) (hb : PE X b tb) {pins : List (Addr × Obj)} {s : Shared} {σ : St} {H : Hp} {R : V → V → Hp → Prop} (I : Inv X pins σ H s)
    (h : ta σ H fun x H1 => tb σ H1 fun y H2 => R x y H2) {Q : Value → Shared → Prop} {f : Value → Value → Sem Value}
    (hf : ∀ v u s2 x y H2, Inv X pins σ H2 s2 → RelV x v → RelV y u → R x y H2 → wpAny (model X.prog X.w) X.A (f v u) Q X.xe s2) :
    wpAny (model X.prog X.w) X.A (eval a X.env) (fun v s₁ => wpAny (model X.prog X.w) X.A (eval b X.env) (fun u s₂ => wpAny (model X.prog X.w) X.A (f v u) Q X.xe s₂) X.xe s₁) X.xe s := by
  refine thn (ha pins s σ H _ I h) fun v s1 ⟨x, H1, I1, r1, q1⟩ => ?_
  refine thn (hb pins s1 σ H1 _ I1 q1) fun u s2 ⟨y, H2, I2, r2, q2⟩ => ?_
  exact hf v u s2 x y H2 I2 r1 r2 q2
theorem pe_op {op : Operator} {r : R2} (ho : OpR X (binaryOp op) r) (ha : PE X a ta) (hb : PE X b tb) : PE X (.BinOp a op b pos) (tOp r ta tb) := by
  intro pins s σ H Q I h
  exact wpAny_BinOp (binT ha hb I h fun v u s2 x y H2 I2 rx ry q => ho pins s2 σ H2 x y v u Q I2 rx ry q)
theorem pe_un {op : UnaryOp} {r : V → Hp → VK → Prop} (ho : UnR X (unaryOp op) r) (ha : PE X a ta) : PE X (.UnaryOp op a pos) (tUn r ta) := by
  intro pins s σ H Q I h
  exact UnaryOp_ (thn (ha pins s σ H _ I h) fun v s1 ⟨x, H1, I1, r1, q1⟩ => ho pins s1 σ H1 x v Q I1 r1 q1)
theorem opI {f : Value → Value → Sem Value} {C : Int → Int → Prop} {g : Int → Int → Int}
    (rule : ∀ (i j : Int) (t u : Tok) (s : Shared) (Q : Value → Shared → Prop) (E : Value → Shared → Prop), C i j → Q (.int (g i j) s.toks) { s with toks := s.toks + 1 } → wpAny (model X.prog X.w) X.A (f (.int i t) (.int j u)) Q E s) :
    OpR X f (rI C fun i j => .int (g i j)) := by
  intro pins s σ H x y v u Q I rx ry h
  obtain ⟨i, j, rfl, rfl, hc, q⟩ := h
  obtain ⟨t, rfl⟩ := rx
  obtain ⟨t', rfl⟩ := ry
  exact rule i j t t' s _ _ hc ⟨.int (g i j), H, I.tok _, ⟨_, rfl⟩, q⟩
theorem opI0 {f : Value → Value → Sem Value} {g : Int → Int → Int}
    (rule : ∀ (i j : Int) (t u : Tok) (s : Shared) (Q : Value → Shared → Prop) (E : Value → Shared → Prop), Q (.int (g i j) s.toks) { s with toks := s.toks + 1 } → wpAny (model X.prog X.w) X.A (f (.int i t) (.int j u)) Q E s) :
    OpR X f (rI0 fun i j => .int (g i j)) := by
  intro pins s σ H x y v u Q I rx ry h
  obtain ⟨i, j, rfl, rfl, q⟩ := h
  obtain ⟨t, rfl⟩ := rx
  obtain ⟨t', rfl⟩ := ry
  exact rule i j t t' s _ _ ⟨.int (g i j), H, I.tok _, ⟨_, rfl⟩, q⟩
theorem opB0 {f : Value → Value → Sem Value} {g : Int → Int → Bool}
    (rule : ∀ (i j : Int) (t u : Tok) (s : Shared) (Q : Value → Shared → Prop) (E : Value → Shared → Prop), Q (.bool (g i j)) s → wpAny (model X.prog X.w) X.A (f (.int i t) (.int j u)) Q E s) :
    OpR X f (rI0 fun i j => .bl (g i j)) := by
  intro pins s σ H x y v u Q I rx ry h
  obtain ⟨i, j, rfl, rfl, q⟩ := h
  obtain ⟨t, rfl⟩ := rx
  obtain ⟨t', rfl⟩ := ry
  exact rule i j t t' s _ _ ⟨.bl (g i j), H, I, rfl, q⟩
def CDiv (i j : Int) : Prop := 0 < j ∧ j < 1073741824
def CPow (i j : Int) : Prop := 0 ≤ j ∧ j ≤ 1000000 ∧ i.natAbs < 2 ^ 64
def CMul (i j : Int) : Prop := (-(2 ^ 64) < i ∧ i < 2 ^ 64) ∨ (-(2 ^ 64) < j ∧ j < 2 ^ 64)
theorem CMul.ok {i j : Int} (h : CMul i j) : IntMulOk i j := by
  rcases h with ⟨h1, h2⟩ | ⟨h1, h2⟩
  · exact .of_left (intBits_le_64 h1 h2)
  · exact .of_right (intBits_le_64 h1 h2)
theorem op_add : OpR X (binaryOp .Add) (rI0 fun i j => .int (i + j)) := opI0 fun _ _ _ _ _ _ _ q => add_int q
theorem op_sub : OpR X (binaryOp .Sub) (rI0 fun i j => .int (i - j)) := opI0 fun _ _ _ _ _ _ _ q => sub_int q
theorem op_mul : OpR X (binaryOp .Mult) (rI CMul fun i j => .int (i * j)) := opI fun _ _ _ _ _ _ _ hc q => mul_int q hc.ok
theorem op_fdiv : OpR X (binaryOp .FloorDiv) (rI CDiv fun i j => .int (i / j)) := opI fun i j _ _ _ _ _ hc q => by
  have h1 : (0 : Int) < j := hc.1
  have h2 : j < 1073741824 := hc.2
  exact floordiv_int (by trivial) (by rw [Int.fdiv_eq_ediv_of_nonneg i (by trivial)]; exact q) (.inl (PyProof.noPylong_small (by trivial)))
theorem op_mod : OpR X (binaryOp .Mod) (rI (fun _ j => 0 < j) fun i j => .int (i % j)) := opI fun i j _ _ _ _ _ hc q => by
  have h1 : (0 : Int) < j := hc
  exact mod_int' (by trivial) (by rw [Int.fmod_eq_emod_of_nonneg i (by trivial)]; exact q)
theorem op_modN : OpR X (binaryOp .Mod) (rI (fun _ j => j ≠ 0) fun i j => .int (i.fmod j)) := opI fun _ _ _ _ _ _ _ hc q => mod_int' hc q
theorem op_pow : OpR X (binaryOp .Pow) (rI CPow fun i j => .int (i ^ j.toNat)) := opI fun _ _ _ _ _ _ _ hc q => pow_int_small hc.1 hc.2.1 hc.2.2 q
theorem unI {f : Value → Sem Value} {g : Int → Int}
    (rule : ∀ (i : Int) (t : Tok) (s : Shared) (Q : Value → Shared → Prop) (E : Value → Shared → Prop), Q (.int (g i) s.toks) { s with toks := s.toks + 1 } → wpAny (model X.prog X.w) X.A (f (.int i t)) Q E s) :
    UnR X f (rU fun i => .int (g i)) := by
  intro pins s σ H x v Q I rx h
  obtain ⟨i, rfl, q⟩ := h
  obtain ⟨t, rfl⟩ := rx
  exact rule i t s _ _ ⟨.int (g i), H, I.tok _, ⟨_, rfl⟩, q⟩
theorem un_neg : UnR X (unaryOp .USub) (rU fun i => .int (-i)) := unI fun _ _ _ _ _ q => neg_int q
end
def scal : V → V → Bool
  | .non, .non => true | .non, .int _ => true | .int _, .non => true | .non, .bl _ => true | .bl _, .non => true | .non, .str _ => true | .str _, .non => true
  | .int _, .int _ => true | .bl _, .bl _ => true | .str _, .str _ => true | .byt _, .byt _ => true
  | .int _, .str _ => true | .str _, .int _ => true | .bl _, .str _ => true | .str _, .bl _ => true
  | _, _ => false
def rEq : R2 := fun x y H Q => scal x y = true ∧ Q (.bl (decide (x = y))) H
def rNe : R2 := fun x y H Q => scal x y = true ∧ Q (.bl (!decide (x = y))) H
theorem dec_int {i j : Int} : decide (V.int i = V.int j) = (i == j) := by
  rw [Bool.eq_iff_iff]
  simp
theorem dec_bl {i j : Bool} : decide (V.bl i = V.bl j) = (i == j) := by
  rw [Bool.eq_iff_iff]
  simp
theorem dec_str {i j : Str} : decide (V.str i = V.str j) = (i == j) := by
  rw [Bool.eq_iff_iff]
  simp
theorem dec_byt {i j : Array UInt8} : decide (V.byt i = V.byt j) = (i.toList == j.toList) := by
  rw [Bool.eq_iff_iff]
  cases i
  cases j
  simp
section
variable {X : Cx} {a b c : Expr} {ta tb tc : TE} {pos : Pos}
theorem fin_bl {pins : List (Addr × Obj)} {σ : St} {H : Hp} {s : Shared} {Q : VK} {k k' : Bool} (I : Inv X pins σ H s) (q : Q (.bl k) H) (e : k = k') : EP X pins σ Q (.bool k') s := by
  subst e
  exact ⟨.bl k, H, I, rfl, q⟩
theorem op_eq : OpR X (compareOp .Eq) rEq := by
  intro pins s σ H x y v u Q I rx ry h
  obtain ⟨hs, q⟩ := h
  cases x with
  | non =>
    cases rx
    cases y with
    | non => cases ry; exact PySem.EqNone.eq_none_none (fin_bl I q (by simp))
    | bl j => cases ry; exact PySem.EqNone.eq_none_bool (fin_bl I q (by simp))
    | int j => obtain ⟨t', rfl⟩ := ry; exact PySem.EqNone.eq_none_int (fin_bl I q (by simp))
    | str j => obtain ⟨t', rfl⟩ := ry; exact PySem.EqNone.eq_none_str (fin_bl I q (by simp))
    | _ => exact absurd (show false = true from hs) Bool.false_ne_true
  | bl i =>
    cases rx
    cases y with
    | non => cases ry; exact PySem.EqNone.eq_bool_none (fin_bl I q (by simp))
    | bl j => cases ry; exact eq_bool (fin_bl I q dec_bl)
    | str j => obtain ⟨t', rfl⟩ := ry; exact PySem.EqMixed.eq_bool_str (fin_bl I q (by simp))
    | _ => exact absurd (show false = true from hs) Bool.false_ne_true
  | int i =>
    obtain ⟨t, rfl⟩ := rx
    cases y with
    | non => cases ry; exact PySem.EqNone.eq_int_none (fin_bl I q (by simp))
    | int j => obtain ⟨t', rfl⟩ := ry; exact eq_int (fin_bl I q dec_int)
    | str j => obtain ⟨t', rfl⟩ := ry; exact PySem.EqMixed.eq_int_str (fin_bl I q (by simp))
    | _ => exact absurd (show false = true from hs) Bool.false_ne_true
  | str i =>
    obtain ⟨t, rfl⟩ := rx
    cases y with
    | non => cases ry; exact PySem.EqNone.eq_str_none (fin_bl I q (by simp))
    | bl j => cases ry; exact PySem.EqMixed.eq_str_bool (fin_bl I q (by simp))
    | int j => obtain ⟨t', rfl⟩ := ry; exact PySem.EqMixed.eq_str_int (fin_bl I q (by simp))
    | str j => obtain ⟨t', rfl⟩ := ry; exact eq_str (fin_bl I q dec_str)
    | _ => exact absurd (show false = true from hs) Bool.false_ne_true
  | byt i =>
    obtain ⟨t, rfl⟩ := rx
    cases y with
    | byt j => obtain ⟨t', rfl⟩ := ry; exact PySem.W.eq_bytes (fin_bl I q dec_byt)
    | _ => exact absurd (show false = true from hs) Bool.false_ne_true
  | _ => cases y <;> exact absurd (show false = true from hs) Bool.false_ne_true
theorem op_ne : OpR X (compareOp .NotEq) rNe := by
  intro pins s σ H x y v u Q I rx ry h
  obtain ⟨hs, q⟩ := h
  cases x with
  | non =>
    cases rx
    cases y with
    | non => cases ry; exact PySem.EqNone.ne_none_none (fin_bl I q (by simp))
    | bl j => cases ry; exact PySem.EqNone.ne_none_bool (fin_bl I q (by simp))
    | int j => obtain ⟨t', rfl⟩ := ry; exact PySem.EqNone.ne_none_int (fin_bl I q (by simp))
    | str j => obtain ⟨t', rfl⟩ := ry; exact PySem.EqNone.ne_none_str (fin_bl I q (by simp))
    | _ => exact absurd (show false = true from hs) Bool.false_ne_true
  | bl i =>
    cases rx
    cases y with
    | non => cases ry; exact PySem.EqNone.ne_bool_none (fin_bl I q (by simp))
    | bl j => cases ry; exact ne_bool (fin_bl I q (congrArg not dec_bl))
    | str j => obtain ⟨t', rfl⟩ := ry; exact PySem.EqMixed.ne_bool_str (fin_bl I q (by simp))
    | _ => exact absurd (show false = true from hs) Bool.false_ne_true
  | int i =>
    obtain ⟨t, rfl⟩ := rx
    cases y with
    | non => cases ry; exact PySem.EqNone.ne_int_none (fin_bl I q (by simp))
    | int j => obtain ⟨t', rfl⟩ := ry; exact ne_int (fin_bl I q (congrArg not dec_int))
    | str j => obtain ⟨t', rfl⟩ := ry; exact PySem.EqMixed.ne_int_str (fin_bl I q (by simp))
    | _ => exact absurd (show false = true from hs) Bool.false_ne_true
  | str i =>
    obtain ⟨t, rfl⟩ := rx
    cases y with
    | non => cases ry; exact PySem.EqNone.ne_str_none (fin_bl I q (by simp))
    | bl j => cases ry; exact PySem.EqMixed.ne_str_bool (fin_bl I q (by simp))
    | int j => obtain ⟨t', rfl⟩ := ry; exact PySem.EqMixed.ne_str_int (fin_bl I q (by simp))
    | str j => obtain ⟨t', rfl⟩ := ry; exact ne_str (fin_bl I q (congrArg not dec_str))
    | _ => exact absurd (show false = true from hs) Bool.false_ne_true
  | byt i =>
    obtain ⟨t, rfl⟩ := rx
    cases y with
    | byt j => obtain ⟨t', rfl⟩ := ry; exact PySem.W.ne_bytes (fin_bl I q (congrArg not dec_byt))
    | _ => exact absurd (show false = true from hs) Bool.false_ne_true
  | _ => cases y <;> exact absurd (show false = true from hs) Bool.false_ne_true
theorem op_lt : OpR X (compareOp .Lt) (rI0 fun i j => .bl (decide (i < j))) := opB0 fun _ _ _ _ _ _ _ q => lt_int q
theorem op_gt : OpR X (compareOp .Gt) (rI0 fun i j => .bl (decide (j < i))) := opB0 fun _ _ _ _ _ _ _ q => gt_int q
theorem op_ge : OpR X (compareOp .GtE) (rI0 fun i j => .bl (decide (j ≤ i))) := opB0 fun _ _ _ _ _ _ _ q => ge_int q
theorem op_isN : OpR X (compareOp .Is) (fun x y H Q => y = .non ∧ Q (.bl (decide (x = .non))) H) := by
  intro pins s σ H x y v u Q I rx ry h
  obtain ⟨rfl, q⟩ := h
  cases ry
  refine is_none_gen (fin_bl I q ?_)
  cases x <;> first
    | (cases rx; rfl)
    | (obtain ⟨t, rfl⟩ := rx; rfl)
theorem op_notN : OpR X (compareOp .IsNot) (fun x y H Q => y = .non ∧ Q (.bl (!decide (x = .non))) H) := by
  intro pins s σ H x y v u Q I rx ry h
  obtain ⟨rfl, q⟩ := h
  cases ry
  refine isnot_none_gen (fin_bl I q ?_)
  cases x <;> first
    | (cases rx; rfl)
    | (obtain ⟨t, rfl⟩ := rx; rfl)
theorem nomark (b : Expr) {op : CmpOp} (h : op ≠ .In := by decide) (h2 : op ≠ .NotIn := by decide) : behindInMarks op b = false := by
  have e1 : (op == CmpOp.In) = false := by cases op <;> first | rfl | exact absurd rfl h
  have e2 : (op == CmpOp.NotIn) = false := by cases op <;> first | rfl | exact absurd rfl h2
  cases b <;> simp [behindInMarks, e1, e2]
theorem pe_cmpR {op : CmpOp} {r : R2} (ho : OpR X (compareOp op) r) (ha : PE X a ta) (hb : PE X b tb) (hm : behindInMarks op b = false) : PE X (.Compare a [op] [b] pos) (tOp r ta tb) := by
  intro pins s σ H Q I h
  exact wpAny_Compare1 (binT ha hb I h fun v u s2 x y H2 I2 rx ry q => ho pins s2 σ H2 x y v u Q I2 rx ry q) hm
def tTest (t : TE) : TT := fun σ H Q => t σ H fun x H' => IsBl x fun k => Q k H'
theorem pt_cmpR {op : CmpOp} {r : R2} (ho : OpR X (compareOp op) r) (ha : PE X a ta) (hb : PE X b tb) (hm : behindInMarks op b = false) : PT X (.Compare a [op] [b] pos) (tTest (tOp r ta tb)) := by
  intro pins s σ H Q I h
  refine wpAny_isTrue_Compare1 (thn (ha pins s σ H _ I h) fun v s1 ⟨x, H1, I1, r1, q1⟩ => thn (hb pins s1 σ H1 _ I1 q1) fun u s2 ⟨y, H2, I2, r2, q2⟩ =>
    thn (ho pins s2 σ H2 x y v u _ I2 r1 r2 q2) fun c s3 ⟨z, H3, I3, r3, k, e, q3⟩ => ?_) hm
  subst e
  cases r3
  exact wpAny_truthy_bool ⟨H3, I3, q3⟩
theorem line63 : (sizeLine : Nat) < 2 ^ 63 := by rw [sizeLine_eq]; decide
theorem op_add_str : OpR X (binaryOp .Add) (fun x y H Q => Ex2 fun i j => x = .str i ∧ y = .str j ∧ i.length + j.length ≤ sizeLine ∧ Q (.str (i ++ j)) H) := by
  intro pins s σ H x y v u Q I rx ry h
  obtain ⟨i, j, rfl, rfl, hz, q⟩ := h
  obtain ⟨t, rfl⟩ := rx
  obtain ⟨t', rfl⟩ := ry
  exact add_str (fun t' tk => ⟨.str (i ++ j), H, I.tok _, ⟨_, rfl⟩, q⟩) hz
theorem vals1 {x : V} {us : List Value} (r : Vals [x] us) : ∃ u, us = [u] ∧ RelV x u := by
  cases r with
  | cons r1 r2 => cases r2; exact ⟨_, rfl, r1⟩
theorem vals2 {x y : V} {us : List Value} (r : Vals [x, y] us) : Ex2 fun u w' => us = [u, w'] ∧ RelV x u ∧ RelV y w' := by
  cases r with
  | cons r1 r2 =>
    cases r2 with
    | cons r3 r4 => cases r4; exact ⟨_, _, rfl, r1, r3⟩
theorem call_abs : CallR X (.builtin "abs") (fun xs H Q => ∃ i, xs = [.int i] ∧ Q (.int (if i < 0 then -i else i)) H) := by
  intro pins s σ H xs us Q I r h
  obtain ⟨i, rfl, q⟩ := h
  obtain ⟨u, rfl, t, rfl⟩ := vals1 r
  exact call_abs_int fun u tk => ⟨.int (if i < 0 then -i else i), H, I.tok _, ⟨_, rfl⟩, q⟩
theorem call_max2 (hc : X.calm = true) : CallR X (.builtin "max") (fun xs H Q => Ex2 fun i j => xs = [.int i, .int j] ∧ Q (.int (if j > i then j else i)) H) := by
  intro pins s σ H xs us Q I r h
  obtain ⟨i, j, rfl, q⟩ := h
  obtain ⟨u, w', rfl, ⟨t, rfl⟩, ⟨t', rfl⟩⟩ := vals2 r
  refine max_two_ints (I.ok.hd hc) fun h' tk k => ⟨_, H, I.kept k, ?_, q⟩
  by_cases hj : j > i
  · rw [if_pos hj, if_pos hj]; exact ⟨_, rfl⟩
  · rw [if_neg hj, if_neg hj]; exact ⟨_, rfl⟩
theorem call_min2 (hc : X.calm = true) : CallR X (.builtin "min") (fun xs H Q => Ex2 fun i j => xs = [.int i, .int j] ∧ Q (.int (if j < i then j else i)) H) := by
  intro pins s σ H xs us Q I r h
  obtain ⟨i, j, rfl, q⟩ := h
  obtain ⟨u, w', rfl, ⟨t, rfl⟩, ⟨t', rfl⟩⟩ := vals2 r
  refine min_two_ints (I.ok.hd hc) fun h' tk k => ⟨_, H, I.kept k, ?_, q⟩
  by_cases hj : j < i
  · rw [if_pos hj, if_pos hj]; exact ⟨_, rfl⟩
  · rw [if_neg hj, if_neg hj]; exact ⟨_, rfl⟩
theorem call_int1 : CallR X (.type "int") (fun xs H Q => (∃ i, xs = [.int i] ∧ Q (.int i) H) ∨ ∃ k, xs = [.bl k] ∧ Q (.int (if k then 1 else 0)) H) := by
  intro pins s σ H xs us Q I r h
  rcases h with ⟨i, rfl, q⟩ | ⟨k, rfl, q⟩
  · obtain ⟨u, rfl, t, rfl⟩ := vals1 r
    exact call_int_int ⟨.int i, H, I, ⟨_, rfl⟩, q⟩
  · obtain ⟨u, rfl, r1⟩ := vals1 r
    cases r1
    exact call_int_bool ⟨.int (if k then 1 else 0), H, I.tok _, ⟨_, rfl⟩, q⟩
end
end L2
namespace L2
open PySem PySem.Spec PyProof.Rows
structure ObjM (h : Heap) (x dx C : Addr) (mA : Str → Option Value) : Prop where
  obj : h.get? x = some (PySem.W.instObj C dx)
  ns : h.Ns1 dx mA
  ne : dx ≠ x
theorem lookIn_ns {h : Heap} {dx : Addr} {mA : Str → Option Value} (n : h.Ns1 dx mA) : ∃ od, h.get? dx = some od ∧ ∀ name, PySem.W.lookIn name od = some (mA name) := by
  obtain ⟨o, es, ep, ho, hd, hk, _, hm⟩ := n
  refine ⟨o, ho, fun name => ?_⟩
  have e := hm name
  unfold nsFind findBy at e
  rw [← Array.find?_toList] at e
  unfold PySem.W.lookIn
  rw [hd]
  dsimp only
  split
  · rename_i y q
    rw [q] at e
    exact congrArg some e
  · rename_i q
    rw [q] at e
    have a : es.toList.any (·.refKey) = false := by
      rw [List.any_eq_false]
      intro y hy
      obtain ⟨z, t, hkey⟩ := hk y (Array.mem_toList_iff.mp hy)
      simp [DictEntry.refKey, hkey]
    have a' : ¬ es.toList.any (·.refKey) = true := by rw [a]; exact Bool.false_ne_true
    rw [if_neg a']
    exact congrArg some e
theorem ObjM.look {h : Heap} {x dx C : Addr} {mA : Str → Option Value} (I : ObjM h x dx C mA) : ∃ od, PySem.W.InstAt h x (PySem.W.instObj C dx) C (some od) ∧ ∀ name, PySem.W.lookIn name od = some (mA name) :=
  let ⟨od, ho, hl⟩ := lookIn_ns I.ns
  ⟨od, ⟨I.obj, rfl, rfl, ho⟩, hl⟩
section
variable {prog : Program} {w : World} {A : Around} {E : Value → Shared → Prop} {s : Shared} {K : PySem.W.Frag} {x dx C f : Addr} {mA : Str → Option Value} {name : Str} {v : Value}
end
theorem RelO.some_of {v : V} {o : Option Value} (r : RelO (some v) o) : ∃ u, o = some u ∧ RelV v u := by
  cases o with
  | none => exact (show False from r).elim
  | some u => exact ⟨u, rfl, r⟩
section
variable {P : Program} {w : World} {H H' : Hp} {h h' : Heap} {a C dx : Addr} {fs fs' : List (Str × V)}
theorem ins_get (hok : HOk P w H h) (e : H a = some (.ins C dx fs)) : ∃ mA, ObjM h a dx C mA ∧ (∀ f, RelO (fs.lookup f) (mA f)) ∧ PySem.Within mA (fs.map (·.1)) ∧ fs.length ≤ 1000 ∧ H dx = some (.own a) := by
  obtain ⟨d, z, ne, ob, mA, n, r, q⟩ := (show ObjOk P w H h a (.ins C dx fs) from hok a _ e)
  exact ⟨mA, ⟨ob, n, ne⟩, r, q, z, d⟩
end
structure Cls (K : PySem.W.Frag) (C : Addr) : Prop where
  pg : PySem.W.plainGet K C Str.empty = true
  hd : PySem.W.hasDictIn K C = true
  po : PySem.W.plainOver K C = true
  sa : PySem.W.findIn K (.ref C) "__setattr__" = some (some (.builtin "object.__setattr__"))
theorem Cls.get {K : PySem.W.Frag} {C : Addr} (c : Cls K C) (f : Str) : PySem.W.plainGet K C f = true := c.pg
section
variable {X : Cx} {pins : List (Addr × Obj)} {σ : St} {H : Hp} {s : Shared} {a C dx : Addr} {fs : List (Str × V)} {f : Str} {v : V} {A : Around} {E : Value → Shared → Prop}
end
section
variable {X : Cx} {o e value : Expr} {f : Str} {pos pos' tpos : Pos} {ta tv : TE}
end
section
variable {X : Cx} {pins : List (Addr × Obj)} {σ : St} {H : Hp} {s : Shared} {A : Around} {E : Value → Shared → Prop} {Q : Value → Shared → Prop} {c : Value} {b : Bool}
inductive TyOf (K : PySem.W.Frag) (H : Hp) : V → Value → Prop where
  | non : TyOf K H .non (.type "NoneType")
  | bl (x : Bool) : TyOf K H (.bl x) (.type "bool")
  | int (i : Int) : TyOf K H (.int i) (.type "int")
  | str (x : Str) : TyOf K H (.str x) (.type "str")
  | flt (x : UInt64) : TyOf K H (.flt x) (.type "float")
  | lst {a : Addr} {xs : List V} (e : H a = some (.lst xs)) : TyOf K H (.ref a) (.type "list")
  | frz {a : Addr} {o : Obj} {xs : List V} (e : H a = some (.frz o (.lst xs))) : TyOf K H (.ref a) (.type "list")
  | tup {a : Addr} {xs : List V} (e : H a = some (.tup xs)) : TyOf K H (.ref a) (.type "tuple")
  | dK {a : Addr} {kvs : List (Key × V)} (e : H a = some (.dK kvs)) : TyOf K H (.ref a) (.type "dict")
  | dT {a : Addr} {kvs : List (List Key × V)} (e : H a = some (.dT kvs)) : TyOf K H (.ref a) (.type "dict")
  | ins {a C dx : Addr} {fs : List (Str × V)} (e : H a = some (.ins C dx fs)) (cl : Cls K C) (ha : PySem.W.findIn K (.ref C) "__class__" = some (some (.builtin "object.__class__")))
      (hn : PySem.W.specialIn K (.builtin "object.__class__") "__get__" = some (some (.builtin "getset_descriptor.__get__"))) (htk : PySem.W.takesIn K (.builtin "object.__class__") = some true)
      (hm : PySem.W.mroIn K C (.type "object") = some true) : TyOf K H (.ref a) (.ref C)
theorem isinst_ok {x : V} {u t : Value} (I : Inv X pins σ H s) (rx : RelV x u) (ty : TyOf X.K H x t) (e : PySem.W.kitOne X.K t c = some b) (h : ∀ tk, Q (.bool b) { s with toks := tk }) :
    wpAny (model X.prog X.w) A (call (.builtin "isinstance") [u, c]) Q E s := by
  cases ty with
  | non => cases (show u = Value.none from rx); exact PySem.W.kia_one PySem.W.kitx_none I.kIn True.intro e (fun z => nomatch z) h
  | bl y => cases (show u = Value.bool y from rx); exact PySem.W.kia_one PySem.W.kitx_bool I.kIn True.intro e (fun z => nomatch z) h
  | int i => obtain ⟨t, q⟩ := (show ∃ t, u = Value.int i t from rx); cases q; exact PySem.W.kia_one PySem.W.kitx_int I.kIn True.intro e (fun z => nomatch z) h
  | str y => obtain ⟨t, q⟩ := (show ∃ t, u = Value.str y t from rx); cases q; exact PySem.W.kia_one PySem.W.kitx_str I.kIn True.intro e (fun z => nomatch z) h
  | flt y => obtain ⟨t, q⟩ := (show ∃ t, u = Value.float y t from rx); cases q; exact PySem.W.kia_one PySem.W.kitx_float I.kIn True.intro e (fun z => nomatch z) h
  | @lst a xs ea =>
    cases (show u = Value.ref a from rx)
    obtain ⟨_, _, n, _, h1⟩ := (show ObjOk X.prog X.w H s.heap a (.lst xs) from I.hok a _ ea)
    exact PySem.W.kia_one PySem.W.kitx_list I.kIn ⟨_, h1, rfl⟩ e (fun z => nomatch z) h
  | @frz a ob xs ea =>
    cases (show u = Value.ref a from rx)
    obtain ⟨_, _, _, n, _, h1⟩ := (show ObjOk X.prog X.w H s.heap a (.frz ob (.lst xs)) from I.hok a _ ea)
    exact PySem.W.kia_one PySem.W.kitx_list I.kIn ⟨_, h1, rfl⟩ e (fun z => nomatch z) h
  | @tup a xs ea =>
    cases (show u = Value.ref a from rx)
    obtain ⟨_, _, _, p, _⟩ := (show ObjOk X.prog X.w H s.heap a (.tup xs) from I.hok a _ ea)
    obtain ⟨o, h1, h2, _⟩ := p
    exact PySem.W.kia_one PySem.W.kitx_tuple I.kIn ⟨o, h1, h2⟩ e (fun z => nomatch z) h
  | @dK a kvs ea =>
    cases (show u = Value.ref a from rx)
    obtain ⟨_, _, vs, _, p⟩ := (show ObjOk X.prog X.w H s.heap a (.dK kvs) from I.hok a _ ea)
    obtain ⟨o, es, ep, h1, h2, _⟩ := p
    exact PySem.W.kia_one PySem.W.kitx_dict I.kIn ⟨o, h1, h2.1⟩ e (fun z => nomatch z) h
  | @dT a kvs ea =>
    cases (show u = Value.ref a from rx)
    obtain ⟨_, _, xs, _, o, es, ep, h1, h2, _⟩ := (show ObjOk X.prog X.w H s.heap a (.dT kvs) from I.hok a _ ea)
    exact PySem.W.kia_one PySem.W.kitx_dict I.kIn ⟨o, h1, h2.1⟩ e (fun z => nomatch z) h
  | @ins a C dx fs ea cl ha hn htk hm =>
    cases (show u = Value.ref a from rx)
    obtain ⟨mA, O, _⟩ := ins_get I.hok ea
    obtain ⟨od, J, _⟩ := O.look
    exact PySem.W.kia_one (PySem.W.kitx_own (cl.get _) cl.hd ha hn htk hm) I.kIn J e (fun z => nomatch z) h
end
end L2
namespace L2
open PySem PySem.Spec PyProof.Rows
structure Room (k : Nat) (A : Around) : Prop where
  hd : A.handled = none
  dp : A.depth + 3 * k + 5 < recursionLimit
  un : A.units + 16 * k + 200 < cLine
  gd : A.guards = some []
theorem Room.mono {j k : Nat} {A : Around} (r : Room k A) (h : j ≤ k) : Room j A := ⟨r.hd, by have := r.dp; trivial, by have := r.un; trivial, r.gd⟩
theorem Room.deeper {k : Nat} {A : Around} (r : Room (k + 1) A) (env : Env) : Room k (A.deeper env) :=
  ⟨r.hd, by have := r.dp; show A.depth + 1 + 3 * k + 5 < _; trivial, by have := r.un; show A.units + 3 + 16 * k + 200 < _; trivial, r.gd⟩
theorem Room.depth {k : Nat} {A : Around} (r : Room k A) : A.depth < recursionLimit := by have := r.dp; trivial
theorem Room.units {k : Nat} {A : Around} (r : Room k A) : A.units + 64 < cLine := by have := r.un; trivial
def tNil : TA := fun _ H Q => Q [] H
def tCons (ta : TE) (tr : TA) : TA := fun σ H Q => ta σ H fun x H1 => tr σ H1 fun xs H2 => Q (x :: xs) H2
section
variable {X : Cx} {e : Expr} {es : List Expr} {te : TE} {t : TA} {pos : Pos}
theorem pa_nil : PA X [] tNil := fun _ _ _ _ H Q I h => Calls.spliced_nil ⟨[], H, I, .nil, h⟩
theorem pa_cons (ha : PE X e te) (hr : PA X es t) (hs : starEach (e :: es) X.env = (false, eval e X.env) :: starEach es X.env := by rfl) : PA X (e :: es) (tCons te t) := by
  intro pos pins s σ H Q I h
  rw [hs]
  show wpAny _ _ (spliced ((false, eval e X.env) :: backTo pos (starEach es X.env))) _ _ s
  refine Calls.spliced_cons (thn (ha pins s σ H _ I h) fun u s1 ⟨x, H1, I1, r1, q1⟩ => ?_)
  exact thn (hr pos pins s1 σ H1 _ I1 q1) fun us s2 ⟨xs, H2, I2, r2, q2⟩ => ⟨x :: xs, H2, I2, .cons r1 r2, q2⟩
def tLst (t : TA) : TE := fun σ H Q => t σ H fun xs H1 => xs.length ≤ sizeLine ∧ ∀ p, H1 p = none → Q (.ref p) (upd H1 p (.lst xs))
theorem pe_lst (h : PA X es t) : PE X (.List es pos) (tLst t) := by
  intro pins s σ H Q I hq
  refine wpAny_List_spliced (thn (h pos pins s σ H _ I hq) fun us s1 ⟨xs, H1, I1, r, z, q⟩ => ⟨by rw [← r.length]; exact z, ?_⟩)
  have hf : H1 s1.heap.objs.size = none := I1.hok.fresh (Nat.le_refl _)
  refine ⟨.ref s1.heap.objs.size, upd H1 s1.heap.objs.size (.lst xs), I1.laid (t' := s1.toks) (fun b u e => Heap.get?_push_of_some _ e) (Nat.le_refl _) ?_, rfl, q _ hf⟩
  exact ⟨z, us, 0, r, Heap.get?_push_size _ rfl⟩
end
abbrev Sp := List V → Hp → VK → XK → Prop
abbrev CXT := List Env → Hp → Shared → XK → Value → Shared → Prop
structure Env0 (P : Program) (w : World) (K : PySem.W.Frag) (mg : Str → Option Value) (base : Heap) (A : Around) (outer : List Env) (s : Shared) (H : Hp) : Prop where
  frames : A.frames = some outer
  mod : Mod K mg base
  bs : ∀ b o, base.get? b = some o → s.heap.get? b = some o ∧ H b = none
  bsz : base.objs.size ≤ s.heap.objs.size
  funs : s.heap.FunFrames base outer
  frf : ∀ b ∈ frs outer, H b = none
  hok : HOk P w H s.heap
  bare : AllBare s.gens
def CE (outer : List Env) (P : Program) (w : World) (H : Hp) (s : Shared) (Q : VK) (u : Value) (s' : Shared) : Prop :=
  Ex2 fun v H' => s'.os = s.os ∧ AllBare s'.gens ∧ Un (frs outer) [] H H' s.heap s'.heap ∧ HOk P w H' s'.heap ∧ RelV v u ∧ Q v H'
def CR (CX : CXT) (outer : List Env) (P : Program) (w : World) (H : Hp) (s : Shared) (Q : VK) (E : XK) (r : Result) (s' : Shared) : Prop :=
  match r with
  | .ok (.ret u) => CE outer P w H s Q u s'
  | .ok _ => False
  | .error e => CX outer H s E e s'
structure FnOk (P : Program) (w : World) (K : PySem.W.Frag) (mg : Str → Option Value) (base : Heap) (CX : CXT) (k : Nat) (f : Addr) (fd : FuncData) (ps : List Str) (sp : Sp) : Prop where
  len : ∀ vs H Q E, sp vs H Q E → vs.length = ps.length
  run : ∀ (A : Around) (outer : List Env) (s : Shared) (H : Hp) (args : Args) (us : List Value) (vs : List V) (Q : VK) (E : XK), Room k A → Env0 P w K mg base A outer s H → BindsTo s fd args (ps.zip us) → Vals vs us → sp vs H Q E →
    codeAny (model P w) A (.call (.ref f) args) (CR CX outer P w H s Q E) s
section
variable {X : Cx} {pins : List (Addr × Obj)} {σ : St} {H : Hp} {s s' : Shared}
theorem Inv.env0 (I : Inv X pins σ H s) : Env0 X.prog X.w X.K X.mg X.base X.A X.stack s H :=
  ⟨I.ok.frames, I.ok.mod, I.bs, Nat.le_trans I.ok.bsz I.sz, I.stack, I.stkFree, I.hok, I.bare⟩
theorem Inv.after {Q : VK} {u : Value} (I : Inv X pins σ H s) (h : CE X.stack X.prog X.w H s Q u s') : EP X pins σ Q u s' := by
  obtain ⟨v, H', os, bare, un, hok, r, q⟩ := h
  obtain ⟨hh, g, d, t, os'⟩ := s'
  obtain rfl : os' = s.os := os
  exact ⟨v, H', I.call (h' := hh) (g' := g) (d' := d) (t' := t) (ch := []) un hok bare (fun b z => absurd z (by simp)), r, q⟩
end
def tCall (sp : Sp) (dvs : List V) (E : XK) (t : TA) : TE := fun σ H Q => t σ H fun vs H1 => sp (vs ++ dvs) H1 Q E
def Binds (K : PySem.W.Frag) (fd : FuncData) (ps : List Str) (ds : List Value) : Prop :=
  ∀ (s : Shared) (us : List Value), K.In s.heap → (us ++ ds).length = ps.length → BindsTo s fd ⟨us, []⟩ (ps.zip (us ++ ds))
theorem Binds.all {K : PySem.W.Frag} {fd : FuncData} {ps : List Str} (h : ∀ us : List Value, us.length = ps.length → bindArgs fd ⟨us, []⟩ = pure (ps.zip us)) : Binds K fd ps [] := fun s us _ hl => by
  rw [List.append_nil] at hl ⊢
  exact .of_eq (h us hl)
def Passes (CX : CXT) (X : Cx) (E : XK) : Prop := ∀ (pins : List (Addr × Obj)) (σ : St) (H : Hp) (s : Shared) (e : Value) (s' : Shared), Inv X pins σ H s → CX X.stack H s E e s' → X.xe e s'
section
variable {X : Cx} {CX : CXT} {k : Nat} {f C : Addr} {fd : FuncData} {ps : List Str} {sp : Sp} {dvs : List V} {ds : List Value} {E : XK} {x m : Str} {p pos apos : Pos} {e o : Expr} {es : List Expr} {ta : TE} {t : TA}
theorem run_fn {pins : List (Addr × Obj)} {σ : St} {H : Hp} {s : Shared} {Q : VK} {us : List Value} {vs : List V} (F : FnOk X.prog X.w X.K X.mg X.base CX k f fd ps sp) (hr : Room k X.A) (hb : Binds X.K fd ps ds) (hd : Vals dvs ds) (hx : Passes CX X E)
    (I : Inv X pins σ H s) (r : Vals vs us) (h : sp (vs ++ dvs) H Q E) : wpAny (model X.prog X.w) X.A (call (.ref f) us) (EP X pins σ Q) X.xe s := by
  have r2 : Vals (vs ++ dvs) (us ++ ds) := r.append hd
  have hl : (us ++ ds).length = ps.length := by rw [← r2.length]; exact F.len _ _ _ _ h
  refine wpAny_call (codeAny_mono (F.run X.A X.stack s H ⟨us, []⟩ (us ++ ds) (vs ++ dvs) Q E hr I.env0 (hb s us I.kIn hl) r2 h) fun r s' hq => ?_)
  cases r with
  | error e => exact hx pins σ H s e s' I hq
  | ok fl =>
    cases fl with
    | ret u => exact I.after hq
    | next => exact False.elim hq
    | brk => exact False.elim hq
    | cont => exact False.elim hq
theorem pe_call (F : FnOk X.prog X.w X.K X.mg X.base CX k f fd ps sp) (hr : Room k X.A) (hg : Gl X x) (hm : X.mg x = some (.ref f)) (hk : PySem.W.keepIn X.K (.ref f) = true) (hb : Binds X.K fd ps ds) (hd : Vals dvs ds) (hx : Passes CX X E)
    (ha : PA X (e :: es) t) (hdb : (x == ("__debug__" : Str)) = false := by decide) (he : starEach (e :: es) X.env = (false, eval e X.env) :: starEach es X.env := by rfl) (hpl : (backTo pos (starEach es X.env)).any (·.1) = false := by rfl) :
    PE X (.Call (.Name x p) (e :: es) [] pos) (tCall sp dvs E t) := by
  intro pins s σ H Q I h
  refine wpAny_Call_Name_kw (ld_glob I hg hm ?_ hdb)
  refine PySem.W.callWith_K (h₀ := X.base) I.ok.mod.kin hk (thn (ha pos pins s σ H _ I h) fun us s1 ⟨vs, H1, I1, r, q⟩ => ⟨I1.kIn, ?_⟩) he hpl
  exact run_fn F hr hb hd hx I1 r q
end
section
variable {X : Cx} {CX : CXT} {k : Nat} {f C : Addr} {fd : FuncData} {ps ks : List Str} {sp : Sp} {E : XK} {x m : Str} {p pos apos kpos : Pos} {e o : Expr} {es : List Expr} {kws : List Keyword} {te ta : TE} {t tk : TA} {nm : Option Str}
variable {g : List Value → List Value → List Value} {gV : List V → List V → List V}
end
structure FnScope (N P : List Str) (sc : Scope) : Prop where
  kind : sc.kind = .function
  co : sc.isCoroutine = false
  gen : sc.isGenerator = false
  nd : N.Nodup
  pre : N.take P.length = P
  par : ∀ x ∈ P, sc.names.lookup x = some .local ∨ sc.names.lookup x = some .cell
  nofree : ∀ y ∈ sc.names, y.2 ≠ .free
theorem bindL_out {kindOf : Str → Option NameKind} {x : Str} : ∀ {binds : List (Str × Value)} {m : Str → Option Value}, (∀ v, (x, v) ∉ binds) → bindL kindOf binds m x = m x
  | [], _, _ => rfl
  | (n, v) :: r, m, h => by
    unfold bindL
    rw [bindL_out fun w hw => h w (List.mem_cons_of_mem _ hw)]
    split
    · have : x ≠ n := by rintro rfl; exact h v List.mem_cons_self
      simp [this]
    · rfl
theorem bindC_out {kindOf : Str → Option NameKind} {x : Str} : ∀ {binds : List (Str × Value)} {m : Str → Option Value}, (∀ v, (x, v) ∉ binds) → bindC kindOf binds m x = m x
  | [], _, _ => rfl
  | (n, v) :: r, m, h => by
    unfold bindC
    rw [bindC_out fun w hw => h w (List.mem_cons_of_mem _ hw)]
    split
    · rfl
    · have : x ≠ n := by rintro rfl; exact h v List.mem_cons_self
      simp [this]
theorem bindL_get {kindOf : Str → Option NameKind} {x : Str} {v : Value} : ∀ {P : List Str} {vs : List Value} {i : Nat} {m : Str → Option Value}, P.Nodup → P[i]? = some x → vs[i]? = some v → kindOf x = some .local →
    bindL kindOf (P.zip vs) m x = some v
  | [], _, _, _, _, h, _, _ => by simp at h
  | _ :: _, [], _, _, _, _, h, _ => by simp at h
  | p :: P, w :: vs, 0, m, nd, h1, h2, hk => by
    simp at h1 h2; subst h1; subst h2
    show bindL kindOf ((p, w) :: P.zip vs) m p = _
    unfold bindL
    rw [bindL_out fun v hv => (List.nodup_cons.mp nd).1 (List.of_mem_zip hv).1, if_pos hk]
    simp
  | p :: P, w :: vs, i + 1, m, nd, h1, h2, hk => by
    show bindL kindOf ((p, w) :: P.zip vs) m x = _
    unfold bindL
    exact bindL_get (i := i) (List.nodup_cons.mp nd).2 (by simpa using h1) (by simpa using h2) hk
theorem bindC_get {kindOf : Str → Option NameKind} {x : Str} {v : Value} : ∀ {P : List Str} {vs : List Value} {i : Nat} {m : Str → Option Value}, P.Nodup → P[i]? = some x → vs[i]? = some v → kindOf x ≠ some .local →
    bindC kindOf (P.zip vs) m x = some v
  | [], _, _, _, _, h, _, _ => by simp at h
  | _ :: _, [], _, _, _, _, h, _ => by simp at h
  | p :: P, w :: vs, 0, m, nd, h1, h2, hk => by
    simp at h1 h2; subst h1; subst h2
    show bindC kindOf ((p, w) :: P.zip vs) m p = _
    unfold bindC
    rw [bindC_out fun v hv => (List.nodup_cons.mp nd).1 (List.of_mem_zip hv).1, if_neg hk]
    simp
  | p :: P, w :: vs, i + 1, m, nd, h1, h2, hk => by
    show bindC kindOf ((p, w) :: P.zip vs) m x = _
    unfold bindC
    exact bindC_get (i := i) (List.nodup_cons.mp nd).2 (by simpa using h1) (by simpa using h2) hk
def start (N : List Str) (vs : List V) : St := vs.map some ++ List.replicate (N.length - vs.length) none
def cxOf (CX : CXT) (P : Program) (w : World) (K : PySem.W.Frag) (mg : Str → Option Value) (base : Heap) (N : List Str) (qual : Str) (scope : Scope) (f : Addr) (cd : Value) (A : Around) (outer : List Env) (s : Shared) (H : Hp) (E : XK) : Cx where
  prog := P
  w := w
  K := K
  mg := mg
  base := base
  A := A.deeper (envOfC qual scope s.heap.objs.size f cd)
  N := N
  s₀ := s
  H₀ := H
  env := envOfC qual scope s.heap.objs.size f cd
  outer := outer
  stack := envOfC qual scope s.heap.objs.size f cd :: outer
  ex := []
  calm := true
  fn := fun _ => true
  pn := []
  xe := fun e s' => wpAny (model P w) (A.deeper (envOfC qual scope s.heap.objs.size f cd)) (leaving (envOfC qual scope s.heap.objs.size f cd) e) (fun _ s'' => CX outer H s E e s'') (fun e' s'' => CX outer H s E e' s'') s'
theorem cell_has {sc : Scope} {n : Nat} {x : Str} (h : sc.names.lookup x = some .cell) : ∃ c, (cellsFrom n sc.names []).lookup x = some c := by
  have q := PySem.W.cellsFrom_some sc.names n [] (.inl h)
  exact Option.isSome_iff_exists.mp q
theorem inv_start {CX : CXT} {P : Program} {w : World} {K : PySem.W.Frag} {mg : Str → Option Value} {base : Heap} {N ps : List Str} {qual : Str} {scope : Scope} {f : Addr} {cd : Value} {A : Around} {outer : List Env} {s s1 : Shared} {H : Hp} {E : XK} {us : List Value} {vs : List V}
    (S : FnScope N ps scope) (hd : A.handled = none) (e0 : Env0 P w K mg base A outer s H) (hl : vs.length = ps.length) (r : Vals vs us)
    (x : InCallC s s.heap.objs.size (bindL (envOfC qual scope s.heap.objs.size f cd).kindOf (ps.zip us) fun _ => none) (cellsFrom (s.heap.objs.size + 1) scope.names []) (bindC (envOfC qual scope s.heap.objs.size f cd).kindOf (ps.zip us) fun _ => none) s1) :
    Inv (cxOf CX P w K mg base N qual scope f cd A outer s H E) [] (start N vs) H s1 := by
  have hpl : ps.length ≤ N.length := by have := congrArg List.length S.pre; rw [List.length_take] at this; trivial
  obtain ⟨h1, tk, rfl, hk⟩ := x.done
  have noA : ∀ b : Addr, b ∉ (cxOf CX P w K mg base N qual scope f cd A outer s H E).ex := fun b z => absurd (show b ∈ ([] : List Addr) from z) (by simp)
  refine ⟨⟨e0.mod, S.kind, rfl, rfl, Nat.le_refl _, fun y z c h1 h2 => ?_, fun y hy => ?_, fun y c _ h => ?_, fun _ => hd, Around.frames_deeper e0.frames, .inr ⟨rfl, rfl⟩, fun b z => absurd z (noA b), e0.bs, e0.bsz, fun b _ _ => noA b, fun b z => absurd z (noA b), e0.funs, e0.frf⟩,
    rfl, e0.bare, Un.kept hk, ⟨_, x.toInCall.ns, fun i y v h1 h2 h3 => ?_⟩, fun y c h => ⟨_, x.cell y c h⟩, e0.hok.fresh (Nat.le_refl _), fun y c h => ?_, fun p hp => absurd (show p ∈ ([] : List (Addr × Obj)) from hp) (by simp), e0.hok.kept hk, ?_⟩
  · exact name_of_addr x.apart (PySem.mem_of_lookup h1) (PySem.mem_of_lookup h2)
  · have hy : scope.names.lookup y = some .cell ∨ scope.names.lookup y = some .free := hy
    rcases hy with hy | hy
    · exact cell_has hy
    · exact absurd rfl (S.nofree _ (PySem.mem_of_lookup hy))
  · exact Nat.le_of_lt (x.above y c (PySem.mem_of_lookup h))
  · have hi : i < vs.length := by
      unfold start at h2
      by_cases hi : i < vs.length
      · exact hi
      · rw [List.getElem?_append_right (by simpa using hi)] at h2
        rw [List.getElem?_replicate] at h2
        split at h2 <;> cases h2
    have ha : vs[i]? = some v := by
      unfold start at h2
      rw [List.getElem?_append_left (by simpa using hi), List.getElem?_map] at h2
      cases e : vs[i]? with
      | none => rw [e] at h2; cases h2
      | some a => rw [e] at h2; cases h2; rfl
    obtain ⟨u, hu, rv⟩ := r.get ha
    have hp : ps[i]? = some y := by
      rw [← S.pre, List.getElem?_take_of_lt (by trivial)]; exact h1
    have ndP : ps.Nodup := by rw [← S.pre]; exact S.nd.sublist (List.take_sublist _ _)
    refine ⟨u, rv, ?_⟩
    rcases S.par y (List.mem_of_getElem? hp) with k | k
    · exact .inl ⟨k, bindL_get ndP hp hu k⟩
    · obtain ⟨c, e⟩ := cell_has (n := s.heap.objs.size + 1) k
      refine .inr ⟨.inl k, c, e, ?_⟩
      have q := x.cell y c e
      rw [bindC_get ndP hp hu (by show scope.names.lookup y ≠ _; rw [k]; decide)] at q
      exact q
  · exact e0.hok.fresh (Nat.le_of_lt (x.above y c (PySem.mem_of_lookup h)))
  · unfold start
    show _ = N.length
    rw [List.length_append, List.length_map, List.length_replicate]
    trivial
theorem fn_of {CX : CXT} {P : Program} {w : World} {K : PySem.W.Frag} {mg : Str → Option Value} {base : Heap} {k : Nat} {f : Addr} {name qual : Str} {params : Arguments} {body : List Stmt} {scope : Scope} {dV kV doc pm cdv ct oc : Value} {an od : Option Addr}
    {osl : Array (Option Value)} {N ps : List Str} {sp : Sp} (lk : K.lookup f = some ⟨oc, od, .func (PySem.W.fnOf name qual params body scope dV kV doc pm an cdv ct), osl⟩) (hcd : PySem.W.codeIn K cdv qual = true) (S : FnScope N ps scope)
    (len : ∀ vs H Q E, sp vs H Q E → vs.length = ps.length)
    (hbody : ∀ (A : Around) (outer : List Env) (s : Shared) (H : Hp) (vs : List V) (Q : VK) (E : XK), Room k (A.deeper (envOfC qual scope s.heap.objs.size f cdv)) → sp vs H Q E →
      ∃ t, PSs (cxOf CX P w K mg base N qual scope f cdv A outer s H E) body t ∧ t { nx := fun _ H' => Q .non H', rt := Q } (start N vs) H) :
    FnOk P w K mg base CX (k + 1) f (PySem.W.fnOf name qual params body scope dV kV doc pm an cdv ct) ps sp := by
  refine ⟨len, fun A outer s H args us vs Q E hr e0 hb r hsp => ?_⟩
  have hl := len _ _ _ _ hsp
  have KX : K.In s.heap := e0.mod.kin.keeps fun b o e => (e0.bs b o e).1
  have lim : s.heap.NoLimit := e0.mod.nolimit.keeps fun b o e => (e0.bs b o e).1
  have hkind : ∀ y ∈ ps.zip us, scope.names.lookup y.1 = some .local ∨ (scope.names.lookup y.1 = some .cell ∧ ((cellsFrom (s.heap.objs.size + 1) scope.names []).lookup y.1).isSome = true) := fun ⟨n, v⟩ hy => by
    rcases S.par n (List.of_mem_zip hy).1 with q | q
    · exact .inl q
    · exact .inr ⟨q, PySem.W.cellsFrom_some _ _ _ (.inl q)⟩
  refine codeAny_call_function hr.depth (KX _ _ lk) rfl S.co S.gen rfl (PySem.W.codeRec_of KX hcd) (hb _ _ _ _ ?_)
  refine wpAny_newFunctionEnv_cells S.kind hkind fun env he s1 x => ?_
  subst he
  refine ⟨lim.keeps x.toInCall.keep, codeAny_func ?_⟩
  obtain ⟨t, ht, hq⟩ := hbody A outer s H vs Q E (hr.deeper _) hsp
  have I : Inv (cxOf CX P w K mg base N qual scope f cdv A outer s H E) [] (start N vs) H s1 := inv_start S hr.hd e0 hl r x
  refine wpAny_mono (ht [] s1 (start N vs) H _ I hq) (fun fl s' hs => ?_) fun e s' hs => hs
  have fin : ∀ {σ' : St} {H' : Hp} {v : V} {u : Value}, Inv (cxOf CX P w K mg base N qual scope f cdv A outer s H E) [] σ' H' s' → RelV v u → Q v H' → CE outer P w H s Q u s' :=
    fun {σ' H' v u} J rv q => ⟨v, H', J.os, J.bare, J.base, J.hok, rv, q⟩
  cases fl with
  | ret u =>
    obtain ⟨v, σ', H', J, rv, q⟩ := hs
    exact fin J rv q
  | next =>
    obtain ⟨σ', H', J, q⟩ := hs
    exact fin (v := V.non) (u := Value.none) J rfl q
  | brk =>
    obtain ⟨_, _, _, q⟩ := hs
    exact False.elim q
  | cont =>
    obtain ⟨_, _, _, q⟩ := hs
    exact False.elim q
end L2
namespace L2
open PySem PySem.Spec PyProof.Rows
section
variable {X : Cx} {x : Str} {p pos : Pos} {e : Expr} {es : List Expr} {t : TA} {id T : String} {r : List V → Hp → VK → Prop}
def tCB (r : List V → Hp → VK → Prop) (t : TA) : TE := fun σ H Q => t σ H fun vs H1 => r vs H1 Q
theorem pe_callB (hc : CallR X (.builtin id) r) (hg : Gl X x) (hm : X.mg x = none) (hv : bootBuiltins x = some (.builtin id)) (ha : PA X (e :: es) t) (hn : x ≠ "__name__" := by decide) (hdb : (x == ("__debug__" : Str)) = false := by decide)
    (he : starEach (e :: es) X.env = (false, eval e X.env) :: starEach es X.env := by rfl) (hpl : (backTo pos (starEach es X.env)).any (·.1) = false := by rfl) : PE X (.Call (.Name x p) (e :: es) [] pos) (tCB r t) := by
  intro pins s σ H Q I h
  refine wpAny_Call_Name_kw (ld_blt I hg hm hv ?_ hn hdb)
  exact PyProof.Rows.callWith_builtin1 (thn (ha pos pins s σ H _ I h) fun us s1 ⟨vs, H1, I1, r1, q1⟩ => hc pins s1 σ H1 vs us Q I1 r1 q1) he hpl
theorem pe_callTy (hc : CallR X (.type T) r) (hg : Gl X x) (hm : X.mg x = none) (hv : bootBuiltins x = some (.type T)) (ha : PA X (e :: es) t) (hn : x ≠ "__name__" := by decide) (hdb : (x == ("__debug__" : Str)) = false := by decide)
    (he : starEach (e :: es) X.env = (false, eval e X.env) :: starEach es X.env := by rfl) (hpl : (backTo pos (starEach es X.env)).any (·.1) = false := by rfl) : PE X (.Call (.Name x p) (e :: es) [] pos) (tCB r t) := by
  intro pins s σ H Q I h
  refine wpAny_Call_Name_kw (ld_blt I hg hm hv ?_ hn hdb)
  exact PyProof.Rows.callWith_type1 (thn (ha pos pins s σ H _ I h) fun us s1 ⟨vs, H1, I1, r1, q1⟩ => hc pins s1 σ H1 vs us Q I1 r1 q1) he hpl
end
end L2
namespace HT
open PySem PyProof.Rows
section
open PySem.SeqAt
open PySem.AutoSeq1 (wpAny_loadPart')
open PySem.MeetsSeq PySem.MeetsSeq2 PySem.MeetsSeq3
end
section
variable {prog : Program} {w : World} {A : Around} {E : Value → Shared → Prop} {s : Shared}
def sIx (n d : Nat) : Option Int → Nat
  | none => d
  | some v => if v < 0 then (v + (n : Int)).toNat else min v.toNat n
theorem sIx_none (n d : Nat) : sIx n d none = d := rfl
theorem sIx_nat (n d k : Nat) : sIx n d (some (k : Int)) = min k n := by
  show (if (k : Int) < 0 then ((k : Int) + (n : Int)).toNat else min (k : Int).toNat n) = min k n
  rw [if_neg (by trivial), Int.toNat_natCast]
end
end HT
namespace L2
open PySem PySem.Spec PyProof.Rows
abbrev TO := St → Hp → (Option Int → Hp → Prop) → Prop
def PO (X : Cx) (e : Option Expr) (t : TO) : Prop :=
  ∀ (pins : List (Addr × Obj)) (s : Shared) (σ : St) (H : Hp) (Q : Option Int → Hp → Prop), Inv X pins σ H s → t σ H Q →
    wpAny (model X.prog X.w) X.A (evalPart e X.env) (fun u s' => Ex2 fun o H' => Inv X pins σ H' s' ∧ IsPart u o ∧ Q o H') X.xe s
def tNoPart : TO := fun _ H Q => Q none H
def tPart (t : TE) : TO := fun σ H Q => t σ H fun x H1 => IsIn x fun i => Q (some i) H1
section
variable {X : Cx} {e : Expr} {te : TE} {lo hi : Option Expr} {tl th : TO} {pos p2 : Pos}
theorem po_none : PO X none tNoPart := by
  intro pins s σ H Q I h
  rw [evalPart_none]
  exact wpAny_pure ⟨none, H, I, .none, h⟩
theorem po_some (h : PE X e te) : PO X (some e) (tPart te) := by
  intro pins s σ H Q I hw
  rw [evalPart_some]
  refine thn (h pins s σ H _ I hw) fun u s1 ⟨x, H1, I1, r1, q1⟩ => ?_
  obtain ⟨i, rfl, q⟩ := q1
  obtain ⟨t, rfl⟩ := r1
  exact ⟨some i, H1, I1, .int i t, q⟩
def SlR (X : Cx) (r : V → Option Int → Option Int → Hp → VK → Prop) : Prop :=
  ∀ (pins : List (Addr × Obj)) (s : Shared) (σ : St) (H : Hp) (x : V) (v vl vu : Value) (lo hi : Option Int) (sl : Addr) (Q : VK), Inv X pins σ H s → RelV x v → s.heap.IsSliceOf sl vl vu .none → IsPart vl lo → IsPart vu hi → r x lo hi H Q →
    Ex2 fun T id => typeLookup (.type T) "__getitem__" = pure (some (.builtin id)) ∧ s.TypeIs v T ∧ wpAny (model X.prog X.w) X.A (getItem v (.ref sl)) (EP X pins σ Q) X.xe s
def tSl (r : V → Option Int → Option Int → Hp → VK → Prop) (te : TE) (tl th : TO) : TE := fun σ H Q => te σ H fun x H1 => tl σ H1 fun l H2 => th σ H2 fun u H3 => r x l u H3 Q
theorem pe_slice {r : V → Option Int → Option Int → Hp → VK → Prop} (hr : SlR X r) (he : PE X e te) (hl : PO X lo tl) (hu : PO X hi th) : PE X (.Subscript e (.Slice lo hi none p2) pos) (tSl r te tl th) := by
  intro pins s σ H Q I h
  refine Subscript_ (thn (he pins s σ H _ I h) fun v s1 ⟨x, H1, I1, r1, q1⟩ => ?_)
  refine wpAny_Slice (thn (hl pins s1 σ H1 _ I1 q1) fun vl s2 ⟨l, H2, I2, pl, q2⟩ => thn (hu pins s2 σ H2 _ I2 q2) fun vu s3 ⟨u, H3, I3, pu, q3⟩ => ?_)
  rw [evalPart_none]
  refine wpAny_pure ?_
  have I4 : Inv X pins σ H3 { s3 with heap := s3.heap.push { cls := .type "slice", data := .fields #[vl, vu, .none] } } := I3.kept (t' := s3.toks) fun b ob q => Heap.get?_push_of_some _ q
  obtain ⟨T, id, hT, ht, hg⟩ := hr pins { s3 with heap := s3.heap.push { cls := .type "slice", data := .fields #[vl, vu, .none] } } σ H3 x v vl vu l u s3.heap.objs.size Q I4 r1 (Heap.IsSliceOf.new ..) pl pu q3
  show wpAny (model X.prog X.w) X.A (subscriptTail e (.Slice lo hi none p2) v (.ref s3.heap.objs.size)) (EP X pins σ Q) X.xe { s3 with heap := s3.heap.push { cls := .type "slice", data := .fields #[vl, vu, .none] } }
  exact tail_any (ops := [.ref s3.heap.objs.size, v]) ht hT hg (by with_unfolding_all rfl)
def cutV (xs : List V) (lo hi : Option Int) : List V := (xs.drop (HT.sIx xs.length 0 lo)).take (HT.sIx xs.length xs.length hi - HT.sIx xs.length 0 lo)
theorem cutV_length (xs : List V) (lo hi : Option Int) : (cutV xs lo hi).length ≤ xs.length := by
  unfold cutV
  rw [List.length_take, List.length_drop]
  trivial
end
end L2
namespace L2
open PySem PySem.Spec PyProof.Rows
def ixN (n : Nat) (i : Int) : Option Nat := if 0 ≤ i then (if i < n then some i.toNat else none) else if -(n : Int) ≤ i then some (i + n).toNat else none
def atI {α : Type} (xs : List α) (i : Int) : Option α := (ixN xs.length i).bind fun j => xs[j]?
theorem ixN_seq {n : Nat} {i : Int} {j : Nat} (h : ixN n i = some j) : seqIndex? i n = some j ∧ j < n ∧ -(n : Int) ≤ i ∧ i < n := by
  unfold ixN at h
  by_cases h0 : 0 ≤ i
  · rw [if_pos h0] at h
    by_cases h1 : i < n
    · rw [if_pos h1] at h
      have e : i.toNat = j := Option.some.inj h
      exact ⟨by rw [seqIndex_of h0 h1, e], by trivial, by trivial, h1⟩
    · rw [if_neg h1] at h; cases h
  · rw [if_neg h0] at h
    by_cases h1 : -(n : Int) ≤ i
    · rw [if_pos h1] at h
      have e : (i + n).toNat = j := Option.some.inj h
      exact ⟨by rw [seqIndex_neg (by trivial) h1, e], by trivial, h1, by trivial⟩
    · rw [if_neg h1] at h; cases h
theorem atI_get {α : Type} {xs : List α} {i : Int} {v : α} (h : atI xs i = some v) : ∃ j, seqIndex? i xs.length = some j ∧ xs[j]? = some v ∧ j < xs.length ∧ -(xs.length : Int) ≤ i ∧ i < xs.length := by
  unfold atI at h
  cases e : ixN xs.length i with
  | none => rw [e] at h; cases h
  | some j =>
    rw [e] at h
    obtain ⟨h1, h2, h3, h4⟩ := ixN_seq e
    exact ⟨j, h1, h, h2, h3, h4⟩
theorem atI_nat {α : Type} {xs : List α} {j : Nat} {v : α} (h : xs[j]? = some v) : atI xs (j : Int) = some v := by
  have hj : j < xs.length := (List.getElem?_eq_some_iff.mp h).1
  have e : ixN xs.length (j : Int) = some j := by
    unfold ixN
    rw [if_pos (by trivial), if_pos (by trivial)]; simp
  unfold atI; rw [e]; exact h
def PlainIx (b : Expr) : Prop := ∀ o i, subscripted b false o i = operate [o, i] (getItem o i)
def IxR (X : Cx) (r : R2) : Prop :=
  ∀ (value slice : Expr) (pins : List (Addr × Obj)) (s : Shared) (σ : St) (H : Hp) (x y : V) (v u : Value) (Q : VK), Inv X pins σ H s → RelV x v → RelV y u → r x y H Q →
    subscripted slice false v u = operate [v, u] (getItem v u) → wpAny (model X.prog X.w) X.A (subscriptTail value slice v u) (EP X pins σ Q) X.xe s
def MtR (X : Cx) (id : String) (r : V → List V → Hp → VK → Prop) : Prop :=
  ∀ (pins : List (Addr × Obj)) (s : Shared) (σ : St) (H : Hp) (x : V) (xs : List V) (v : Value) (us : List Value) (Q : VK), Inv X pins σ H s → RelV x v → Vals xs us → r x xs H Q →
    wpAny (model X.prog X.w) X.A (call (.builtin id) (v :: us)) (EP X pins σ Q) X.xe s
section
variable {X : Cx} {a b : Expr} {ta tb : TE} {pos : Pos}
theorem IxR.or {r r' : R2} (h : IxR X r) (h' : IxR X r') : IxR X (fun x y H Q => r x y H Q ∨ r' x y H Q) := by
  intro value slice pins s σ H x y v u Q I rx ry q hs
  rcases q with q | q
  · exact h value slice pins s σ H x y v u Q I rx ry q hs
  · exact h' value slice pins s σ H x y v u Q I rx ry q hs
theorem pe_ix {r : R2} (hr : IxR X r) (ha : PE X a ta) (hb : PE X b tb) (hs : PlainIx b) : PE X (.Subscript a b pos) (tOp r ta tb) := by
  intro pins s σ H Q I h
  exact Subscript_ (binT ha hb I h fun v u s2 x y H2 I2 rx ry q => hr a b pins s2 σ H2 x y v u Q I2 rx ry q (hs _ _))
inductive rIxL_ (K : PySem.W.Frag) (x : V) (y : V) (H : Hp) (Q : VK) : Prop
  | mk (p : _) (xs : _) (i : _) (v : _) (h0 : x = .ref p) (h1 : y = .int i) (h2 : SqL K H p xs) (h3 : atI xs i = some v) (h4 : Q v H)
def rIxL (K : PySem.W.Frag) : R2 := fun x y H Q => rIxL_ K x y H Q
inductive rIxT_ (K : PySem.W.Frag) (x : V) (y : V) (H : Hp) (Q : VK) : Prop
  | mk (p : _) (xs : _) (i : _) (v : _) (h0 : x = .ref p) (h1 : y = .int i) (h2 : SqT K H p xs) (h3 : atI xs i = some v) (h4 : Q v H)
def rIxT (K : PySem.W.Frag) : R2 := fun x y H Q => rIxT_ K x y H Q
inductive rIxS_ (x : V) (y : V) (H : Hp) (Q : VK) : Prop
  | mk (z : _) (i : _) (c : _) (h0 : x = .str z) (h1 : y = .int i) (h2 : z.length ≤ sizeLine) (h3 : atI z.cps.toList i = some c) (h4 : Q (.str ⟨#[c]⟩) H)
def rIxS : R2 := fun x y H Q => rIxS_  x y H Q
theorem ix_list : IxR X (rIxL X.K) := by
  intro value slice pins s σ H x y v u Q I rx ry h hs
  obtain ⟨p, xs, i, z, rfl, rfl, hq, he, q⟩ := h
  cases rx
  obtain ⟨t, rfl⟩ := ry
  obtain ⟨its, r, pl, hz⟩ := I.list hq
  obtain ⟨j, h1, h2, h3, h4, h5⟩ := atI_get he
  obtain ⟨w, ew, rw'⟩ := r.get h2
  have hl := r.length
  have hn := line63
  have fin : EP X pins σ Q w s := ⟨z, H, I, rw', q⟩
  by_cases h0 : 0 ≤ i
  · have hj : i.toNat = j := by
      rw [seqIndex_of h0 h5] at h1
      exact Option.some.inj h1
    exact item_listR pl.isList h0 (by trivial) (by rw [hj]; simpa using ew) fin hs
  · have hj : (i + (its.toArray.size : Int)).toNat = j := by
      rw [seqIndex_neg (by trivial) h4] at h1
      rw [List.size_toArray, ← hl]
      exact Option.some.inj h1
    exact subscriptTail_builtinR (x := w) pl.isList.typeIs slot_list_getitem.lookup
      (wpAny_getItem_list_neg (Q := fun r s' => r = w ∧ EP X pins σ Q r s') pl.isList (by trivial) (by rw [List.size_toArray] <;> trivial) (by trivial) (by rw [hj]; simpa using ew) ⟨rfl, fin⟩) hs
theorem ix_tup : IxR X (rIxT X.K) := by
  intro value slice pins s σ H x y v u Q I rx ry h hs
  obtain ⟨p, xs, i, z, rfl, rfl, hq, he, q⟩ := h
  cases rx
  obtain ⟨t, rfl⟩ := ry
  obtain ⟨its, r, pl, hz⟩ := I.tuple hq
  obtain ⟨j, h1, h2, h3, h4, h5⟩ := atI_get he
  obtain ⟨w, ew, rw'⟩ := r.get h2
  have hl := r.length
  have hn := line63
  have fin : EP X pins σ Q w s := ⟨z, H, I, rw', q⟩
  exact subscriptTail_builtinR (x := w) pl.typeIs slot_tuple_getitem.lookup
    (getItem_tuple (j := j) (Q := fun r s' => r = w ∧ EP X pins σ Q r s') pl (by trivial) (by trivial) (by rw [List.size_toArray, ← hl]; exact h1) (by simpa using ew) ⟨rfl, fin⟩) hs
theorem ix_str : IxR X rIxS := by
  intro value slice pins s σ H x y v u Q I rx ry h hs
  obtain ⟨z, i, c, rfl, rfl, hz, he, q⟩ := h
  obtain ⟨t, rfl⟩ := rx
  obtain ⟨t', rfl⟩ := ry
  obtain ⟨j, h1, h2, h3, h4, h5⟩ := atI_get he
  have hl : z.cps.toList.length = z.length := by simp [Str.length]
  rw [hl] at h1 h4 h5
  have hn := line63
  exact tail_any (typeIs_str s z t) slot_str_getitem.lookup (getItem_str (c := c) (by
    have e1 : decide (i < -(2 ^ 63 : Int)) = false := decide_eq_false (by trivial)
    have e2 : decide (i ≥ 2 ^ 63) = false := decide_eq_false (by trivial)
    rw [e1, e2, Bool.or_false]) (by rw [h1]; simpa using h2) ⟨.str ⟨#[c]⟩, H, I.tok _, ⟨_, rfl⟩, q⟩) hs
def rIx (K : PySem.W.Frag) : R2 := fun x y H Q => rIxL K x y H Q ∨ rIxT K x y H Q ∨ rIxS x y H Q
theorem ix_seq : IxR X (rIx X.K) := ix_list.or (ix_tup.or ix_str)
theorem mapSeq_set (its : List Value) (n j : Nat) (u : Value) : Obj.mapSeq (·.setIfInBounds j u) { cls := .type "list", data := .seq its.toArray n } = { cls := .type "list", data := .seq (its.set j u).toArray n } := by
  simp [Obj.mapSeq]
theorem Inv.lst {pins : List (Addr × Obj)} {σ : St} {H : Hp} {s : Shared} {p : Addr} {xs : List V} (I : Inv X pins σ H s) (h : H p = some (.lst xs)) :
    Ex2 fun (its : List Value) (n : Nat) => Vals xs its ∧ s.heap.get? p = some { cls := .type "list", data := .seq its.toArray n } ∧ xs.length ≤ sizeLine := by
  obtain ⟨z, its, n, r, e⟩ := I.hok p _ h
  exact ⟨its, n, r, e, z⟩
theorem Inv.lstUpd {pins : List (Addr × Obj)} {σ : St} {H : Hp} {s : Shared} {p : Addr} {xs ys : List V} {its its' : List Value} {n n' : Nat} {f : Obj → Obj} (I : Inv X pins σ H s) (h : H p = some (.lst xs))
    (ho : s.heap.get? p = some { cls := .type "list", data := .seq its.toArray n }) (hf : f { cls := .type "list", data := .seq its.toArray n } = { cls := .type "list", data := .seq its'.toArray n' }) (r : Vals ys its') (hz : ys.length ≤ sizeLine) (t : Nat) :
    Inv X pins σ (upd H p (.lst ys)) { s with heap := s.heap.update p f, toks := t } := by
  have e : (s.heap.update p f).get? p = some { cls := .type "list", data := .seq its'.toArray n' } := by
    rw [Heap.get?_update_self f ho (by rw [hf] <;> rfl), hf]
  refine I.write (x := p) (e := p) (by rw [h]; trivial) (.inl rfl) (fun b u hb q => (Heap.get?_update_other _ _ (Ne.symm hb)).trans q) ⟨_, e⟩ ?_
  exact ⟨hz, its', n', r, e⟩
inductive rSetL_ (o : V) (i : V) (v : V) (H : Hp) (Q : (Hp → Prop)) : Prop
  | mk (p : _) (xs : _) (k : _) (j : _) (h0 : o = .ref p) (h1 : i = .int k) (h2 : H p = some (.lst xs)) (h3 : ixN xs.length k = some j) (h4 : Q (upd H p (.lst (xs.set j v))))
def rSetL : V → V → V → Hp → (Hp → Prop) → Prop := fun o i v H Q => rSetL_  o i v H Q
theorem set_list : PSet X rSetL := by
  intro pins s σ H o i v ov iv u Q I ro ri rv h
  obtain ⟨p, xs, k, j, rfl, rfl, hp, hj, q⟩ := h
  cases ro
  obtain ⟨t, rfl⟩ := ri
  obtain ⟨its, n, r, ho, hz⟩ := I.lst hp
  obtain ⟨h1, h2, h3, h4⟩ := ixN_seq hj
  have hl := r.length
  have hn := line63
  have I' : Inv X pins σ (upd H p (.lst (xs.set j v))) { s with heap := s.heap.update p (Obj.mapSeq (·.setIfInBounds j u)) } :=
    I.lstUpd hp ho (mapSeq_set its n j u) (r.set rv j) (by rw [List.length_set]; exact hz) s.toks
  by_cases h0 : 0 ≤ k
  · have hk : k.toNat = j := by
      rw [seqIndex_of h0 h4] at h1
      exact Option.some.inj h1
    exact PySem.W.ki_setAt ho h0 (by trivial) (by rw [List.size_toArray, ← hl]; exact h4) (by rw [hk]; exact ⟨_, I', q⟩)
  · have hk : (k + (its.toArray.size : Int)).toNat = j := by
      rw [seqIndex_neg (by trivial) h3] at h1
      rw [List.size_toArray, ← hl]
      exact Option.some.inj h1
    exact PySem.W.ki_setBack ho (by trivial) (by rw [List.size_toArray, ← hl]; exact h3) (by trivial) (by rw [hk]; exact ⟨_, I', q⟩)
theorem slice_bounds (lo hi : Option Int) (n : Nat) : (sliceBounds lo hi none n).1 = ((HT.sIx n 0 lo : Nat) : Int) ∧ (sliceBounds lo hi none n).2.1 = ((HT.sIx n n hi : Nat) : Int) ∧ (sliceBounds lo hi none n).2.2 = 1 := by
  refine ⟨?_, ?_, rfl⟩
  · cases lo with
    | none => simp [sliceBounds, HT.sIx]
    | some i =>
      simp only [sliceBounds, HT.sIx, Option.getD_none, show (1 : Int) > 0 by decide, if_true]
      by_cases h : i < 0
      · simp only [h, if_true] <;> trivial
      · simp only [h, if_false] <;> trivial
  · cases hi with
    | none => simp [sliceBounds, HT.sIx]
    | some i =>
      simp only [sliceBounds, HT.sIx, Option.getD_none, show (1 : Int) > 0 by decide, if_true]
      by_cases h : i < 0
      · simp only [h, if_true] <;> trivial
      · simp only [h, if_false] <;> trivial
theorem slicePick_cut (its : List Value) (lo hi : Option Int) : slicePick its.toArray lo hi none = ((its.drop (HT.sIx its.length 0 lo)).take (HT.sIx its.length its.length hi - HT.sIx its.length 0 lo)).toArray := by
  obtain ⟨h1, h2, h3⟩ := slice_bounds lo hi its.toArray.size
  unfold slicePick
  rw [h1, h2, h3]
  simp only [sliceRange_one, pick_run, List.size_toArray] <;> rfl
inductive rSlL_ (K : PySem.W.Frag) (x : V) (lo : Option Int) (hi : Option Int) (H : Hp) (Q : VK) : Prop
  | mk (a : _) (xs : _) (h0 : x = .ref a) (h1 : SqL K H a xs) (h2 : ∀ p, H p = none → Q (.ref p) (upd H p (.lst (cutV xs lo hi))))
def rSlL (K : PySem.W.Frag) : V → Option Int → Option Int → Hp → VK → Prop := fun x lo hi H Q => rSlL_ K x lo hi H Q
theorem sl_list : SlR X (rSlL X.K) := by
  intro pins s σ H x v vl vu lo hi sl Q I rx hs pl pu h
  obtain ⟨a, xs, rfl, hx, q⟩ := h
  cases rx
  obtain ⟨its, r, ht, hz⟩ := I.list hx
  have hlen := r.length
  refine ⟨"list", _, slot_list_getitem.lookup, ht.isList.typeIs, ?_⟩
  refine wpAny_getItem_list_slice ht.isList hs pl pu .none (by simp) ?_ (by rw [List.size_toArray] <;> trivial)
  rw [slicePick_cut, ← hlen]
  refine ⟨.ref s.heap.objs.size, _, I.laid (t' := s.toks) (o := .lst (cutV xs lo hi)) (fun b ob q => Heap.get?_push_of_some _ q) (Nat.le_refl _) ?_, rfl, q _ (I.hok.fresh (Nat.le_refl _))⟩
  exact ⟨Nat.le_trans (cutV_length xs lo hi) hz, _, 0, (r.drop (HT.sIx xs.length 0 lo)).take (HT.sIx xs.length xs.length hi - HT.sIx xs.length 0 lo), Heap.get?_push_size _ rfl⟩
def flatV : V → Bool
  | .non => true
  | .bl _ => true
  | .int _ => true
  | .str _ => true
  | _ => false
def eqV : V → V → Bool
  | .non, .non => true
  | .bl a, .bl b => a == b
  | .bl a, .int b => (if a then 1 else 0) == b
  | .int a, .bl b => a == (if b then 1 else 0)
  | .int a, .int b => a == b
  | .str a, .str b => a == b
  | _, _ => false
theorem eqAt_V {A : Around} {s : Shared} {y x : V} {u v : Value} (ry : RelV y u) (rx : RelV x v) (fy : flatV y = true) (fx : flatV x = true) : SeqAt.EqAt A s u v (eqV y x) := by
  cases y with
  | non =>
    cases ry
    cases x with
    | non => cases rx; exact SeqAt.EqAt.same _
    | bl b => cases rx; exact SeqAt.EqAt.none_bool b
    | int b => obtain ⟨t, rfl⟩ := rx; exact SeqAt.EqAt.none_int b t
    | str b => obtain ⟨t, rfl⟩ := rx; exact SeqAt.EqAt.none_str b t
    | _ => exact absurd (show false = true from fx) Bool.false_ne_true
  | bl a =>
    cases ry
    cases x with
    | non => cases rx; exact SeqAt.EqAt.bool_none a
    | bl b => cases rx; exact SeqAt.EqAt.bool_bool a b
    | int b => obtain ⟨t, rfl⟩ := rx; exact SeqAt.EqAt.bool_int a b t
    | str b => obtain ⟨t, rfl⟩ := rx; exact SeqAt.EqAt.bool_str a b t
    | _ => exact absurd (show false = true from fx) Bool.false_ne_true
  | int a =>
    obtain ⟨t', rfl⟩ := ry
    cases x with
    | non => cases rx; exact SeqAt.EqAt.int_none a t'
    | bl b => cases rx; exact SeqAt.EqAt.int_bool a t' b
    | int b => obtain ⟨t, rfl⟩ := rx; exact SeqAt.EqAt.int_int a t' b t
    | str b => obtain ⟨t, rfl⟩ := rx; exact SeqAt.EqAt.int_str a t' b t
    | _ => exact absurd (show false = true from fx) Bool.false_ne_true
  | str a =>
    obtain ⟨t', rfl⟩ := ry
    cases x with
    | non => cases rx; exact SeqAt.EqAt.str_none a t'
    | bl b => cases rx; exact SeqAt.EqAt.str_bool a t' b
    | int b => obtain ⟨t, rfl⟩ := rx; exact SeqAt.EqAt.str_int a t' b t
    | str b => obtain ⟨t, rfl⟩ := rx; exact SeqAt.EqAt.str_str a t' b t
    | _ => exact absurd (show false = true from fx) Bool.false_ne_true
  | _ => exact absurd (show false = true from fy) Bool.false_ne_true
def eqU (x : V) (u : Value) : Bool := match u with
  | .none => eqV .non x
  | .bool b => eqV (.bl b) x
  | .int i _ => eqV (.int i) x
  | .str z _ => eqV (.str z) x
  | _ => false
theorem eqU_of {x y : V} {u : Value} (r : RelV y u) (f : flatV y = true) : eqU x u = eqV y x := by
  cases y with
  | non => cases r; rfl
  | bl b => cases r; rfl
  | int i => obtain ⟨t, rfl⟩ := r; rfl
  | str z => obtain ⟨t, rfl⟩ := r; rfl
  | _ => exact absurd (show false = true from f) Bool.false_ne_true
theorem any_eqU {x : V} : ∀ {xs : List V} {us : List Value}, Vals xs us → xs.all flatV = true → us.any (eqU x) = xs.any fun y => eqV y x
  | _, _, .nil, _ => rfl
  | y :: xs, u :: us, .cons r t, f => by
    rw [List.all_cons, Bool.and_eq_true] at f
    rw [List.any_cons, List.any_cons, eqU_of r f.1, any_eqU t f.2]
theorem mem_eqAt {A : Around} {s : Shared} {x : V} {v : Value} (rx : RelV x v) (fx : flatV x = true) : ∀ {xs : List V} {us : List Value}, Vals xs us → xs.all flatV = true → ∀ u ∈ us, SeqAt.EqAt A s u v (eqU x u)
  | _, _, .nil, _ => fun u hu => by cases hu
  | y :: xs, u :: us, .cons r t, f => fun u' hu => by
    rw [List.all_cons, Bool.and_eq_true] at f
    rcases List.mem_cons.mp hu with rfl | hu
    · rw [eqU_of r f.1]; exact eqAt_V r rx f.1 fx
    · exact mem_eqAt rx fx t f.2 u' hu
def inV (x : V) (xs : List V) : Bool := xs.any fun y => eqV y x
inductive rIn_ (K : PySem.W.Frag) (neg : Bool) (x : V) (y : V) (H : Hp) (Q : VK) : Prop
  | mk (p : _) (xs : _) (h0 : y = .ref p) (h1 : (SqL K H p xs ∨ SqT K H p xs)) (h2 : flatV x = true) (h3 : xs.all flatV = true) (h4 : Q (.bl (if neg then !inV x xs else inV x xs)) H)
def rIn (K : PySem.W.Frag) (neg : Bool) : R2 := fun x y H Q => rIn_ K neg x y H Q
theorem op_notIn_seq : OpR X (compareOp .NotIn) (rIn X.K true) := by
  intro pins s σ H x y v u Q I rx ry h
  obtain ⟨p, xs, rfl, hq, fx, fs, q⟩ := h
  cases ry
  rcases hq with hq | hq
  · obtain ⟨its, r, pl, hz⟩ := I.list hq
    refine SeqAt.notIn_listAt (eqU x) pl.isList (fun w hw => mem_eqAt rx fx r fs w (by simpa using hw)) ⟨.bl _, H, I, rfl, ?_⟩
    rw [show its.toArray.any (eqU x) = its.any (eqU x) by simp, any_eqU r fs]
    exact q
  · obtain ⟨its, r, pl, hz⟩ := I.tuple hq
    refine SeqAt.notIn_tupleAt (eqU x) pl (fun w hw => mem_eqAt rx fx r fs w (by simpa using hw)) ⟨.bl _, H, I, rfl, ?_⟩
    rw [show its.toArray.any (eqU x) = its.any (eqU x) by simp, any_eqU r fs]
    exact q
theorem call_len_seq : CallR X (.builtin "len") (fun xs H Q => Ex2 fun p ys => xs = [.ref p] ∧ (SqL X.K H p ys ∨ SqT X.K H p ys) ∧ Q (.int ys.length) H) := by
  intro pins s σ H xs us Q I r h
  obtain ⟨p, ys, rfl, hq, q⟩ := h
  obtain ⟨u, rfl, rx⟩ := vals1 r
  cases rx
  have hn := line63
  rcases hq with hq | hq
  · obtain ⟨its, r', pl, hz⟩ := I.list hq
    have hlen := r'.length
    exact Calls.call_len_list pl.isList (by simp only [List.size_toArray] <;> trivial) ⟨.int ys.length, H, I.tok _, ⟨s.toks + 1, by rw [List.size_toArray, hlen]⟩, q⟩
  · obtain ⟨its, r', pl, hz⟩ := I.tuple hq
    have hlen := r'.length
    exact len_tuple pl (by simp only [List.size_toArray] <;> trivial) ⟨.int ys.length, H, I.tok _, ⟨s.toks + 1, by rw [List.size_toArray, hlen]⟩, q⟩
theorem call_list_of : CallR X (.type "list") (fun xs H Q => Ex2 fun p ys => xs = [.ref p] ∧ (SqL X.K H p ys ∨ SqT X.K H p ys) ∧ ∀ l, H l = none → Q (.ref l) (upd H l (.lst ys))) := by
  intro pins s σ H xs us Q I r h
  obtain ⟨p, ys, rfl, hq, q⟩ := h
  obtain ⟨u, rfl, rx⟩ := vals1 r
  cases rx
  have fin : ∀ (its : List Value), Vals ys its → ys.length ≤ sizeLine → ∀ (h' : Heap) (c' : Nat), (∀ b o', s.heap.get? b = some o' → h'.get? b = some o') →
      h'.get? s.heap.objs.size = some { cls := .type "list", dict := none, data := .seq its.toArray c', slots := #[] } → EP X pins σ Q (.ref s.heap.objs.size) { s with heap := h' } := fun its r' hz h' c' kp e =>
    ⟨.ref s.heap.objs.size, _, I.laid (t' := s.toks) kp (Nat.le_refl _) (show ObjOk X.prog X.w _ h' _ (.lst ys) from ⟨hz, its, c', r', e⟩), rfl, q _ (I.hok.fresh (Nat.le_refl _))⟩
  rcases hq with hq | hq
  · obtain ⟨its, r', pl, hz⟩ := I.list hq
    have hlen := r'.length
    obtain ⟨o, ho, hc, n, hd⟩ := pl.isList
    exact call_list_seq p (.inl rfl) ho hc hd (fun h' c' kp e => fin its r' hz h' c' kp e) (by simp only [List.size_toArray] <;> trivial)
  · obtain ⟨its, r', pl, hz⟩ := I.tuple hq
    have hlen := r'.length
    obtain ⟨o, ho, hc, n, hd⟩ := pl
    exact call_list_seq p (.inr rfl) ho hc hd (fun h' c' kp e => fin its r' hz h' c' kp e) (by simp only [List.size_toArray] <;> trivial)
theorem call_tuple_of : CallR X (.type "tuple") (fun xs H Q => Ex2 fun p ys => xs = [.ref p] ∧ ((SqL X.K H p ys ∧ ∀ l, H l = none → Q (.ref l) (upd H l (.tup ys))) ∨ (SqT X.K H p ys ∧ Q (.ref p) H))) := by
  intro pins s σ H xs us Q I r h
  obtain ⟨p, ys, rfl, h⟩ := h
  obtain ⟨u, rfl, rx⟩ := vals1 r
  cases rx
  rcases h with ⟨hq, q⟩ | ⟨hq, q⟩
  · obtain ⟨its, r', pl, hz⟩ := I.list hq
    have hlen := r'.length
    refine call_tuple_list pl.isList (fun h' kp => ?_) (by simp only [List.size_toArray] <;> trivial)
    have I1 : Inv X pins σ H { s with heap := h' } := I.kept (t' := s.toks) kp
    have I2 : Inv X pins σ (upd H h'.objs.size (.tup ys)) { s with heap := h'.push { cls := .type "tuple", data := .seq its.toArray } } :=
      I1.laid (t' := s.toks) (fun b o e => Heap.get?_push_of_some _ e) (Nat.le_refl _) (show ObjOk X.prog X.w _ _ _ (.tup ys) from ⟨hz, its, r', IsTup.new _ _, _, Heap.get?_push_size _ rfl, rfl⟩)
    exact ⟨.ref h'.objs.size, _, I2, rfl, q _ (I1.hok.fresh (Nat.le_refl _))⟩
  · obtain ⟨its, r', pl, hz⟩ := I.tuple hq
    exact call_tuple_same pl ⟨.ref p, H, I, rfl, q⟩
def tyV (K : PySem.W.Frag) (T : String) (x : V) (H : Hp) : Prop := match x with
  | .str _ => T = "str"
  | .int _ => T = "int"
  | .ref p => (T = "list" ∧ ∃ xs, SqL K H p xs) ∨ (T = "tuple" ∧ ∃ o, K.lookup p = some o ∧ o.cls = .type "tuple" ∧ o.dict = none) ∨
      (T = "dict" ∧ ((∃ kvs, H p = some (.dK kvs)) ∨ ∃ kvs, H p = some (.dT kvs))) ∨ (T = "set" ∧ Ex2 fun S n => H p = some (.set S n))
  | _ => False
theorem tyV_is {pins : List (Addr × Obj)} {σ : St} {H : Hp} {s : Shared} {T : String} {x : V} {v : Value} (I : Inv X pins σ H s) (r : RelV x v) (ty : tyV X.K T x H) :
    s.TypeIs v T ∧ ∀ a, v = .ref a → ∃ ob, s.heap.get? a = some ob ∧ ob.dict = none := by
  cases x with
  | str z =>
    obtain ⟨t, rfl⟩ := r
    cases (show T = "str" from ty)
    exact ⟨typeIs_str s z t, fun _ e => nomatch e⟩
  | int i =>
    obtain ⟨t, rfl⟩ := r
    cases (show T = "int" from ty)
    exact ⟨typeIs_int s i t, fun _ e => nomatch e⟩
  | ref p =>
    cases r
    rcases ty with ⟨rfl, xs, hq⟩ | ⟨rfl, o, hk, hc, hd⟩ | ⟨rfl, hk⟩ | ⟨rfl, S, n, hk⟩
    · obtain ⟨its, _, pl, _⟩ := I.list hq
      refine ⟨pl.isList.typeIs, fun a e => ?_⟩
      cases e
      obtain ⟨o, n, e, c, hd, _⟩ := pl
      exact ⟨o, e, hd⟩
    · refine ⟨⟨o, I.kIn p o hk, hc⟩, fun a e => ?_⟩
      cases e
      exact ⟨o, I.kIn _ o hk, hd⟩
    · have z : ∃ o, s.heap.get? p = some o ∧ o.ExactDict := by
        rcases hk with ⟨kvs, hk⟩ | ⟨kvs, hk⟩
        · obtain ⟨_, _, _, _, o, _, _, e, ex, _⟩ := I.hok p _ hk
          exact ⟨o, e, ex⟩
        · obtain ⟨_, _, _, _, o, _, _, e, ex, _⟩ := I.hok p _ hk
          exact ⟨o, e, ex⟩
      obtain ⟨o, e, ex⟩ := z
      refine ⟨⟨o, e, ex.1⟩, fun a e2 => ?_⟩
      cases e2
      exact ⟨o, e, ex.2.1⟩
    · obtain ⟨o, _, _, _, e, ex, _⟩ := I.hok p _ hk
      refine ⟨⟨o, e, ex.1⟩, fun a e2 => ?_⟩
      cases e2
      exact ⟨o, e, ex.2.1⟩
  | _ => exact False.elim ty
def tBM0 (K : PySem.W.Frag) (T : String) (r : V → List V → Hp → VK → Prop) (to : TE) : TE := fun σ H Q => to σ H fun x H1 => tyV K T x H1 ∧ r x [] H1 Q
def tBM (K : PySem.W.Frag) (T : String) (r : V → List V → Hp → VK → Prop) (to : TE) (t : TA) : TE := fun σ H Q => to σ H fun x H1 => tyV K T x H1 ∧ t σ H1 fun xs H2 => r x xs H2 Q
variable {o e : Expr} {es : List Expr} {to : TE} {t : TA} {name : Str} {apos cpos : Pos} {T id : String} {r : V → List V → Hp → VK → Prop}
theorem pe_bm0 (pa : PlainAttrs T) (slot : Slot T name id) (hty : typeOf (.builtin id) = pure (.type "method_descriptor")) (hm : MtR X id r) (ho : PE X o to)
    (hbase : attributeBase o name X.env (eval o X.env) = eval o X.env := by rfl) (hline : (apos.endLine == cpos.line) = true := by rfl) : PE X (.Call (.Attribute o name apos) [] [] cpos) (tBM0 X.K T r to) := by
  intro pins s σ H Q I h
  refine wpAny_Call_method0_late hbase hline (thn (ho pins s σ H _ I h) fun v s1 ⟨x, H1, I1, r1, ty, q1⟩ => ?_)
  obtain ⟨h1, h2⟩ := tyV_is I1 r1 ty
  exact ⟨T, id, pa, slot, hty, h1, h2, Calls.callWith_builtin rfl (PySem.evalArgs_none (hm pins s1 σ H1 x [] v [] Q I1 r1 .nil q1))⟩
theorem pe_bm (pa : PlainAttrs T) (slot : Slot T name id) (hty : typeOf (.builtin id) = pure (.type "method_descriptor")) (hm : MtR X id r) (ho : PE X o to) (ha : PA X (e :: es) t)
    (hbase : attributeBase o name X.env (eval o X.env) = eval o X.env := by rfl)
    (hfew : ((backTo cpos (starEach (e :: es) X.env)).all (fun x => !x.1) && (backToKw cpos (keywordEach [] X.env)).all (fun x => x.1.isSome)
      && decide ((e :: es).length + ([] : List Keyword).length + (if ([] : List Keyword).isEmpty then 0 else 1) < 30)) = true := by rfl)
    (hline : (apos.endLine == cpos.line) = true := by rfl) (hs : starEach (e :: es) X.env = (false, eval e X.env) :: starEach es X.env := by rfl) (hplain : (backTo cpos (starEach es X.env)).any (·.1) = false := by rfl) :
    PE X (.Call (.Attribute o name apos) (e :: es) [] cpos) (tBM X.K T r to t) := by
  intro pins s σ H Q I h
  refine wpAny_Call_method_late hbase hfew hline rfl (thn (ho pins s σ H _ I h) fun v s1 ⟨x, H1, I1, r1, ty, q1⟩ => ?_)
  obtain ⟨h1, h2⟩ := tyV_is I1 r1 ty
  refine ⟨T, id, pa, slot, hty, h1, h2, ?_⟩
  have hA := ha cpos pins s1 σ H1 _ I1 q1
  rw [hs] at hA ⊢
  refine Calls.callWith_builtin (by show (false || (backTo cpos (starEach es X.env)).any (·.1)) = false; rw [hplain] <;> rfl) (Calls.evalArgs_plain ?_)
  exact thn hA fun us s2 ⟨vs, H2, I2, r2, q2⟩ => hm pins s2 σ H2 x vs v us Q I2 r1 r2 q2
/- xs.append(e), list.index on a module's tuple .. are MtR facts of 06m -/
end
end L2
namespace L2
open PySem PySem.Spec PyProof.Rows
def MtM (X : Cx) (id : String) (r : V → List V → Hp → VK → Prop) : Prop :=
  ∀ (pins : List (Addr × Obj)) (s : Shared) (σ : St) (H : Hp) (x : V) (xs : List V) (v : Value) (us : List Value) (Q : VK), Inv X pins σ H s → RelV x v → Vals xs us → r x xs H Q →
    wpAny (model X.prog X.w) X.A (call (.builtin id) (v :: us)) (EP X pins σ Q) X.xe s
theorem Vals.one : ∀ {x : V} {us : List Value}, Vals [x] us → ∃ u, us = [u] ∧ RelV x u
  | _, _, .cons r .nil => ⟨_, rfl, r⟩
theorem Vals.two : ∀ {x y : V} {us : List Value}, Vals [x, y] us → Ex2 fun u v => us = [u, v] ∧ RelV x u ∧ RelV y v
  | _, _, _, .cons r (.cons q .nil) => ⟨_, _, rfl, r, q⟩
theorem Vals.zero : ∀ {us : List Value}, Vals [] us → us = []
  | _, .nil => rfl
theorem Vals.eraseIdx : ∀ {xs : List V} {us : List Value} (i : Nat), Vals xs us → Vals (xs.eraseIdx i) (us.eraseIdx i)
  | _, _, _, .nil => .nil
  | _, _, 0, .cons _ t => t
  | _, _, i + 1, .cons r t => .cons r (Vals.eraseIdx i t)
theorem Vals.reverse {xs : List V} {us : List Value} (h : Vals xs us) : Vals xs.reverse us.reverse := by
  induction h with
  | nil => exact .nil
  | cons r t ih => rw [List.reverse_cons, List.reverse_cons]; exact Vals.append ih (.cons r .nil)
theorem Vals.rep {xs : List V} {us : List Value} (h : Vals xs us) : ∀ k : Nat, Vals (List.replicate k xs).flatten (List.replicate k us).flatten
  | 0 => .nil
  | k + 1 => by
    rw [List.replicate_succ, List.replicate_succ, List.flatten_cons, List.flatten_cons]
    exact Vals.append h (Vals.rep h k)
theorem len_erase {α : Type} : ∀ (l : List α) (i : Nat), (l.eraseIdx i).length ≤ l.length
  | [], _ => Nat.le_refl _
  | _ :: _, 0 => Nat.le_succ _
  | _ :: r, i + 1 => Nat.succ_le_succ (len_erase r i)
theorem foldl_rep (its : List Value) : ∀ (k : Nat) (acc : List Value),
    List.foldl (fun x1 x2 => x1 ++ x2) acc.toArray (List.replicate k its.toArray) = (acc ++ (List.replicate k its).flatten).toArray
  | 0, acc => by simp
  | k + 1, acc => by
    have e : acc.toArray ++ its.toArray = (acc ++ its).toArray := by simp
    have e2 : (acc ++ its) ++ (List.replicate k its).flatten = acc ++ (List.replicate (k + 1) its).flatten := by
      rw [List.replicate_succ, List.flatten_cons, List.append_assoc]
    rw [← e2, ← foldl_rep its k (acc ++ its), ← e, List.replicate_succ, List.foldl_cons]
section
variable {X : Cx} {pins : List (Addr × Obj)} {σ : St} {H : Hp} {s : Shared} {l b : Addr} {xs ys zs : List V}
theorem Inv.lset {its its' : List Value} {n : Nat} {f : Array Value → Array Value} {t' : Nat} (I : Inv X pins σ H s) (hH : H l = some (.lst xs))
    (e : s.heap.get? l = some { cls := .type "list", data := .seq its.toArray n }) (hf : f its.toArray = its'.toArray) (hv : Vals ys its') (hz : ys.length ≤ sizeLine) :
    Inv X pins σ (upd H l (.lst ys)) { s with heap := s.heap.update l (Obj.mapSeq f), toks := t' } := by
  have q := PySem.IsL.update e f
  rw [hf] at q
  refine I.write (x := l) (e := l) (by rw [hH]; exact trivial) (.inl rfl) (fun b' u hb hu => (Heap.get?_update_other s.heap (Obj.mapSeq f) (Ne.symm hb)).trans hu) ⟨_, q⟩ ?_
  exact ⟨hz, its', _, hv, q⟩
theorem Inv.lnew {its : List Value} {t' : Nat} (I : Inv X pins σ H s) (hv : Vals ys its) (hz : ys.length ≤ sizeLine) :
    Inv X pins σ (upd H s.heap.objs.size (.lst ys)) { s with heap := s.heap.push { cls := .type "list", data := .seq its.toArray }, toks := t' } :=
  I.laid (fun _ _ q => Heap.get?_push_of_some _ q) (Nat.le_refl _) ⟨hz, its, 0, hv, Heap.get?_push_size _ rfl⟩
theorem Inv.fresh (I : Inv X pins σ H s) : H s.heap.objs.size = none := I.hok.fresh (Nat.le_refl _)
theorem Inv.lstM (I : Inv X pins σ H s) (hH : H l = some (.lst xs)) : xs.length ≤ sizeLine ∧ Ex2 fun (its : List Value) (n : Nat) => Vals xs its ∧ xs.length = its.length ∧ s.heap.get? l = some { cls := .type "list", data := .seq its.toArray n } := by
  obtain ⟨z, its, n, r, e⟩ := I.hok l _ hH
  exact ⟨z, its, n, r, r.length, e⟩
theorem notLongL {n : Nat} (h : n ≤ sizeLine) : Builtin.List.listTooLong n = false := by
  unfold Builtin.List.listTooLong
  exact decide_eq_false (by trivial)
end
section
variable {X : Cx}
inductive rAppend_ (x : V) (vs : List V) (H : Hp) (Q : VK) : Prop
  | mk (l : _) (xs : _) (y : _) (h0 : x = .ref l) (h1 : vs = [y]) (h2 : H l = some (.lst xs)) (h3 : xs.length < sizeLine) (h4 : Q .non (upd H l (.lst (xs ++ [y]))))
def rAppend : V → List V → Hp → VK → Prop := fun x vs H Q => rAppend_  x vs H Q
theorem mt_append : MtM X "list.append" rAppend := by
  intro pins s σ H x vs v us Q I rx rv h
  obtain ⟨l, xs, y, rfl, rfl, hH, hz, q⟩ := h
  cases rx
  obtain ⟨u, rfl, ru⟩ := rv.one
  obtain ⟨z, its, n, r, hl, e⟩ := I.lstM hH
  refine call_meets F.slot_list_append ⟨_, e, rfl⟩ F.entry_list_append (F.args_list_append_2 _ _) (PySem.list_append l its.toArray n u (by rw [List.size_toArray]; trivial)) ⟨e, ?_⟩
  refine ⟨.non, _, I.lset (its' := its ++ [u]) hH e (by simp) (r.append (.cons ru .nil)) ?_, rfl, q⟩
  rw [List.length_append, List.length_singleton]
  trivial
inductive rExtend_ (x : V) (vs : List V) (H : Hp) (Q : VK) : Prop
  | mk (l : _) (b : _) (xs : _) (zs : _) (h0 : x = .ref l) (h1 : vs = [.ref b]) (h2 : H l = some (.lst xs)) (h3 : H b = some (.lst zs)) (h4 : xs.length + zs.length ≤ sizeLine) (h5 : Q .non (upd H l (.lst (xs ++ zs))))
def rExtend : V → List V → Hp → VK → Prop := fun x vs H Q => rExtend_  x vs H Q
theorem mt_extend : MtM X "list.extend" rExtend := by
  intro pins s σ H x vs v us Q I rx rv h
  obtain ⟨l, b, xs, zs, rfl, rfl, hH, hB, hz, q⟩ := h
  cases rx
  obtain ⟨u, rfl, ru⟩ := rv.one
  cases ru
  obtain ⟨z, its, n, r, hl, e⟩ := I.lstM hH
  obtain ⟨z2, its2, n2, r2, hl2, e2⟩ := I.lstM hB
  have hsz : its.toArray.size + its2.toArray.size ≤ sizeLine := by rw [List.size_toArray, List.size_toArray]; trivial
  have hlong : ¬ (!its.toArray.isEmpty && Builtin.List.listTooLong (its.toArray.size + its2.toArray.size)) = true := by
    rw [notLongL hsz, Bool.and_false]
    exact Bool.false_ne_true
  refine call_meets F.slot_list_extend ⟨_, e, rfl⟩ F.entry_list_extend (F.args_list_extend_2 _ _)
    (AutoSeq1.list_extend_list_list_0 l its.toArray n b its2.toArray n2 hlong (by rw [List.size_toArray]; trivial) (by trivial)) ⟨e, e2, ?_⟩
  refine ⟨.non, _, I.lset (its' := its ++ its2) hH e (by simp) (r.append r2) ?_, rfl, q⟩
  rw [List.length_append]
  trivial
inductive rPopAt_ (x : V) (vs : List V) (H : Hp) (Q : VK) : Prop
  | mk (l : _) (xs : _) (i : _) (k : _) (y : _) (h0 : x = .ref l) (h1 : vs = [.int i]) (h2 : H l = some (.lst xs)) (h3 : -(2 ^ 63) ≤ i) (h4 : i < 2 ^ 63) (h5 : seqIndex? i xs.length = some k) (h6 : xs[k]? = some y) (h7 : Q y (upd H l (.lst (xs.eraseIdx k))))
def rPopAt : V → List V → Hp → VK → Prop := fun x vs H Q => rPopAt_  x vs H Q
theorem mt_popAt : MtM X "list.pop" rPopAt := by
  intro pins s σ H x vs v us Q I rx rv h
  obtain ⟨l, xs, i, k, y, rfl, rfl, hH, h1, h2, hk, hy, q⟩ := h
  cases rx
  obtain ⟨u, rfl, ru⟩ := rv.one
  obtain ⟨t, rfl⟩ := ru
  obtain ⟨z, its, n, r, hl, e⟩ := I.lstM hH
  obtain ⟨w, hw, rw'⟩ := r.get hy
  refine call_meets F.slot_list_pop ⟨_, e, rfl⟩ F.entry_list_pop (F.args_list_pop_2 _ _)
    (MeetsSeq.list_pop_at l its.toArray n i t k w (fitsIndex_both h1 h2) (by rw [List.size_toArray, ← hl]; exact hk) (by rw [← Array.getElem?_toList]; exact hw) (by rw [List.size_toArray]; trivial)) ⟨e, ?_⟩
  refine ⟨y, _, I.lset (its' := its.eraseIdx k) hH e ?_ (r.eraseIdx k) ?_, rw', q⟩
  · show its.toArray.eraseIdxIfInBounds k = (its.eraseIdx k).toArray
    rw [List.eraseIdxIfInBounds_toArray]
  · have := len_erase xs k
    trivial
inductive rReverse_ (x : V) (vs : List V) (H : Hp) (Q : VK) : Prop
  | mk (l : _) (xs : _) (h0 : x = .ref l) (h1 : vs = []) (h2 : H l = some (.lst xs)) (h3 : Q .non (upd H l (.lst xs.reverse)))
def rReverse : V → List V → Hp → VK → Prop := fun x vs H Q => rReverse_  x vs H Q
theorem mt_reverse : MtM X "list.reverse" rReverse := by
  intro pins s σ H x vs v us Q I rx rv h
  obtain ⟨l, xs, rfl, rfl, hH, q⟩ := h
  cases rx
  have hus := rv.zero
  subst hus
  obtain ⟨z, its, n, r, hl, e⟩ := I.lstM hH
  refine call_meets F.slot_list_reverse ⟨_, e, rfl⟩ F.entry_list_reverse (F.args_list_reverse_1 _) (AutoSeq1.list_reverse_list_0 l its.toArray n (by rw [List.size_toArray]; trivial)) ⟨e, ?_⟩
  refine ⟨.non, _, I.lset (its' := its.reverse) hH e (by simp) r.reverse ?_, rfl, q⟩
  rw [List.length_reverse]
  trivial
inductive rCat_ (x : V) (y : V) (H : Hp) (Q : VK) : Prop
  | mk (l : _) (b : _) (xs : _) (zs : _) (h0 : x = .ref l) (h1 : y = .ref b) (h2 : H l = some (.lst xs)) (h3 : H b = some (.lst zs)) (h4 : xs.length + zs.length ≤ sizeLine) (h5 : ∀ p, H p = none → Q (.ref p) (upd H p (.lst (xs ++ zs))))
def rCat : R2 := fun x y H Q => rCat_  x y H Q
theorem op_cat : OpR X (binaryOp .Add) rCat := by
  intro pins s σ H x y v u Q I rx ry h
  obtain ⟨l, b, xs, zs, rfl, rfl, hH, hB, hz, q⟩ := h
  cases rx
  cases ry
  obtain ⟨z, its, n, r, hl, e⟩ := I.lstM hH
  obtain ⟨z2, its2, n2, r2, hl2, e2⟩ := I.lstM hB
  refine PySem.P.add_list e e2 ?_ (by rw [List.size_toArray, List.size_toArray]; trivial)
  have ea : its.toArray ++ its2.toArray = (its ++ its2).toArray := by simp
  rw [ea]
  exact ⟨.ref _, _, I.lnew (t' := s.toks) (r.append r2) (by rw [List.length_append]; trivial), rfl, q _ I.fresh⟩
inductive rRep_ (x : V) (y : V) (H : Hp) (Q : VK) : Prop
  | mk (l : _) (k : _) (xs : _) (h0 : x = .ref l) (h1 : y = .int k) (h2 : H l = some (.lst xs)) (h3 : -(2 ^ 63) ≤ k) (h4 : k < 2 ^ 63) (h5 : xs.length * k.toNat ≤ sizeLine) (h6 : ∀ p, H p = none → Q (.ref p) (upd H p (.lst (List.replicate k.toNat xs).flatten)))
def rRep : R2 := fun x y H Q => rRep_  x y H Q
theorem len_rep {α : Type} (xs : List α) (k : Nat) : (List.replicate k xs).flatten.length = k * xs.length := by
  induction k with
  | zero => simp
  | succ k ih => rw [List.replicate_succ, List.flatten_cons, List.length_append, ih, Nat.succ_mul, Nat.add_comm]
theorem op_rep : OpR X (binaryOp .Mult) rRep := by
  intro pins s σ H x y v u Q I rx ry h
  obtain ⟨l, k, xs, rfl, rfl, hH, h1, h2, hz, q⟩ := h
  cases rx
  obtain ⟨t, rfl⟩ := ry
  obtain ⟨z, its, n, r, hl, e⟩ := I.lstM hH
  have hlen : its.toArray.size * k.toNat ≤ sizeLine := by rw [List.size_toArray, ← hl]; exact hz
  have hcap : ¬ its.toArray.size * k.toNat > (2 ^ 63 - 1) / 8 := by
    have : (sizeLine : Nat) ≤ (2 ^ 63 - 1) / 8 := by decide
    trivial
  have hfit : ¬ (!Builtin.List.listFitsIndex k) = true := by
    rw [fitsIndex_both h1 h2]
    exact Bool.false_ne_true
  have hlong : ¬ Builtin.List.listTooLong (its.toArray.size * k.toNat) = true := by
    rw [notLongL hlen]
    exact Bool.false_ne_true
  have hnew : List.foldl (fun x1 x2 => x1 ++ x2) #[] (List.replicate (if its.toArray.isEmpty = true then 0 else k.toNat) its.toArray) = (List.replicate k.toNat its).flatten.toArray := by
    have f0 : ∀ m : Nat, List.foldl (fun x1 x2 => x1 ++ x2) #[] (List.replicate m its.toArray) = (List.replicate m its).flatten.toArray := fun m => by
      have := foldl_rep its m []
      rw [List.nil_append] at this
      exact this
    rw [f0]
    cases its with
    | nil => simp
    | cons a r' => rw [if_neg (by simp)]
  refine wpAny_binaryOp_repeat_ref (T := "list") (U := "int") (by decide) ⟨_, e, rfl⟩ (fun s' => typeIs_int s' k t) noFill_list_mul F.fills_int_mul F.slot_int_rmul repeat_list F.slot_int_index.lookup
    (call_meets F.slot_int_rmul (typeIs_int s k t) F.entry_int_rmul (F.args_int_rmul_2 _ _) (int___rmul___int_list k t l its.toArray n)
      ⟨e, rfl, ⟨_, e, rfl⟩, call_meets F.slot_list_mul ⟨_, e, rfl⟩ F.entry_list_mul (F.args_list_mul_2 _ _) (AutoListH.list___mul___list_int_3 l its.toArray n k t hfit hcap hlong) ⟨e, ?_⟩⟩)
  rw [hnew]
  exact ⟨.ref _, _, I.lnew (t' := s.toks) (r.rep k.toNat) (by rw [len_rep, Nat.mul_comm]; exact hz), rfl, q _ I.fresh⟩
end
section
variable {prog : Program} {w : World} {A : Around} {E : Value → Shared → Prop} {s : Shared}
set_option maxRecDepth 100000 in
end
section
variable {X : Cx}
end
end L2
namespace Att
open PySem PySem.W PySem.Calls PyProof.Rows
theorem ints_of_wellAll {P : Params} {h : Heap} : ∀ (ns : List Int) (vs : List Value), WellAll P h vs (ns.map WData.int) → IntsAre vs ns := by
  intro ns
  induction ns with
  | nil =>
    intro vs w
    rw [List.map_nil] at w
    cases w
    exact .nil
  | cons n ns ih =>
    intro vs w
    rw [List.map_cons] at w
    cases w with
    | cons a b =>
      cases a
      exact .cons _ _ (ih _ b)
theorem script_of {l : OpenLaw} {n : Nat} (hn : l.most = some n) {P : Params} {h : Heap} {args : List WData} {vals : List Value}
    (hpre : l.row.toRowW.claim.pre args = true) (hwl : WellAll P h vals args) :
    ∃ a vs ns, vals = [Value.ref a] ∧ args = [WData.list (ns.map WData.int)] ∧ h.get? a = some { cls := .type "list", data := .seq vs.toArray } ∧ IntsAre vs ns ∧ ns.length ≤ n := by
  have hsh : WShape.hasAll [] args [.list .int] = true := (pre_splitW hpre).1
  have hc : l.pre.holds [] { args := args } = true := (pre_splitW hpre).2
  obtain ⟨d, r, rfl, h1, h2⟩ := hasAllW_cons hsh
  obtain rfl := hasAllW_nil h2
  obtain ⟨xs, rfl, h3⟩ := hasW_list h1
  obtain ⟨ns, rfl⟩ := items_int h3
  have hlen : ns.length ≤ n := by
    unfold OpenLaw.pre at hc
    have h4 : (WTm.not (.lt (.lit (.int (n : Int))) (.len (.arg 0)))).holds [] { args := [.list (ns.map .int)] } = true := by
      have h4 := (holds_andW hc).1
      rw [hn] at h4
      exact h4
    have h5 := condW_of h4 (w_not (w_lt w_lit (w_len_list (w_arg rfl))))
    rw [List.length_map] at h5
    refine Nat.le_of_not_lt fun q => ?_
    have q' : (n : Int) < ((ns.length : Nat) : Int) := by trivial
    first
      | (rw [decide_eq_true q'] at h5; exact absurd h5 (by decide))
      | (simp at h5; trivial)
  cases hwl with
  | cons w1 w2 =>
    cases w2
    cases w1 with
    | list ho hall => exact ⟨_, _, ns, rfl, rfl, ho, ints_of_wellAll ns _ hall, hlen⟩
theorem post_true (l : OpenLaw) (args : List WData) : l.row.toRowW.claim.post args (.bool true) args = true :=
  postW_of (r := l.row.toRowW) (X := (true == true))
    (show WShape.has [] (.bool true) .bool = true by first | rfl | decide | simp [WShape.has, WShape.arms, WShape.armsAll])
    (show (WTm.eq .res (.lit (.bool true))).value [] { args := args, res := some (.bool true), after := args } = some (.bool (true == true)) from w_eq_bool (w_res rfl) w_lit) rfl
theorem attach_call {l : OpenLaw} {n : Nat} {q : Program} {loose : List Str} {XP : (Str → Option Value) → Heap → Prop} {YP : World → Heap → Prop} {d : DefRec}
    (hn : l.most = some n) (hdf : d.params.defaults = [])
    (call : ∀ (w : World) (s₀ s₁ : Shared) (mg mb : Str → Option Value) (fa : Addr) (o : Obj) (pm cd doc : Value) (a : Addr) (vs : List Value) (ns : List Int),
      Ground q loose [] XP w s₀ mg mb s₁.heap → YP w s₁.heap →
      s₁.heap.get? fa = some o → o.data = .func (docDef d.name d.params d.body d.scope pm cd doc) → s₁.heap.CodeRec cd d.name → mg d.name = some (.ref fa) →
      s₁.heap.get? a = some { cls := .type "list", data := .seq vs.toArray } → IntsAre vs ns → ns.length ≤ n → s₁.gens = #[] →
      codeAny (model l.prog w) callerA (.call (.ref fa) ⟨[.ref a], []⟩) (fun r s' => r = .ok (.ret (.bool true)) ∧ OldK s₁.heap s'.heap ∧ s'.os = s₁.os ∧ AllBare s'.gens) s₁) :
    WalkO q loose XP YP l.row.toRowW d [] (fun f vs => PySem.call f vs) := by
  intro w s₀ s₁ mg mb G Y fa o pm cd doc dV kV ho hd hcd hD hmg hg args vals as hpre hlay hrd hwl hlo
  obtain rfl : dV = .none := Dflts.none hD hdf
  obtain rfl : kV = .none := Dflts.noKw hD
  obtain ⟨a, vs, ns, rfl, rfl, hobj, hints, hlen⟩ := script_of hn hpre hwl
  refine enter_call (codeAny_mono (call w s₀ s₁ mg mb fa o pm cd doc a vs ns G Y ho (fd_plain hd) hcd hmg hobj hints hlen hg) fun r s' hq => ?_)
  obtain ⟨rfl, h2, h3, h4⟩ := hq
  exact ⟨.inl ⟨.bool true, .bool true, [], rfl, fun _ => rfl, .bool true, post_true l _, fun _ => ⟨List.Pairwise.nil, fun _ hm => (nomatch hm)⟩⟩, h2, h3, h4⟩
section
variable {prog : Program} {w : World} {A : Around} {E : Value → Shared → Prop} {s : Shared} {K : Frag}
end
end Att
namespace L2
open PySem PySem.Spec PyProof.Rows
theorem vals_ints : ∀ {vs : List Value} {ns : List Int}, IntsAre vs ns → Vals (ns.map V.int) vs
  | _, _, .nil => .nil
  | _, _, .cons n t h => .cons ⟨t, rfl⟩ (vals_ints h)
def Only (H : Hp) : Prop := ∀ b, H b = none ∨ Ex2 fun o xs => H b = some (.frz o (.lst xs))
theorem law_call {P : Program} {w : World} {K : PySem.W.Frag} {mg mb : Str → Option Value} {CX : CXT} {k : Nat} {fa a : Addr} {fd : FuncData} {x : Str} {sp : Sp} {s₁ : Shared} {vs : List Value} {ns : List Int}
    (KX : K.In s₁.heap) (hns : s₁.heap.Ns mainGlobals mg) (hb : s₁.heap.Ns builtinsNs mb) (hbb : ∀ x : Str, x ≠ "__name__" → mb x = bootBuiltins x) (hlim : s₁.heap.NoLimit) (hg : s₁.gens = #[])
    (ha : s₁.heap.get? a = some { cls := .type "list", data := .seq vs.toArray }) (hi : IntsAre vs ns) (hl : ns.length ≤ sizeLine) (hr : Room k callerA)
    (F : ∀ base : Heap, K.In base → base.Ns mainGlobals mg → FnOk P w K mg base CX k fa fd [x] sp) (hbind : ∀ (s : Shared) (u : Value), BindsTo s fd ⟨[u], []⟩ [(x, u)])
    (hsp : ∀ H : Hp, Only H → SqL K H a (ns.map V.int) → sp [.ref a] H (fun v _ => v = .bl true) fun _ _ _ => False)
    (hCX : ∀ H e s', CX [] H s₁ (fun _ _ _ => False) e s' → False) :
    codeAny (model P w) callerA (.call (.ref fa) ⟨[.ref a], []⟩) (fun r s' => r = .ok (.ret (.bool true)) ∧ OldK s₁.heap s'.heap ∧ s'.os = s₁.os ∧ AllBare s'.gens) s₁ := by
  have rv := vals_ints hi
  have lenV := hi.length
  have core : ∀ H : Hp, Only H → SqL K H a (ns.map V.int) → HOk P w H s₁.heap → (∀ b, H b ≠ none → b = a) → (H a ≠ none → K.lookup a = none) →
      codeAny (model P w) callerA (.call (.ref fa) ⟨[.ref a], []⟩) (fun r s' => r = .ok (.ret (.bool true)) ∧ OldK s₁.heap s'.heap ∧ s'.os = s₁.os ∧ AllBare s'.gens) s₁ := by
    intro H hO hS hok hA hK
    have base_of : ∀ {b : Addr} {o : Obj}, s₁.heap.get? b = some o → H b = none → (hidT s₁.heap H).get? b = some o := fun e n => hidT_get e n
    have noA : ∀ {b : Addr} {o : Obj} {es : Array DictEntry} {ep : Nat}, s₁.heap.get? b = some o → o.data = .dict es ep → H b = none := fun {b o es ep} e d => by
      cases q : H b with
      | none => rfl
      | some u =>
        have e' : b = a := hA b (by rw [q]; simp)
        subst e'
        rw [ha] at e; cases e
        have d' : Data.seq vs.toArray _ = Data.dict es ep := d
        cases d'
    have nsK : ∀ {b : Addr} {m : Str → Option Value}, s₁.heap.Ns b m → (hidT s₁.heap H).Ns b m := fun {b m} ⟨o, es, ep, e, d, r⟩ => ⟨o, es, ep, base_of e (noA e d), d, r⟩
    have hKb : K.In (hidT s₁.heap H) := fun b o e => base_of (KX b o e) (by
      cases q : H b with
      | none => rfl
      | some u =>
        have e' : b = a := hA b (by rw [q]; simp)
        subst e'
        rw [hK (by rw [q]; simp)] at e; cases e)
    have hM : Mod K mg (hidT s₁.heap H) := ⟨hKb, nsK hns, ⟨mb, nsK hb, hbb⟩, let ⟨mc, h1, h2⟩ := hlim; ⟨mc, nsK h1, h2⟩⟩
    have e0 : Env0 P w K mg (hidT s₁.heap H) callerA [] s₁ H := ⟨rfl, hM, fun b o e => of_hidT e, Nat.le_of_eq (hidT_size _ _), trivial, fun b hb => absurd (show b ∈ ([] : List Addr) from hb) (by simp), hok, .of_eq hg⟩
    refine codeAny_mono ((F _ hKb (nsK hns)).run callerA [] s₁ H ⟨[.ref a], []⟩ [.ref a] [.ref a] _ _ hr e0 (hbind s₁ (.ref a)) (.cons rfl .nil) (hsp H hO hS)) fun r s' h => ?_
    cases r with
    | error e => exact (hCX H e s' h).elim
    | ok fl =>
      cases fl with
      | next => exact False.elim h
      | brk => exact False.elim h
      | cont => exact False.elim h
      | ret u =>
        obtain ⟨v, H', os, bare, un, hok', r', q⟩ := h
        have q' : v = .bl true := q
        subst q'
        obtain rfl : u = Value.bool true := r'
        refine ⟨rfl, OldK.of_keep fun b o e => ?_, os, bare⟩
        cases q : H b with
        | none => exact un.keep b o e q (by intro z; exact absurd (show b ∈ ([] : List Addr) from z) (by simp)) (by simp)
        | some u =>
          rcases hO b with z | ⟨ob, xs, z⟩
          · rw [q] at z; cases z
          · have z2 := un.frzs b ob _ z
            obtain ⟨e1, _⟩ := hok b _ z
            obtain ⟨e2, _⟩ := hok' b _ z2
            rw [e] at e1; cases e1
            exact e2
  cases hk : K.lookup a with
  | some o =>
    have e := KX a o hk
    rw [ha] at e
    cases e
    refine core (fun _ => none) (fun _ => .inl rfl) (.inr ⟨_, vs.toArray, _, hk, rfl, rfl, rfl, by rw [List.size_toArray, lenV]; exact hl, by simpa using rv⟩) (fun b u z => by have z' : (none : Option HO) = some u := z; cases z') (fun b z => absurd rfl z) fun z => absurd rfl z
  | none =>
    refine core (fun b => if b = a then some (.frz { cls := .type "list", data := .seq vs.toArray } (.lst (ns.map V.int))) else none) (fun b => ?_) (.inl (.inr ⟨{ cls := .type "list", data := .seq vs.toArray }, if_pos rfl⟩)) (fun b u z => ?_) (fun b z => ?_) fun _ => hk
    · by_cases hb : b = a
      · exact .inr ⟨_, _, if_pos hb⟩
      · exact .inl (if_neg hb)
    · by_cases hb : b = a
      · have z' := (if_pos hb).symm.trans z
        cases z'
        subst hb
        exact ⟨ha, by rw [List.length_map]; exact hl, vs, _, rv, ha⟩
      · have z' := (if_neg hb).symm.trans z
        cases z'
    · by_cases hb : b = a
      · exact hb
      · exact absurd (if_neg hb) z
end L2
namespace L2
open PySem PySem.Spec PyProof.Rows
abbrev KOf {K : PySem.W.Frag} {h : Heap} (_ : K.In h) : PySem.W.Frag := K
theorem walk_of {l : PySem.W.OpenLaw} {n k : Nat} {q : Program} {loose : List Str} {XP : (Str → Option Value) → Heap → Prop} {YP : World → Heap → Prop} {d : DefRec} {K : Params → PySem.W.Frag} {CX : World → CXT} {sp : World → Sp} {x : Str}
    (hn : l.most = some n) (hn2 : n ≤ sizeLine) (hdf : d.params.defaults = []) (hr : Room k callerA)
    (hY : ∀ (w : World) (h : Heap), YP w h → (K w.params).In h)
    (F : ∀ (w : World) (mg : Str → Option Value) (fa : Addr) (h : Heap), (K w.params).In h → h.Ns mainGlobals mg → mg d.name = some (.ref fa) →
      ∃ fd : FuncData, (∀ (s : Shared) (u : Value), BindsTo s fd ⟨[u], []⟩ [(x, u)]) ∧
        ∀ base : Heap, (K w.params).In base → base.Ns mainGlobals mg → FnOk l.prog w (K w.params) mg base (CX w) k fa fd [x] (sp w))
    (hsp : ∀ (w : World) (H : Hp) (a : Addr) (ns : List Int), ns.length ≤ n → Only H → SqL (K w.params) H a (ns.map V.int) → sp w [.ref a] H (fun v _ => v = .bl true) fun _ _ _ => False)
    (hCX : ∀ (w : World) (H : Hp) (s : Shared) (e : Value) (s' : Shared), CX w [] H s (fun _ _ _ => False) e s' → False) :
    PySem.W.WalkO q loose XP YP l.row.toRowW d [] (fun f vs => PySem.call f vs) := by
  refine Att.attach_call hn hdf fun w s₀ s₁ mg mb fa o pm cd doc a vs ns G Y ho hd hcd hmg hobj hints hlen hg => ?_
  have KX := hY w _ Y
  obtain ⟨fd, hb, hF⟩ := F w mg fa _ KX G.T.g hmg
  exact law_call KX G.T.g G.T.b G.T.builtins G.T.nolimit hg hobj hints (Nat.le_trans hlen hn2) hr hF hb (fun H hO hS => hsp w H a ns hlen hO hS) fun H e s' => hCX w H s₁ e s'
theorem walk_ofK {l : PySem.W.OpenLaw} {n k : Nat} {q : Program} {loose : List Str} {XP : (Str → Option Value) → Heap → Prop} {YP : World → Heap → Prop} {d : DefRec} {K : Params → PySem.W.Frag} {CX : CXT} {sp : PySem.W.Frag → Sp} {x : Str}
    (hn : l.most = some n) (hn2 : n ≤ sizeLine) (hdf : d.params.defaults = []) (hr : Room k callerA)
    (hY : ∀ (w : World) (h : Heap), YP w h → (K w.params).In h)
    (F : ∀ (w : World) (mg : Str → Option Value) (fa : Addr) (h : Heap), (K w.params).In h → h.Ns mainGlobals mg → mg d.name = some (.ref fa) →
      ∃ fd : FuncData, (∀ (s : Shared) (u : Value), BindsTo s fd ⟨[u], []⟩ [(x, u)]) ∧
        ∀ base : Heap, (K w.params).In base → base.Ns mainGlobals mg → FnOk l.prog w (K w.params) mg base CX k fa fd [x] (sp (K w.params)))
    (hsp : ∀ (K : PySem.W.Frag) (H : Hp) (a : Addr) (ns : List Int), ns.length ≤ n → Only H → SqL K H a (ns.map V.int) → sp K [.ref a] H (fun v _ => v = .bl true) fun _ _ _ => False)
    (hCX : ∀ (H : Hp) (s : Shared) (e : Value) (s' : Shared), CX [] H s (fun _ _ _ => False) e s' → False) :
    PySem.W.WalkO q loose XP YP l.row.toRowW d [] (fun f vs => PySem.call f vs) :=
  walk_of (K := K) (CX := fun _ => CX) (sp := fun w => sp (K w.params)) hn hn2 hdf hr hY F (fun w H a ns h1 h2 h3 => hsp (K w.params) H a ns h1 h2 h3) fun _ H s e s' => hCX H s e s'
end L2
/- THE LAST THEOREM (shape; LID, My.* are yours):
   My.Adr: a structure of the addresses that your layer names (classes, functions); My.Txt K t: a structure (Prop) of the equations over K;
   My.txt_mk : {K} {implicit addresses ..} (e1 : nsIn K mainGlobals "law" = some (some (.ref f))) (e2 : K.lookup f = some ⟨oc, od, .func (fnOf "law" "law" params body scope dV kV doc pm an cdv ct), sl⟩) (e3 : codeIn K cdv "law" = true) .. : ∃ t, My.Txt K t
set_option maxRecDepth 100000 in
set_option maxHeartbeats 0 in
theorem PySem.Challenge.cw_LID_holds : PySem.Challenge.rw_LID.Holds := by
  w_on; o_law; k_head; (case hw => w_witness2)
  k_fill
  refine L2.walk_of (l := PySem.Challenge.rw_LID) (n := 63) (k := 40) (x := "script") (CX := fun w => ..) (sp := fun _ => My.sp_law) rfl (by decide) rfl ⟨rfl, by decide, by decide⟩ (fun w h Y => PySem.W.kIn_of Y) ?F ?S ?C
  case F =>
    intro w mg fa h KX G hmg
    have T : ∃ t, My.Txt (L2.KOf KX) t := by
      dsimp only [L2.KOf]                          -- K must stand as «<heap const> w.params» for k_is
      refine' My.txt_mk ?e1 ?e2 ?e3 ..
      (case e1 => PySem.W.k_is)                    -- in the order: a name -> its address -> its object -> its parts
      (case e2 => PySem.W.k_is)
      ..
    obtain ⟨t, T⟩ := T
    have e0 := hmg.symm.trans (PySem.W.mg_of KX G T.law)
    cases e0                                       -- fa is the law's own address
    exact ⟨_, fun s u => .of_eq rfl, fun base kb nb => My.law_fn T kb nb⟩     -- if «.of_eq rfl» comes too early: refine' ⟨_, ?b, fun base kb nb => My.law_fn T kb nb⟩; exact fun s u => .of_eq rfl
  case S => exact fun w H a ns hl hO hS => ..
  case C => exact ..
(the tactic k_is has no namespace: write k_is) -/
namespace L2
open PySem PySem.Spec PyProof.Rows
def defArgs (s : Stmt) : Arguments := match s with
  | .FunctionDef _ a _ _ _ _ _ _ _ _ => a
  | _ => { posonlyargs := [], args := [], vararg := none, kwonlyargs := [], kw_defaults := [], kwarg := none, defaults := [] }
def defBody (s : Stmt) : List Stmt := match s with
  | .FunctionDef _ _ b _ _ _ _ _ _ _ => b
  | _ => []
def defScope (s : Stmt) : Scope := match s with
  | .FunctionDef _ _ _ _ _ _ sc _ _ _ => sc
  | _ => { kind := .function, names := [], isGenerator := false, isCoroutine := false }
abbrev CX0 : CXT := fun _ _ _ _ _ _ => False
abbrev E0 : XK := fun _ _ _ => False
theorem pass0 {X : Cx} : Passes CX0 X E0 := fun _ _ _ _ _ _ _ h => h.elim
structure Fun (K : PySem.W.Frag) (x qual : Str) (st : Stmt) (f : Addr) (fd : FuncData) : Prop where
  ex : Ex9 fun (oc : Value) (od : Option Addr) (kV doc pm : Value) (an : Option Addr) (cdv ct : Value) (osl : Array (Option Value)) =>
    fd = PySem.W.fnOf x qual (defArgs st) (defBody st) (defScope st) .none kV doc pm an cdv ct ∧ K.lookup f = some ⟨oc, od, .func fd, osl⟩ ∧ PySem.W.codeIn K cdv qual = true
  kp : PySem.W.keepIn K (.ref f) = true
section
variable {P : Program} {w : World} {K : PySem.W.Frag} {mg : Str → Option Value} {base : Heap}
theorem Fun.ok {x qual : Str} {st : Stmt} {f : Addr} {fd : FuncData} {N ps : List Str} {k : Nat} {sp : Sp} (F : Fun K x qual st f fd) (S : FnScope N ps (defScope st)) (len : ∀ vs H Q E, sp vs H Q E → vs.length = ps.length)
    (hbody : ∀ (cdv : Value) (A : Around) (outer : List Env) (s : Shared) (H : Hp) (vs : List V) (Q : VK) (E : XK), Room k (A.deeper (envOfC qual (defScope st) s.heap.objs.size f cdv)) → sp vs H Q E →
      ∃ t, PSs (cxOf CX0 P w K mg base N qual (defScope st) f cdv A outer s H E).nox (defBody st) t ∧ t { nx := fun _ H' => Q .non H', rt := Q } (start N vs) H) : FnOk P w K mg base CX0 (k + 1) f fd ps sp := by
  obtain ⟨oc, od, kV, doc, pm, an, cdv, ct, osl, rfl, lk, hcd⟩ := F.ex
  refine fn_of lk hcd S len fun A outer s H vs Q E hr hsp => ?_
  obtain ⟨t, h, q⟩ := hbody cdv A outer s H vs Q E hr hsp
  exact ⟨t, h.nox, q⟩
theorem Fun.binds {x qual : Str} {st : Stmt} {f : Addr} {fd : FuncData} {ps : List Str} (F : Fun K x qual st f fd)
    (h : ∀ (kV doc pm : Value) (an : Option Addr) (cdv ct : Value) (us : List Value), us.length = ps.length → bindArgs (PySem.W.fnOf x qual (defArgs st) (defBody st) (defScope st) .none kV doc pm an cdv ct) ⟨us, []⟩ = pure (ps.zip us)) : Binds K fd ps [] := by
  obtain ⟨oc, od, kV, doc, pm, an, cdv, ct, osl, rfl, lk, hcd⟩ := F.ex
  exact .all (h kV doc pm an cdv ct)
theorem fun_mk {x qual : Str} {st : Stmt} {f : Addr} {oc : Value} {od an : Option Addr} {osl : Array (Option Value)} {kV doc pm cdv ct : Value} (l : K.lookup f = some ⟨oc, od, .func (PySem.W.fnOf x qual (defArgs st) (defBody st) (defScope st) .none kV doc pm an cdv ct), osl⟩)
    (c : PySem.W.codeIn K cdv qual = true) (k : PySem.W.keepIn K (.ref f) = true) : Fun K x qual st f (PySem.W.fnOf x qual (defArgs st) (defBody st) (defScope st) .none kV doc pm an cdv ct) := ⟨⟨oc, od, kV, doc, pm, an, cdv, ct, osl, rfl, l, c⟩, k⟩
end
section
variable {X : Cx}
theorem pv (i : Nat) {x : Str} {pos : Pos} (hN : X.N[i]? = some x := by rfl) (hv : Vis X.env.scope x := by first | exact Or.inl rfl | exact Or.inr (Or.inl rfl) | exact Or.inr (Or.inr rfl)) (hd : (x == ("__debug__" : Str)) = false := by decide)
    (hcd : (x == ("__classdict__" : Str)) = false := by decide) : PE X (.Name x pos) (tVar i) := pe_var hN hv hd hcd
end
theorem iteF {A B : Prop} (h : B) : if false = true then A else B := by
  rw [if_neg Bool.false_ne_true]
  exact h
theorem iteT {A B : Prop} (h : A) : if true = true then A else B := by
  rw [if_pos rfl]
  exact h
theorem ite2 {c A B : Prop} [Decidable c] (h1 : c → A) (h2 : ¬ c → B) : if c then A else B := by
  by_cases h : c
  · rw [if_pos h]
    exact h1 h
  · rw [if_neg h]
    exact h2 h
def Same (H H' : Hp) : Prop := ∀ b o, H b = some o → H' b = some o
theorem Same.refl (H : Hp) : Same H H := fun _ _ h => h
theorem Same.trans {H H1 H2 : Hp} (a : Same H H1) (b : Same H1 H2) : Same H H2 := fun c o h => b c o (a c o h)
theorem Same.free {H H' : Hp} (e : Same H H') {l : Addr} (h : H' l = Option.none) : H l = Option.none := by
  cases q : H l with
  | none => rfl
  | some o =>
    rw [e l o q] at h
    cases h
theorem Same.seq {K : PySem.W.Frag} {H H' : Hp} {a : Addr} {xs : List V} (e : Same H H') (h : SqL K H a xs) : SqL K H' a xs := by
  rcases h with (h | ⟨o, h⟩) | h
  · exact .inl (.inl (e _ _ h))
  · exact .inl (.inr ⟨o, e _ _ h⟩)
  · exact .inr h
end L2
namespace L2
open PySem
theorem clos_ok {scope : Scope} {env : Env} (h : ∀ y ∈ scope.names, y.2 = .free → ∃ c, env.cells.lookup y.1 = some c) :
    ∃ cl, closureFor scope env = pure cl ∧ (∀ x c, cl.lookup x = some c → env.cells.lookup x = some c) ∧ (∀ y ∈ scope.names, y.2 = .free → ∃ c, cl.lookup y.1 = some c) := by
  have go : ∀ (names : List (Str × NameKind)) (acc : List (Str × Addr)), (∀ y ∈ names, y.2 = .free → ∃ c, env.cells.lookup y.1 = some c) → (∀ x c, acc.lookup x = some c → env.cells.lookup x = some c) →
      ∃ cl, (forIn names acc (fun (x : Str × NameKind) (cs : List (Str × Addr)) => match x with
        | (name, kind) => if (kind == .free) = true then (do let a ← cellOf env name; pure (ForInStep.yield ((name, a) :: cs))) else pure (ForInStep.yield cs)) : Sem (List (Str × Addr))) = pure cl ∧
        (∀ x c, cl.lookup x = some c → env.cells.lookup x = some c) ∧ (∀ y ∈ names, y.2 = .free → ∃ c, cl.lookup y.1 = some c) ∧ (∀ x c, acc.lookup x = some c → ∃ c', cl.lookup x = some c') := by
    intro names
    induction names with
    | nil => intro acc _ ha; exact ⟨acc, rfl, ha, fun y hy => (by cases hy), fun x c e => ⟨c, e⟩⟩
    | cons x r ih =>
      intro acc hn ha
      obtain ⟨name, kind⟩ := x
      rw [List.forIn_cons]
      by_cases hk : kind = .free
      · subst hk
        obtain ⟨c, hc⟩ := hn (name, .free) List.mem_cons_self rfl
        have e : cellOf env name = pure c := by unfold cellOf; rw [hc]
        obtain ⟨cl, e1, e2, e3, e4⟩ := ih ((name, c) :: acc) (fun y hy => hn y (List.mem_cons_of_mem _ hy)) (fun x c' hx => by
          rw [List.lookup_cons] at hx
          split at hx
          · rename_i hb
            have : x = name := by simpa using hb
            subst this
            cases hx; exact hc
          · exact ha x c' hx)
        refine ⟨cl, ?_, e2, fun y hy hf => ?_, fun x c' hx => ?_⟩
        · simp only [beq_self_eq_true, if_true]
          rw [e, pure_bind, pure_bind]
          exact e1
        · rcases List.mem_cons.mp hy with rfl | hy
          · exact e4 name c (by simp)
          · exact e3 y hy hf
        · by_cases hb : (x == name) = true
          · have : x = name := by simpa using hb
            subst this
            exact e4 x c (by simp)
          · exact e4 x c' (by rw [List.lookup_cons]; simp only [Bool.not_eq_true] at hb; rw [hb]; exact hx)
      · have hb : (kind == NameKind.free) = false := by simpa using hk
        obtain ⟨cl, e1, e2, e3, e4⟩ := ih acc (fun y hy => hn y (List.mem_cons_of_mem _ hy)) ha
        refine ⟨cl, ?_, e2, fun y hy hf => ?_, e4⟩
        · simp only [hb, Bool.false_eq_true, if_false]
          rw [pure_bind]
          exact e1
        · rcases List.mem_cons.mp hy with rfl | hy
          · exact absurd hf hk
          · exact e3 y hy hf
  obtain ⟨cl, e1, e2, e3, _⟩ := go scope.names [] h (fun x c e => by simp at e)
  refine ⟨cl, ?_, e2, e3⟩
  unfold closureFor
  show (forIn scope.names _ _ >>= fun cs => pure cs) = _
  rw [bind_pure]
  exact e1
section
variable {prog : Program} {w : World} {A : Around} {R : Result → Shared → Prop} {s : Shared}
theorem compLoop_all {elt target iter : Expr} {ifs : List Expr} {scope : Scope} {pos : Pos} {it acc : Value} {env : Env} (I : Nat → Shared → Prop)
    (turn : ∀ n s, I n s → wpAny (model prog w) A (pyNext it) (fun r s₁ => match r with
      | none => R (.ok .next) s₁
      | some v => wpAny (model prog w) A (letOwnedTupleGo target it v) (fun _ s₁' => wpAny (model prog w) A (assign target env v) (fun _ s₂ =>
          wpAny (model prog w) A (forIn ifs true fun c r => if r = true then do let ok ← isTrue c env (eval c env); pure (ForInStep.yield ok) else pure (ForInStep.yield r)) (fun ok s₃ =>
            if ok = true then wpAny (model prog w) A (eval elt env) (fun x s₄ =>
              wpAny (model prog w) A (call (.builtin "list.append") [acc, x]) (fun _ s₅ => ∃ m, m < n ∧ I m s₅) (fun _ _ => False) s₄) (fun _ _ => False) s₃
            else ∃ m, m < n ∧ I m s₃) (fun _ _ => False) s₂) (fun _ _ => False) s₁') (fun _ _ => False) s₁) (fun _ _ => False) s)
    (n : Nat) (h : I n s) :
    codeAny (model prog w) A (.compLoop (.ListComp elt [⟨target, iter, ifs, 0⟩] scope pos) 0 it acc env) R s := by
  refine codeAny_loop rfl I (fun n s hI => ?_) n h
  show wpAny _ A ((compTurn (.ListComp elt [⟨target, iter, ifs, 0⟩] scope pos) 0 it acc env).onRaise (fun x => do noteFrame x env; theTreesLotGoes x)) _ _ s
  refine wpAny_noted ?_
  rw [compTurn_list]
  refine wpAny_bind (wpAny_standAt (wpAny_bind (wpAny_mono (turn n s hI) (fun r s₁ h₁ => ?_) fun _ _ h' => h'.elim)))
  cases r with
  | none => exact wpAny_pure h₁
  | some v =>
    refine wpAny_bind (wpAny_mono h₁ (fun _ s₁' h₁' => ?_) fun _ _ h' => h'.elim)
    refine wpAny_bind (wpAny_mono h₁' (fun _ s₂ h₂ => wpAny_bind (wpAny_mono h₂ (fun ok s₃ h₃ => ?_) fun _ _ h' => h'.elim)) fun _ _ h' => h'.elim)
    cases ok with
    | false => exact wpAny_pure ⟨rfl, h₃⟩
    | true =>
      exact wpAny_bind (wpAny_bind (wpAny_mono h₃ (fun x s₄ h₄ => wpAny_bind (wpAny_mono h₄ (fun _ s₅ h₅ => wpAny_pure (wpAny_pure ⟨rfl, h₅⟩)) fun _ _ h' => h'.elim)) fun _ _ h' => h'.elim))
end
end L2
namespace L2
open PySem PySem.Spec PyProof.Rows
section
variable {X : Cx}
theorem call_isinst : CallR X (.builtin "isinstance") (fun xs H Q => Ex4 fun x T t b => xs = [x, .ty T] ∧ TyOf X.K H x t ∧ PySem.W.kitOne X.K t (.type T) = some b ∧ Q (.bl b) H) := by
  intro pins s σ H xs us Q I r h
  obtain ⟨x, T, t, b, rfl, ty, e, q⟩ := h
  obtain ⟨u, c, rfl, ru, rc⟩ := r.two
  obtain rfl : c = Value.type T := rc
  exact isinst_ok I ru ty e fun tk => ⟨.bl b, H, I.tok tk, rfl, q⟩
end
def cxComp (X : Cx) (scope : Scope) (cl : List (Str × Addr)) (C : Addr) (N' : List Str) (s : Shared) (H : Hp) (ex : List Addr) (pn : List (Addr × Obj)) : Cx :=
  { X with N := N', s₀ := s, H₀ := H, env := compEnvC scope cl C X.env, outer := X.stack, ex := ex, fn := fun _ => false, pn := pn, xe := fun _ _ => False }
def cst (L : Nat) (src : List Nat) (σ : St) : St := List.replicate L none ++ src.map fun j => (σ[j]?).join
def Back (σ σ' : St) : Prop := σ'.length = σ.length ∧ ∀ (i : Nat) v, σ[i]? = some (some v) → σ'[i]? = some (some v)
theorem back1 {x : V} {r : St} : Back (none :: r) (some x :: r) := ⟨rfl, fun i v e => by
  cases i with
  | zero => simp at e
  | succ i => simpa using e⟩
theorem back2 {x y : V} {r : St} : Back (none :: none :: r) (some x :: some y :: r) := ⟨rfl, fun i v e => by
  cases i with
  | zero => simp at e
  | succ i =>
    cases i with
    | zero => simp at e
    | succ i => simpa using e⟩
def PIfs (X : Cx) (ifs : List Expr) (t : TT) : Prop :=
  ∀ (pins : List (Addr × Obj)) (s : Shared) (σ : St) (H : Hp) (Q : Bool → Hp → Prop), Inv X pins σ H s → t σ H Q →
    wpAny (model X.prog X.w) X.A (forIn ifs true fun c r => if r = true then do let ok ← isTrue c X.env (eval c X.env); pure (ForInStep.yield ok) else pure (ForInStep.yield r)) (TP X pins σ Q) X.xe s
def tT : TT := fun _ H Q => Q true H
theorem pifs_nil {X : Cx} : PIfs X [] tT := fun _ _ _ H _ I h => wpAny_pure ⟨H, I, h⟩
theorem pifs_one {X : Cx} {c : Expr} {t : TT} (hc : PT X c t) : PIfs X [c] t := by
  intro pins s σ H Q I h
  rw [List.forIn_cons]
  refine wpAny_bind ?_
  rw [if_pos rfl]
  exact wpAny_bind (thn (hc pins s σ H Q I h) fun b s1 q => wpAny_pure (wpAny_pure q))
def compChk (esc : Scope) (N : List Str) (scope : Scope) (N' : List Str) (L : Nat) (src : List Nat) : Bool :=
  (scope.kind == .function) && scope.names.all (fun y => y.2 != .cell && (y.2 != .local || scope.names.lookup y.1 == some .local) && (y.2 != .free || esc.names.lookup y.1 == some .cell || esc.names.lookup y.1 == some .free)) &&
    (N'.length == L + src.length) && (List.range src.length).all fun i => match src[i]?, N'[L + i]? with
      | some j, some x => (N[j]? == some x) && (scope.names.lookup x == some .free)
      | _, _ => false
structure CompOk (esc : Scope) (N : List Str) (scope : Scope) (N' : List Str) (L : Nat) (src : List Nat) : Prop where
  kind : scope.kind = .function
  nocell : ∀ y ∈ scope.names, y.2 ≠ .cell
  loc : ∀ y ∈ scope.names, y.2 = .local → scope.names.lookup y.1 = some .local
  free : ∀ y ∈ scope.names, y.2 = .free → esc.names.lookup y.1 = some .cell ∨ esc.names.lookup y.1 = some .free
  len : N'.length = L + src.length
  frees : ∀ (i j : Nat), src[i]? = some j → ∃ x, N'[L + i]? = some x ∧ N[j]? = some x ∧ scope.names.lookup x = some .free
theorem compOk_of {esc : Scope} {N : List Str} {scope : Scope} {N' : List Str} {L : Nat} {src : List Nat} (h : compChk esc N scope N' L src = true) : CompOk esc N scope N' L src := by
  unfold compChk at h
  simp only [Bool.and_eq_true, List.all_eq_true] at h
  obtain ⟨⟨⟨h1, h2⟩, h3⟩, h4⟩ := h
  refine ⟨by simpa using h1, fun y hy => ?_, fun y hy e => ?_, fun y hy e => ?_, by simpa using h3, fun i j e => ?_⟩
  · have := (h2 y hy).1.1
    simpa using this
  · have := (h2 y hy).1.2
    rw [e] at this
    simpa using this
  · have := (h2 y hy).2
    rw [e] at this
    simpa using this
  · have hi : i < src.length := (List.getElem?_eq_some_iff.mp e).1
    have := h4 i (List.mem_range.mpr hi)
    rw [e] at this
    cases q : N'[L + i]? with
    | none => rw [q] at this; simp at this
    | some x =>
      rw [q] at this
      simp only [Bool.and_eq_true, beq_iff_eq] at this
      exact ⟨x, rfl, this.1, this.2⟩
def CompW (J : It) (σc : St) (g : TG) (tt : TT) (te : TE) (D : Addr) (H1 : Hp) (Q : VK) : Prop :=
  ∃ W : Nat → Nat → Hp → List V → Prop, (∃ m, W 0 m (upd H1 D (.lst [])) []) ∧ ∀ i m H ys, W i m H ys → H D = some (.lst ys) ∧
    ((J.stop i H ∧ Q (.ref D) H) ∨ (J.go i H ∧ ys.length < sizeLine ∧ ∃ N : Hp → List V → Prop, (∀ H' ys', N H' ys' → ∃ m', m' < m ∧ W (i + 1) m' H' ys') ∧
      ∀ x H', J.yld i H x H' → g x σc H' fun σ2 H2 => Back σc σ2 ∧ tt σ2 H2 fun b H3 => if b = true then te σ2 H3 fun y H4 => H4 D = some (.lst ys) ∧ N (upd H4 D (.lst (ys ++ [y]))) (ys ++ [y]) else N H3 ys))
def tComp (wi : TI) (L : Nat) (src : List Nat) (g : TG) (tt : TT) (te : TE) : TE := fun σ H Q => wi σ H fun J H1 => ∀ D, H1 D = none → CompW J (cst L src σ) g tt te D H1 Q
section
variable {X : Cx} {elt tg iter : Expr} {ifs : List Expr} {scope : Scope} {pos : Pos} {N' : List Str} {L : Nat} {src : List Nat} {wi : TI} {g : TG} {tt : TT} {te : TE}
theorem comp_run (hc : X.calm = true) (ck : CompOk X.env.scope X.N scope N' L src) {cl : List (Str × Addr)} {pins : List (Addr × Obj)} {s : Shared} {σ : St} {H : Hp} {Q : VK} (I : Inv X pins σ H s)
    (hsub : ∀ x c, cl.lookup x = some c → X.env.cells.lookup x = some c) (hhas : ∀ y ∈ scope.names, y.2 = .free → ∃ c, cl.lookup y.1 = some c)
    (hi : PI X tg iter wi) (hg : ∀ cl C s H ex pn, PG (cxComp X scope cl C N' s H ex pn) tg g) (hif : ∀ cl C s H ex pn, PIfs (cxComp X scope cl C N' s H ex pn) ifs tt)
    (he : ∀ cl C s H ex pn, PE (cxComp X scope cl C N' s H ex pn) elt te) (h : tComp wi L src g tt te σ H Q) {RR : Value → Addr → Result → Shared → Prop}
    (hRR : ∀ D C H' f s' m, Inv X pins σ H' s' → s'.heap.Ns C m → FpOk X pins H' C → Q (.ref D) H' → RR (.ref D) C (.ok f) s') :
    wpAny (model X.prog X.w) X.A (eval iter X.env) (fun x s₁ => wpAny (model X.prog X.w) X.A (pyIter x) (fun it s₂ => wpAny (model X.prog X.w) X.A (newList []) (fun acc s₃ =>
      wpAny (model X.prog X.w) X.A (newFunctionEnv scope X.env.globals cl [] X.env.qual none .none (some X.env)) (fun cenv s₄ =>
        codeAny (model X.prog X.w) X.A (.compStart (.ListComp elt [⟨tg, iter, ifs, 0⟩] scope pos) 0 it acc { cenv with scope := relabel scope X.env }) (RR acc cenv.locals) s₄) X.xe s₃) X.xe s₂) X.xe s₁) X.xe s := by
  refine thn (hi pins s σ H _ I h) fun v s1 h1 => thn h1 fun itv s2 h2 => ?_
  obtain ⟨it, fp, tn, J, H2, e, I2, T, st2, f2, q⟩ := h2
  subst e
  refine wpAny_newObj_type (wpAny_newFunctionEnv ck.nocell (by intro y hy; simp at hy) (fun h₁ hns₁ hsb₁ => ?_) ck.kind)
  dsimp only at hns₁ hsb₁ ⊢
  generalize hH2 : s2.heap.push { cls := .type "list", dict := none, data := .seq ([] : List Value).toArray } = hp2 at hns₁ hsb₁ ⊢
  have hC : hp2.objs.size = s2.heap.objs.size + 1 := by rw [← hH2, Heap.size_push]
  have hDC : s2.heap.objs.size ≠ hp2.objs.size := by rw [hC]; exact Nat.ne_of_lt (Nat.lt_succ_self _)
  have hCle : s2.heap.objs.size ≤ hp2.objs.size := by rw [hC]; exact Nat.le_succ _
  have below : ∀ b, b < s2.heap.objs.size → b ≠ hp2.objs.size ∧ b ≠ s2.heap.objs.size := fun b hb => ⟨by rw [hC]; exact Nat.ne_of_lt (Nat.lt_succ_of_lt hb), Nat.ne_of_lt hb⟩
  have old : ∀ b o, s2.heap.get? b = some o → h₁.get? b = some o := fun b o e => hsb₁.extBut b o (below b (Heap.lt_size e)).1 (Heap.get?_push_of_some _ (hH2 ▸ Heap.get?_push_of_some _ e))
  have hacc : h₁.get? s2.heap.objs.size = some { cls := .type "list", dict := none, data := .seq ([] : List Value).toArray } := hsb₁.extBut _ _ hDC (Heap.get?_push_of_some _ (hH2 ▸ Heap.get?_push_size _ rfl))
  have hDn : H2 s2.heap.objs.size = none := I2.fresh
  obtain ⟨W, ⟨m0, w0⟩, turn⟩ := q _ hDn
  have fpo : ∀ b ∈ fp, ∃ o, s2.heap.get? b = some o ∧ ∀ v, o.data ≠ .cell v := T.obj _ _ st2
  have fplt : ∀ b ∈ fp, b < s2.heap.objs.size := fun b hb => by obtain ⟨o, e, _⟩ := fpo b hb; exact Heap.lt_size e
  have hfrs : ∀ b ∈ fp, b ∉ frs X.stack := fun b hb z => by
    rcases List.mem_cons.mp (I2.stkSub b z) with z' | z'
    · exact (f2 b hb).2.1 z'
    · exact (f2 b hb).2.2.1 z'
  generalize hX : cxComp X scope cl hp2.objs.size N' s2 H2 fp (X.pn ++ pins) = X'
  have ok' : X'.Ok := by
    subst hX
    refine ⟨I2.ok.mod, ck.kind, I2.ok.glob, I2.ok.blt, hCle, fun x y c e1 e2 => I2.ok.inj x y c (hsub _ _ e1) (hsub _ _ e2), fun x hx => ?_, fun x c z _ => (by cases z), I2.ok.hd, I2.ok.frames, .inl rfl, fun b hb => ⟨(below b (fplt b hb)).1, fun x c e => (f2 b hb).2.2.2.2.1 x c (hsub _ _ e)⟩,
      I2.bs, Nat.le_trans I2.ok.bsz I2.sz, fun b o e hb => ?_, hfrs, I2.stack, I2.stkFree⟩
    · -- a name that is a cell or free
      have hx' : (relabel scope X.env).names.lookup x = some .cell ∨ (relabel scope X.env).names.lookup x = some .free := hx
      have key : ∀ (names : List (Str × NameKind)), (∀ y ∈ names, y.2 ≠ .cell) →
          ((names.map fun (n, k) => if (k == NameKind.free && X.env.scope.kind == .function && X.env.kindOf n == some .cell) then (n, NameKind.cell) else (n, k)).lookup x = some .cell ∨
           (names.map fun (n, k) => if (k == NameKind.free && X.env.scope.kind == .function && X.env.kindOf n == some .cell) then (n, NameKind.cell) else (n, k)).lookup x = some .free) → ∃ y ∈ names, y.1 = x ∧ y.2 = .free := by
        intro names
        induction names with
        | nil => intro _ h; rcases h with h | h <;> simp at h
        | cons y r ih =>
          intro hn h
          obtain ⟨n, k⟩ := y
          by_cases hb : x = n
          · subst hb
            refine ⟨(x, k), List.mem_cons_self, rfl, ?_⟩
            by_cases hk : k = .free
            · exact hk
            · exfalso
              have hkb : (k == NameKind.free) = false := by simpa using hk
              have hnc : k ≠ .cell := hn (x, k) List.mem_cons_self
              simp only [List.map_cons, hkb, Bool.false_and, Bool.false_eq_true, if_false, List.lookup_cons, beq_self_eq_true, if_true] at h
              rcases h with h | h
              · exact hnc (Option.some.inj h)
              · exact hk (Option.some.inj h)
          · have hb' : (x == n) = false := by simpa using hb
            have h' : ((r.map fun (n, k) => if (k == NameKind.free && X.env.scope.kind == .function && X.env.kindOf n == some .cell) then (n, NameKind.cell) else (n, k)).lookup x = some .cell ∨
                (r.map fun (n, k) => if (k == NameKind.free && X.env.scope.kind == .function && X.env.kindOf n == some .cell) then (n, NameKind.cell) else (n, k)).lookup x = some .free) := by
              rw [List.map_cons] at h
              dsimp only at h
              by_cases hcnd : (k == NameKind.free && X.env.scope.kind == .function && X.env.kindOf n == some .cell) = true
              · rw [if_pos hcnd] at h
                simpa only [List.lookup_cons, hb'] using h
              · rw [if_neg hcnd] at h
                simpa only [List.lookup_cons, hb'] using h
            obtain ⟨y, hy, e1, e2⟩ := ih (fun y hy => hn y (List.mem_cons_of_mem _ hy)) h'
            exact ⟨y, List.mem_cons_of_mem _ hy, e1, e2⟩
      obtain ⟨y, hy, e1, e2⟩ := key scope.names ck.nocell hx'
      obtain ⟨c, hc'⟩ := hhas y hy e2
      exact ⟨c, e1 ▸ hc'⟩
    · rcases (f2 b hb).2.2.2.1 with z | z
      · exact I2.ok.noex b o e z
      · exact absurd (Nat.lt_of_lt_of_le (Heap.lt_size e) (Nat.le_trans I2.ok.bsz z)) (Nat.lt_irrefl _)
  have stat : ∀ {H' : Hp}, (∀ b ∈ fp, H' b = none) → ∀ b ∈ fp, FpOk X' [] H' b := by
    subst hX
    intro H' hn b hb
    refine ⟨hn b hb, (below b (fplt b hb)).1, hfrs b hb, .inl hb, fun x c e => (f2 b hb).2.2.2.2.1 x c (hsub _ _ e), fun p hp => ?_⟩
    have hp' : p ∈ X.pn ++ pins := by simpa [cxComp] using hp
    exact (f2 b hb).2.2.2.2.2 p hp'
  have I1 : Inv X' [] (cst L src σ) (upd H2 s2.heap.objs.size (.lst [])) { s2 with heap := h₁, toks := s2.toks + ([] : List (Str × Value)).length } := by
    subst hX
    have up : ∀ b o, H2 b = some o → upd H2 s2.heap.objs.size (.lst []) b = some o := fun b o e => by rw [upd_ne (ne_of_none e hDn)]; exact e
    have upn : ∀ b, b < s2.heap.objs.size → H2 b = none → upd H2 s2.heap.objs.size (.lst []) b = none := fun b hb e => by rw [upd_ne (Nat.ne_of_lt hb)]; exact e
    refine ⟨ok', rfl, I2.bare, Un.laid old (Nat.le_refl _) hDn, ⟨_, hns₁, fun i x v e1 e2 e3 => ?_⟩, fun x c e => ?_, ?_, fun x c e => ?_, fun p hp => ?_, I2.hok.laid old (Nat.le_refl _) ⟨Nat.zero_le _, [], 0, .nil, hacc⟩, ?_⟩
    · -- the names of the def around
      have hiL : L ≤ i := by
        by_cases hlt : i < L
        · exfalso
          unfold cst at e2
          rw [List.getElem?_append_left (by simpa using hlt), List.getElem?_replicate, if_pos hlt] at e2
          cases e2
        · trivial
      have e2' : (src.map fun j => (σ[j]?).join)[i - L]? = some (some v) := by
        unfold cst at e2
        rw [List.getElem?_append_right (by simpa using hiL), List.length_replicate] at e2
        exact e2
      rw [List.getElem?_map] at e2'
      cases hj : src[i - L]? with
      | none => rw [hj] at e2'; cases e2'
      | some j =>
        rw [hj] at e2'
        have e3' : (σ[j]?).join = some v := Option.some.inj e2'
        have hσ : σ[j]? = some (some v) := by
          cases q : σ[j]? with
          | none => rw [q] at e3'; cases e3'
          | some o => rw [q] at e3'; exact congrArg some e3'
        obtain ⟨x', g1, g2, g3⟩ := ck.frees (i - L) j hj
        have : L + (i - L) = i := by trivial
        rw [this] at g1
        have ex : x' = x := Option.some.inj (g1.symm.trans e1)
        subst ex
        have hfree := ck.free _ (PySem.mem_of_lookup g3) rfl
        obtain ⟨m, hn, hl⟩ := I2.loc
        obtain ⟨u, r, l⟩ := hl j x' v g2 hσ (hfree.elim (fun z => .inr (.inl z)) fun z => .inr (.inr z))
        refine ⟨u, r, .inr ⟨?_, ?_⟩⟩
        · -- its kind in the block
          have key : ∀ (names : List (Str × NameKind)), names.lookup x' = some .free →
              ((names.map fun (n, k) => if (k == NameKind.free && X.env.scope.kind == .function && X.env.kindOf n == some .cell) then (n, NameKind.cell) else (n, k)).lookup x' = some .cell ∨
               (names.map fun (n, k) => if (k == NameKind.free && X.env.scope.kind == .function && X.env.kindOf n == some .cell) then (n, NameKind.cell) else (n, k)).lookup x' = some .free) := by
            intro names
            induction names with
            | nil => intro h; simp at h
            | cons y r ih =>
              intro h
              obtain ⟨n, k⟩ := y
              by_cases hb : x' = n
              · subst hb
                simp only [List.lookup_cons, beq_self_eq_true, if_true] at h
                have hk : k = .free := Option.some.inj h
                subst hk
                rw [List.map_cons]
                dsimp only
                by_cases hcnd : (NameKind.free == NameKind.free && X.env.scope.kind == .function && X.env.kindOf x' == some .cell) = true
                · rw [if_pos hcnd]; left; simp [List.lookup_cons]
                · rw [if_neg hcnd]; right; simp [List.lookup_cons]
              · have hb' : (x' == n) = false := by simpa using hb
                have h' := ih (by simpa only [List.lookup_cons, hb'] using h)
                rw [List.map_cons]
                dsimp only
                by_cases hcnd : (k == NameKind.free && X.env.scope.kind == .function && X.env.kindOf n == some .cell) = true
                · rw [if_pos hcnd]; simpa only [List.lookup_cons, hb'] using h'
                · rw [if_neg hcnd]; simpa only [List.lookup_cons, hb'] using h'
          exact key scope.names g3
        · obtain ⟨c, hcl⟩ := hhas _ (PySem.mem_of_lookup g3) rfl
          have hcx := hsub _ _ hcl
          rcases l with ⟨k1, _⟩ | ⟨_, c', e4, z⟩
          · exfalso
            have k1' : X.env.scope.names.lookup x' = some .local := k1
            rcases hfree with z | z
            · rw [z] at k1'; cases k1'
            · rw [z] at k1'; cases k1'
          · rw [hcx] at e4
            cases e4
            obtain ⟨o, ho, hd⟩ := z
            exact ⟨c, hcl, o, old _ _ ho, hd⟩
    · obtain ⟨v, o, ho, hd⟩ := I2.cell x c (hsub _ _ e)
      exact ⟨v, o, old _ _ ho, hd⟩
    · show upd H2 s2.heap.objs.size (.lst []) hp2.objs.size = none
      rw [upd_ne (Ne.symm hDC)]
      exact I2.hok.fresh hCle
    · obtain ⟨v, o, ho, hd⟩ := I2.cell x c (hsub _ _ e)
      exact upn c (Heap.lt_size ho) (I2.freeC x c (hsub _ _ e))
    · have hp' : p ∈ X.pn ++ pins := by simpa [cxComp] using hp
      obtain ⟨e, n, ne, nf, d⟩ := I2.pin p hp'
      have hlt := Heap.lt_size e
      refine ⟨old _ _ e, upn _ hlt n, (below _ hlt).1, fun z => ?_, d⟩
      rcases List.mem_cons.mp (I2.stkSub _ z) with z' | z'
      · exact ne z'
      · exact nf z'
    · show (cst L src σ).length = N'.length
      unfold cst
      rw [List.length_append, List.length_replicate, List.length_map, ck.len]
  have eA : X'.A = X.A := by subst hX; rfl
  have eP : X'.prog = X.prog := by subst hX; rfl
  have eW : X'.w = X.w := by subst hX; rfl
  have eK : X'.K = X.K := by subst hX; rfl
  have ec : X'.calm = true := by subst hX; exact hc
  have exe : X'.xe = fun _ _ => False := by subst hX; rfl
  have eE : X'.env = compEnvC scope cl hp2.objs.size X.env := by subst hX; rfl
  have hg' : PG X' tg g := by subst hX; exact hg _ _ _ _ _ _
  have hif' : PIfs X' ifs tt := by subst hX; exact hif _ _ _ _ _ _
  have he' : PE X' elt te := by subst hX; exact he _ _ _ _ _ _
  have aft : ∀ {H' : Hp} {s' : Shared}, Inv X' [] (cst L src σ) H' s' → Inv X pins σ H' s' ∧ (∃ m, s'.heap.Ns hp2.objs.size m) ∧ FpOk X pins H' hp2.objs.size := by
    subst hX
    intro H' s' J
    refine ⟨I2.call' (ch := fp) J.os J.base J.hok J.bare fun b hb => ⟨(f2 b hb).2.2.2.1, (f2 b hb).2.1, (f2 b hb).2.2.2.2.1, (f2 b hb).2.2.2.2.2⟩, ?_, I2.fpOk hCle J.free⟩
    obtain ⟨m, hn, _⟩ := J.loc
    exact ⟨m, hn⟩
  have st1 : tn 0 h₁ := T.keep _ _ _ st2 fun b hb o e => old b o e
  have loop : ∀ s₃ : Shared, s₃ = { s2 with heap := h₁, toks := s2.toks + ([] : List (Str × Value)).length } →
      codeAny (model X.prog X.w) X.A (.compLoop (.ListComp elt [⟨tg, iter, ifs, 0⟩] scope pos) 0 (.ref it) (.ref s2.heap.objs.size) (compEnvC scope cl hp2.objs.size X.env))
        (RR (.ref s2.heap.objs.size) hp2.objs.size) s₃ := by
    rintro s₃ rfl
    refine compLoop_all (fun n s' => Ex3 fun i H' ys => Inv X' [] (cst L src σ) H' s' ∧ tn i s'.heap ∧ (∀ b ∈ fp, H' b = none) ∧ W i n H' ys) ?_ m0
      ⟨0, _, [], I1, st1, fun b hb => (by rw [upd_ne (below b (fplt b hb)).2]; exact (f2 b hb).1), w0⟩
    rintro n s3 ⟨i, H3, ys, I3, st3, fr3, w3⟩
    obtain ⟨hD, alt⟩ := turn i n H3 ys w3
    rcases alt with ⟨stop, qn⟩ | ⟨go, hlen, N, hN, step⟩
    · have d := T.done X' eP eW eK ec i [] s3 (cst L src σ) H3 (fun _ _ => False) I3 (stat fr3) st3 stop
      rw [eA] at d
      refine thn d fun r s4 ⟨hr, I4⟩ => ?_
      subst hr
      obtain ⟨J, ⟨m, hn⟩, fpC⟩ := aft I4
      exact hRR _ _ H3 .next s4 m J hn fpC qn
    · have d := T.item X' eP eW eK ec i [] s3 (cst L src σ) H3 (fun _ _ => False) I3 (stat fr3) st3 go
      rw [eA] at d
      refine thn d fun r s4 ⟨u, hr, h4⟩ => ?_
      subst hr
      refine thn h4 fun _ s5 ⟨x, H5, I5, r5, y5, st5, fr5⟩ => ?_
      have I5' := I5.pinned (stat fr5) (T.obj _ _ st5)
      have a1 := hg' _ s5 (cst L src σ) H5 x u _ I5' r5 (step x H5 y5)
      rw [eP, eW, eA, eE, exe] at a1
      refine thn a1 fun _ s6 ⟨σ6, H6, I6, bk, q6⟩ => ?_
      have a2 := hif' _ s6 σ6 H6 _ I6 q6
      rw [eP, eW, eA, eE, exe] at a2
      refine thn a2 fun b s7 ⟨H7, I7, q7⟩ => ?_
      have again : ∀ {H8 : Hp} {s8 : Shared} {ys' : List V}, Inv X' ([] ++ pinsAt fp s5.heap) σ6 H8 s8 → N H8 ys' → ∃ m, m < n ∧ Ex3 fun i H' ys => Inv X' [] (cst L src σ) H' s8 ∧ tn i s8.heap ∧ (∀ b ∈ fp, H' b = none) ∧ W i m H' ys := fun {H8 s8 ys'} I8 n8 => by
        obtain ⟨m', hm, w8⟩ := hN H8 ys' n8
        refine ⟨m', hm, i + 1, H8, ys', (I8.unpinned).weak bk.1.symm bk.2, T.keep _ _ _ st5 fun b hb o e => (I8.pin (b, o) (List.mem_append_right _ (List.mem_append_right _ (mem_pinsAt hb e)))).1, fun b hb => ?_, w8⟩
        obtain ⟨o, e, d⟩ := T.obj _ _ st5 b hb
        exact (I8.pin (b, o) (List.mem_append_right _ (List.mem_append_right _ (mem_pinsAt hb e)))).2.1
      cases b with
      | false =>
        rw [if_neg Bool.false_ne_true] at q7 ⊢
        exact again I7 q7
      | true =>
        rw [if_pos rfl] at q7 ⊢
        have a3 := he' _ s7 σ6 H7 _ I7 q7
        rw [eP, eW, eA, eE, exe] at a3
        refine thn a3 fun xv s8 ⟨y, H8, I8, r8, hD8, q8⟩ => ?_
        have a4 := mt_append (X := X') _ s8 σ6 H8 (.ref s2.heap.objs.size) [y] (.ref s2.heap.objs.size) [xv] (fun _ H' => H' = upd H8 s2.heap.objs.size (.lst (ys ++ [y]))) I8 rfl (.cons r8 .nil) ⟨_, ys, y, rfl, rfl, hD8, hlen, rfl⟩
        rw [eP, eW, eA, exe] at a4
        refine thn a4 fun _ s9 ⟨_, H9, I9, _, e9⟩ => ?_
        subst e9
        exact again I9 q8
  exact codeAny_compStart_list (loop _ rfl) (T.self _ 0 _ _ _ st1 (loop _ rfl))
theorem pe_comp (hc : X.calm = true) (ck : compChk X.env.scope X.N scope N' L src = true) (hi : PI X tg iter wi) (hg : ∀ cl C s H ex pn, PG (cxComp X scope cl C N' s H ex pn) tg g) (hif : ∀ cl C s H ex pn, PIfs (cxComp X scope cl C N' s H ex pn) ifs tt)
    (he : ∀ cl C s H ex pn, PE (cxComp X scope cl C N' s H ex pn) elt te) (hs : ∀ x, foldedSetIterable iter X.env x = pure x := by intro _; rfl) :
    PE X (.ListComp elt [⟨tg, iter, ifs, 0⟩] scope pos) (tComp wi L src g tt te) := by
  intro pins s σ H Q I h
  have ck := compOk_of ck
  obtain ⟨cl, hclos, hsub, hhas⟩ := clos_ok (scope := scope) (env := X.env) fun y hy e => I.ok.has y.1 (ck.free y hy e)
  rw [eval_ListComp]
  refine wpAny_comprehension_free (use := none) rfl hs hclos ck.kind ck.loc (comp_run hc ck I hsub hhas hi hg hif he h (RR := fun acc C => compPost (model X.prog X.w) X.A X.xe none (EP X pins σ Q) acc C) ?_)
  intro D C H' f s' m J hn fpC q
  refine ⟨m, hn, fun h' hsb => ⟨.ref D, H', ?_, rfl, q⟩⟩
  obtain ⟨f0, f1, f2, f3, f4, f5⟩ := fpC
  exact J.turned (t' := s'.toks) (fun b o hb e => (hsb.2 b hb).trans e) f0 f1 f3 f4 f5
theorem ps_setComp {j : Nat} {y : Str} {py spos : Pos} (hN : X.N.Nodup) (hj : X.N[j]? = some y) (hy : X.env.scope.names.lookup y = some .local) (hsw : swapsWith (.ListComp elt [⟨tg, iter, ifs, 0⟩] scope pos) (some (.Name y py)) spos.line X.env = pure true)
    (hc : X.calm = true) (ck : compChk X.env.scope X.N scope N' L src = true) (hi : PI X tg iter wi) (hg : ∀ cl C s H ex pn, PG (cxComp X scope cl C N' s H ex pn) tg g) (hif : ∀ cl C s H ex pn, PIfs (cxComp X scope cl C N' s H ex pn) ifs tt)
    (he : ∀ cl C s H ex pn, PE (cxComp X scope cl C N' s H ex pn) elt te) (hs : ∀ x, foldedSetIterable iter X.env x = pure x := by intro _; rfl) :
    PS X (.Assign [.Name y py] (.ListComp elt [⟨tg, iter, ifs, 0⟩] scope pos) spos) (tAsg (tComp wi L src g tt te) (gName j)) := by
  intro pins s σ H D I h
  have ck := compOk_of ck
  obtain ⟨cl, hclos, hsub, hhas⟩ := clos_ok (scope := scope) (env := X.env) fun y hy e => I.ok.has y.1 (ck.free y hy e)
  rw [exec_Assign_Name_used _ _ _ _ hsw]
  refine wpAny_bind (wpAny_standAt (wpAny_bind ?_))
  show wpAny _ X.A (do let _ ← comprehension (.ListComp elt [⟨tg, iter, ifs, 0⟩] scope pos) scope X.env _ (newList []) false (eval iter X.env) (some (assign (.Name y py) X.env))) _ _ s
  refine wpAny_bind (wpAny_mono (wpAny_comprehension_free (use := some (assign (.Name y py) X.env)) (Q := fun _ s' => SP X pins D .next s') rfl hs hclos ck.kind ck.loc
    (comp_run hc ck I hsub hhas hi hg hif he h (RR := fun acc C => compPost (model X.prog X.w) X.A X.xe (some (assign (.Name y py) X.env)) (fun _ s' => SP X pins D .next s') acc C) ?_)) (fun _ s' hq => wpAny_pure (wpAny_pure hq)) fun _ _ e => e)
  intro L' C H' f s' m J hn fpC q
  show wpAny _ X.A (assign (.Name y py) X.env (.ref L')) _ _ _
  refine wpAny_assign_Name (store_ok2 J hN hj (.inl hy) (v := .ref L') rfl (fun s2 J2 hsb => ?_) (.inr hy))
  obtain ⟨f0, f1, f2, f3, f4, f5⟩ := fpC
  obtain ⟨a, hsb, ha⟩ := hsb
  have hCa : C ≠ a := by
    rcases ha with rfl | ha
    · exact f1
    · exact fun z => f4 _ _ ha z.symm
  refine ⟨m, hn.sameBut hsb hCa, fun h' hsb' => ⟨_, H', ?_, q⟩⟩
  exact J2.turned (t' := s2.toks) (fun b o hb e => (hsb'.2 b hb).trans e) f0 f1 f3 f4 f5
end
theorem comp_over {J : It} {n : Nat} {H1 : Hp} {D : Addr} {σc : St} {g : TG} {tt : TT} {te : TE} {Q : VK} (Pv : Nat → Hp → List V → Prop) (hz : n ≤ sizeLine) (h0 : Pv 0 (upd H1 D (.lst [])) [])
    (hD : ∀ i H ys, Pv i H ys → H D = some (.lst ys) ∧ ys.length ≤ i)
    (hgo : ∀ i H ys, i < n → Pv i H ys → J.go i H) (hst : ∀ H ys, Pv n H ys → J.stop n H)
    (hs : ∀ i H ys x H', i < n → Pv i H ys → J.yld i H x H' → g x σc H' fun σ2 H2 => Back σc σ2 ∧ tt σ2 H2 fun b H3 => if b = true then te σ2 H3 fun y H4 => H4 D = some (.lst ys) ∧ Pv (i + 1) (upd H4 D (.lst (ys ++ [y]))) (ys ++ [y]) else Pv (i + 1) H3 ys)
    (hd : ∀ H ys, Pv n H ys → Q (.ref D) H) : CompW J σc g tt te D H1 Q := by
  refine ⟨fun i m H ys => m = n - i ∧ i ≤ n ∧ Pv i H ys, ⟨n, by simp, Nat.zero_le _, h0⟩, ?_⟩
  rintro i m H ys ⟨rfl, hi, p⟩
  obtain ⟨q1, q2⟩ := hD i H ys p
  refine ⟨q1, ?_⟩
  by_cases hlt : i < n
  · exact .inr ⟨hgo i H ys hlt p, by trivial, Pv (i + 1), fun H' ys' p' => ⟨n - (i + 1), by trivial, rfl, hlt, p'⟩, fun x H' y => hs i H ys x H' hlt p y⟩
  · have e : i = n := by trivial
    subst e
    exact .inl ⟨hst H ys p, hd H ys p⟩
theorem comp_each {J : It} {n : Nat} {H1 : Hp} {D : Addr} {σc : St} {g : TG} {te : TE} {Q : VK} (Pv : Nat → Hp → List V → Prop) (hz : n ≤ sizeLine) (h0 : Pv 0 (upd H1 D (.lst [])) [])
    (hD : ∀ i H ys, Pv i H ys → H D = some (.lst ys) ∧ ys.length ≤ i)
    (hgo : ∀ i H ys, i < n → Pv i H ys → J.go i H) (hst : ∀ H ys, Pv n H ys → J.stop n H)
    (hs : ∀ i H ys x H', i < n → Pv i H ys → J.yld i H x H' → g x σc H' fun σ2 H2 => Back σc σ2 ∧ te σ2 H2 fun y H4 => H4 D = some (.lst ys) ∧ Pv (i + 1) (upd H4 D (.lst (ys ++ [y]))) (ys ++ [y]))
    (hd : ∀ H ys, Pv n H ys → Q (.ref D) H) : CompW J σc g tT te D H1 Q := by
  refine comp_over Pv hz h0 hD hgo hst (fun i H ys x H' hi p y => ?_) hd
  have e := hs i H ys x H' hi p y
  have q : (fun (σ2 : St) (H2 : Hp) => Back σc σ2 ∧ tT σ2 H2 fun b H3 => if b = true then te σ2 H3 fun y H4 => H4 D = some (.lst ys) ∧ Pv (i + 1) (upd H4 D (.lst (ys ++ [y]))) (ys ++ [y]) else Pv (i + 1) H3 ys) =
      (fun σ2 H2 => Back σc σ2 ∧ te σ2 H2 fun y H4 => H4 D = some (.lst ys) ∧ Pv (i + 1) (upd H4 D (.lst (ys ++ [y]))) (ys ++ [y])) := by
    funext σ2 H2
    unfold tT
    dsimp only
    rw [if_pos rfl]
  rw [q]
  exact e
end L2
namespace L2
open PySem PySem.Spec PyProof.Rows
section
variable {X : Cx} {pins : List (Addr × Obj)} {σ : St} {H : Hp} {s : Shared} {h' : Heap}
theorem Inv.turnedNew {t' : Nat} {ch : List Addr} {T : Addr} {o : HO} (I : Inv X pins σ H s) (hf : ∀ b ∈ ch, FpOk X pins H b) (k : ∀ b u, b ∉ ch → s.heap.get? b = some u → h'.get? b = some u)
    (hT : s.heap.objs.size ≤ T) (new : ObjOk X.prog X.w (upd H T o) h' T o) : Inv X pins σ (upd H T o) { s with heap := h', toks := t' } := by
  have hn : H T = none := I.hok.fresh hT
  refine I.step (g' := s.gens) (d' := s.drawn) (ch := ch) (fun b hb => ?_) (fun b o _ _ hc e _ => k b o hc e) (fun b o _ _ hc e _ => ⟨o.slots, k b o hc e⟩) (fun b o hc e n => ?_)
    (fun b o hc e => ⟨o, k b o hc e⟩) (fun b xs e => ?_) (fun b o u e => ?_) (fun b ps e => ?_) (fun m hm => ?_) (fun b u e => ?_) I.bare
  · obtain ⟨f0, f1, f2, f3, f4, f5⟩ := hf b hb
    exact ⟨f3, f1, f4, f5⟩
  · rw [upd_ne (Nat.ne_of_lt (Nat.lt_of_lt_of_le (Heap.lt_size e) hT))]; exact n
  · rw [upd_ne (ne_of_none e hn)]; exact e
  · rw [upd_ne (ne_of_none e hn)]; exact e
  · exact ⟨#[], by rw [upd_ne (ne_of_none e hn), e]; simp⟩
  · obtain ⟨o, es, ep, ho, r⟩ := hm
    exact ⟨o, es, ep, k _ o (fun z => (hf _ z).2.1 rfl) ho, r⟩
  · by_cases hb : b = T
    · subst hb; rw [upd_same] at e; cases e; exact new
    · rw [upd_ne hb] at e
      refine (I.hok b u e).stay (fun c v hc q => k c v (fun z => ?_) q) (fun c q => by rw [upd_ne (ne_of_none q hn)]; exact q) fun c xs q => by rw [upd_ne (ne_of_none q hn)]; exact q
      have hcn := (hf c z).1
      rcases hc with rfl | hc
      · rw [e] at hcn; cases hcn
      · rw [hc] at hcn; cases hcn
end
section
variable {X : Cx}
theorem bools_get {bs : List Bool} {us : List Value} (r : Vals (bs.map V.bl) us) {i : Nat} {v : Value} (e : us[i]? = some v) : ∃ b, bs[i]? = some b ∧ v = .bool b := by
  have hl := r.length
  rw [List.length_map] at hl
  have hi : i < us.length := (List.getElem?_eq_some_iff.mp e).1
  have hb : bs[i]? = some bs[i] := by simp [hl, hi]
  obtain ⟨u, h1, h2⟩ := r.get (i := i) (x := .bl bs[i]) (by rw [List.getElem?_map, hb]; rfl)
  rw [e] at h1
  cases h1
  exact ⟨_, hb, h2⟩
theorem kept_it {s : Shared} {h' : Heap} {o : Obj} (hk : ∀ b x, b ∉ [s.heap.objs.size] → (s.heap.push o).get? b = some x → h'.get? b = some x) : ∀ b x, s.heap.get? b = some x → h'.get? b = some x :=
  fun b x e => hk b x (fun hm => by rw [List.mem_singleton.mp hm] at e; exact Nat.lt_irrefl _ (Heap.lt_size e)) (Heap.get?_push_of_some _ e)
theorem call_all (hc : X.calm = true) : CallR X (.builtin "all") (fun xs H Q => Ex2 fun (l : Addr) (bs : List Bool) => xs = [.ref l] ∧ SqL X.K H l (bs.map V.bl) ∧ Q (.bl (bs.all id)) H) := by
  intro pins s σ H xs us Q I r h
  obtain ⟨l, bs, rfl, hq, q⟩ := h
  obtain ⟨u, rfl, ru⟩ := r.one
  obtain rfl : u = .ref l := ru
  obtain ⟨its, rv, p, hz⟩ := I.list hq
  have hl := p.isList
  have hlt : l < s.heap.objs.size := by obtain ⟨_, e, _⟩ := hl; exact Heap.lt_size e
  refine call_all_walk (wpAny_pyIter_list hl ?_)
  refine ⟨s.heap.objs.size, [s.heap.objs.size, l], [s.heap.objs.size], its.toArray.size, _, _, fun i => (bs[i]?).getD true, rfl, Walks.list (A := X.A.in1) (I.ok.hd hc) _ l (Nat.ne_of_lt hlt) its.toArray,
    ⟨⟨_, Heap.get?_push_size _ rfl, rfl, rfl⟩, hl.push _⟩, fun i v s' Q' E' hP hQ => ?_, fun h' tk hk => ?_⟩
  · obtain ⟨b, e, rfl⟩ := bools_get rv (i := i) (v := v) (by simpa using hP)
    simp only [e, Option.getD_some] at hQ
    exact wpAny_truthy_bool hQ
  · have e : ((List.range its.toArray.size).all fun i => (bs[i]?).getD true) = bs.all id := by
      rw [List.size_toArray, ← rv.length, List.length_map]; exact LSm.range_all bs
    rw [e]
    exact ⟨.bl _, H, I.kept (kept_it hk), rfl, q⟩
end
def Ite (K : PySem.W.Frag) (a : Addr) : It :=
  ⟨fun i H => Ex2 fun xs x => SqL K H a xs ∧ xs[i]? = some x, fun i H v H' => Ex2 fun T x => H T = none ∧ v = .ref T ∧ H' = upd H T (.tup [.int (i : Int), x]) ∧ ∀ xs, SqL K H a xs → xs[i]? = some x, fun i H => ∃ xs, SqL K H a xs ∧ xs.length ≤ i⟩
theorem turn_enum {P : Program} {w : World} {K : PySem.W.Frag} {es : List Expr} {kk : Nat} {pos : Pos} (a e it : Addr) (hne : e ≠ it) :
    Turn P w K (.Tuple es kk pos) (Ite K a) [e, it] e (fun i h => (∃ old, IsEnum h e it i old) ∧ h.IsListIter it a i) where
  mem := by simp
  obj := fun i h st b hb => by
    obtain ⟨⟨old, he⟩, o, e1, c, d⟩ := st
    have hb' : b = e ∨ b = it := by simpa using hb
    rcases hb' with rfl | rfl
    · exact ⟨_, he, fun v z => by
        have z' : Data.fields _ = Data.cell v := z
        cases z'⟩
    · exact ⟨o, e1, fun v z => by rw [d] at z; cases z⟩
  keep := fun i h h' st k => by
    obtain ⟨⟨old, he⟩, hi⟩ := st
    exact ⟨⟨old, k e (by simp) _ he⟩, hi.at fun o q => k it (by simp) o q⟩
  item := by
    intro X hP hw hK hc i pins s σ H E I hf st hg
    subst hP hw hK
    obtain ⟨⟨old, he⟩, hit⟩ := st
    obtain ⟨xs, x, hq, hx⟩ := hg
    obtain ⟨its, rv, p, hz⟩ := I.list hq
    obtain ⟨u, hu, ru⟩ := rv.get hx
    have hnT : H s.heap.objs.size = none := I.fresh
    refine wpAny_pyNext_enum_item he hit p.isList (x := u) (by simpa using hu) hne fun h' ho hit' hT hsz hk => ?_
    refine ⟨_, rfl, wpAny_letOwnedTupleGo_enum (s := { s with heap := h', toks := s.toks + 1 }) ho fun h'' he'' hs'' => ?_⟩
    have helt : e < s.heap.objs.size := Heap.lt_size he
    have hilt : it < s.heap.objs.size := by obtain ⟨_, y, _⟩ := hit; exact Heap.lt_size y
    have hT'' : h''.get? s.heap.objs.size = some { cls := .type "tuple", data := .seq #[.int i s.toks, u] } := (hs''.2 _ (Nat.ne_of_gt helt)).trans hT
    refine ⟨.ref s.heap.objs.size, upd H s.heap.objs.size (.tup [.int (i : Int), x]), I.turnedNew (ch := [e, it]) (t' := s.toks + 1) hf (fun b o hb q => ?_) (Nat.le_refl _) ?_, rfl, ⟨_, x, hnT, rfl, rfl, fun ys hy => by rw [I.list_inj hy hq]; exact hx⟩, ⟨⟨u, ?_⟩, hit'.extBut hs''.extBut (Ne.symm hne)⟩, fun b hb => ?_⟩
    · have h1 : b ≠ e := fun z => hb (by simp [z])
      have h2 : b ≠ it := fun z => hb (by simp [z])
      exact (hs''.2 b h1).trans (hk b o h1 h2 q)
    · exact ⟨by show 2 ≤ sizeLine; decide, [.int i s.toks, u], .cons ⟨_, rfl⟩ (.cons ru .nil), ⟨_, hT'', rfl, _, rfl⟩, _, hT'', rfl⟩
    · simpa using he''
    · have hb' : b = e ∨ b = it := by simpa using hb
      have hlt : b < s.heap.objs.size := by rcases hb' with rfl | rfl <;> assumption
      rw [upd_ne (Nat.ne_of_lt hlt)]
      exact (hf b hb).1
  done := by
    intro X hP hw hK hc i pins s σ H E I hf st hg
    subst hP hw hK
    obtain ⟨⟨old, he⟩, hit⟩ := st
    obtain ⟨xs, hq, hx⟩ := hg
    obtain ⟨its, rv, p, hz⟩ := I.list hq
    obtain ⟨f0, f1, f2, f3, f4, f5⟩ := hf it (by simp)
    have hl := rv.length
    exact wpAny_pyNext_enum_end (I.ok.hd hc) he hit p.isList (by simp; trivial) fun h' eb => ⟨rfl, I.turned (t' := s.toks) (fun b o hb e => eb b o hb e) f0 f1 f3 f4 f5⟩
  self := fun _ _ _ _ _ st h => by
    obtain ⟨⟨old, he⟩, _⟩ := st
    exact wpAny_pyIter_enum he h
def iEnum (K : PySem.W.Frag) (ta : TA) : TI := fun σ H R => ta σ H fun vs H1 => ∃ a, vs = [.ref a] ∧ (∃ xs, SqL K H1 a xs) ∧ R (Ite K a) H1
theorem pi_enum {X : Cx} {es : List Expr} {kk : Nat} {tp : Pos} {a : Expr} {ta : TA} {p pos : Pos} (hg : Gl X "enumerate") (hm : X.mg "enumerate" = none) (ha : PA X [a] ta) (hs : starEach [a] X.env = [(false, eval a X.env)] := by rfl) :
    PI X (.Tuple es kk tp) (.Call (.Name "enumerate" p) [a] [] pos) (iEnum X.K ta) := by
  intro pins s σ H R I h
  refine Call_ (ld_blt I hg hm boot_enumerate (PyProof.Rows.callWith_type1 (thn (ha pos pins s σ H _ I h) fun us s1 ⟨vs, H1, I1, r1, q1⟩ => ?_) hs rfl))
  obtain ⟨a, rfl, ⟨xs, hq⟩, q⟩ := q1
  obtain ⟨u, rfl, ru⟩ := r1.one
  obtain rfl : u = .ref a := ru
  obtain ⟨its, rv, p, hz⟩ := I1.list hq
  refine call_enumerate_list p.isList fun h' hE hI hsz hk => wpAny_pyIter_enum hE ?_
  have I2 : Inv X pins σ H1 { s1 with heap := h', toks := s1.toks } := I1.kept hk
  refine ⟨s1.heap.objs.size + 1, [s1.heap.objs.size + 1, s1.heap.objs.size], _, _, H1, rfl, I2, turn_enum a (s1.heap.objs.size + 1) s1.heap.objs.size (Nat.succ_ne_self _), ⟨⟨_, hE⟩, hI⟩, fun b hb => ?_, q⟩
  have hb' : b = s1.heap.objs.size + 1 ∨ b = s1.heap.objs.size := by simpa using hb
  have hle : s1.heap.objs.size ≤ b := by rcases hb' with rfl | rfl <;> trivial
  exact I1.fpOk hle (I1.hok.fresh hle)
end L2
namespace L2
open PySem PySem.Spec PyProof.Rows
theorem boot_b_len : bootBuiltins "len" = some (.builtin "len") := by decide +kernel
theorem boot_b_abs : bootBuiltins "abs" = some (.builtin "abs") := by decide +kernel
theorem boot_b_min : bootBuiltins "min" = some (.builtin "min") := by decide +kernel
theorem boot_b_max : bootBuiltins "max" = some (.builtin "max") := by decide +kernel
theorem boot_b_all : bootBuiltins "all" = some (.builtin "all") := by decide +kernel
theorem boot_b_divmod : bootBuiltins "divmod" = some (.builtin "divmod") := by decide +kernel
theorem boot_b_isinstance : bootBuiltins "isinstance" = some (.builtin "isinstance") := by decide +kernel
theorem boot_ty_int : bootBuiltins "int" = some (.type "int") := by decide +kernel
theorem boot_ty_bool : bootBuiltins "bool" = some (.type "bool") := by decide +kernel
theorem boot_ty_str : bootBuiltins "str" = some (.type "str") := by decide +kernel
theorem boot_ty_list : bootBuiltins "list" = some (.type "list") := by decide +kernel
theorem boot_ty_tuple : bootBuiltins "tuple" = some (.type "tuple") := by decide +kernel
theorem pe_ty {X : Cx} {x : Str} {T : String} {pos : Pos} (hg : Gl X x) (hm : X.mg x = none) (hv : bootBuiltins x = some (.type T)) (hn : x ≠ "__name__" := by decide) (hd : (x == ("__debug__" : Str)) = false := by decide) : PE X (.Name x pos) (tC (.ty T)) :=
  pe_bltn (v := .ty T) hg hm hv rfl hn hd
mutual
inductive IsD (E : Addr → Prop) (H : Hp) : V → PyData → Prop
  | non : IsD E H .non .none
  | bl (b : Bool) : IsD E H (.bl b) (.bool b)
  | int (i : Int) : IsD E H (.int i) (.int i)
  | str (x : Str) : IsD E H (.str x) (.str x)
  | lst {a : Addr} {xs : List V} {ds : List PyData} (h : H a = some (.lst xs)) (ne : ¬ E a) (r : IsAll E H xs ds) : IsD E H (.ref a) (.list ds)
  | tup {a : Addr} {xs : List V} {ds : List PyData} (h : H a = some (.tup xs)) (r : IsAll E H xs ds) : IsD E H (.ref a) (.tuple ds)
inductive IsAll (E : Addr → Prop) (H : Hp) : List V → List PyData → Prop
  | nil : IsAll E H [] []
  | cons {x : V} {xs : List V} {d : PyData} {ds : List PyData} (h : IsD E H x d) (r : IsAll E H xs ds) : IsAll E H (x :: xs) (d :: ds)
end
structure SameE (E : Addr → Prop) (H H' : Hp) : Prop where
  old : ∀ a o, ¬ E a → H a = some o → H' a = some o
  tup : ∀ a xs, H a = some (.tup xs) → H' a = some (.tup xs)
mutual
theorem IsD.mono {E : Addr → Prop} {H H' : Hp} (k : SameE E H H') : ∀ {v : V} {d : PyData}, IsD E H v d → IsD E H' v d
  | _, _, .non => .non
  | _, _, .bl b => .bl b
  | _, _, .int i => .int i
  | _, _, .str x => .str x
  | _, _, .lst h ne r => .lst (k.old _ _ ne h) ne (IsAll.mono k r)
  | _, _, .tup h r => .tup (k.tup _ _ h) (IsAll.mono k r)
theorem IsAll.mono {E : Addr → Prop} {H H' : Hp} (k : SameE E H H') : ∀ {vs : List V} {ds : List PyData}, IsAll E H vs ds → IsAll E H' vs ds
  | _, _, .nil => .nil
  | _, _, .cons h r => .cons (IsD.mono k h) (IsAll.mono k r)
end
theorem SameE.refl {E : Addr → Prop} (H : Hp) : SameE E H H := ⟨fun _ _ _ h => h, fun _ _ h => h⟩
theorem SameE.trans {E : Addr → Prop} {H H1 H2 : Hp} (a : SameE E H H1) (b : SameE E H1 H2) : SameE E H H2 := ⟨fun c o n h => b.old c o n (a.old c o n h), fun c xs h => b.tup c xs (a.tup c xs h)⟩
theorem Same.toE {E : Addr → Prop} {H H' : Hp} (a : Same H H') : SameE E H H' := ⟨fun c o _ h => a c o h, fun c xs h => a c _ h⟩
theorem Same.new {H : Hp} {p : Addr} {o : HO} (h : H p = none) : Same H (upd H p o) := fun b u e => by rw [upd_ne (ne_of_none e h)]; exact e
theorem IsAll.length {E : Addr → Prop} {H : Hp} : ∀ {vs : List V} {ds : List PyData}, IsAll E H vs ds → vs.length = ds.length
  | _, _, .nil => rfl
  | _, _, .cons _ r => by simp [IsAll.length r]
theorem IsAll.get {E : Addr → Prop} {H : Hp} : ∀ {vs : List V} {ds : List PyData} {i : Nat} {v : V}, IsAll E H vs ds → vs[i]? = some v → ∃ d, ds[i]? = some d ∧ IsD E H v d
  | _, _, _, _, .nil, e => by simp at e
  | _, _, 0, _, .cons h _, e => by simp at e; subst e; exact ⟨_, rfl, h⟩
  | _, _, i + 1, v, .cons _ r, e => by
    obtain ⟨d, h1, h2⟩ := IsAll.get (i := i) (v := v) r (by simpa using e)
    exact ⟨d, by simpa using h1, h2⟩
theorem IsAll.append {E : Addr → Prop} {H : Hp} : ∀ {vs ws : List V} {ds es : List PyData}, IsAll E H vs ds → IsAll E H ws es → IsAll E H (vs ++ ws) (ds ++ es)
  | _, _, _, _, .nil, s => s
  | _, _, _, _, .cons h r, s => .cons h (IsAll.append r s)
mutual
theorem IsD.reads {E : Addr → Prop} {P : Program} {w : World} {H : Hp} {h : Heap} (ok : HOk P w H h) : ∀ {v : V} {d : PyData}, IsD E H v d → ∀ {u : Value}, RelV v u → ∃ as, Reads h u d as
  | _, _, .non, u, r => by obtain rfl : u = .none := r; exact ⟨_, .none⟩
  | _, _, .bl b, u, r => by obtain rfl : u = .bool b := r; exact ⟨_, .bool b⟩
  | _, _, .int i, u, r => by obtain ⟨t, rfl⟩ := r; exact ⟨_, .int i t⟩
  | _, _, .str x, u, r => by obtain ⟨t, rfl⟩ := r; exact ⟨_, .str x t⟩
  | _, _, .lst (a := a) (xs := xs) e _ q, u, r => by
    obtain rfl : u = .ref a := r
    obtain ⟨_, its, n, rv, e1⟩ := (show ObjOk P w H h a (.lst xs) from ok a _ e)
    obtain ⟨as, ra⟩ := IsAll.reads ok q rv
    exact ⟨_, .list e1 rfl rfl (by simpa using ra)⟩
  | _, _, .tup (a := a) (xs := xs) e q, u, r => by
    obtain rfl : u = .ref a := r
    obtain ⟨_, its, rv, ⟨o, e1, c, n, dd⟩, _⟩ := (show ObjOk P w H h a (.tup xs) from ok a _ e)
    obtain ⟨as, ra⟩ := IsAll.reads ok q rv
    exact ⟨_, .tuple e1 c dd (by simpa using ra)⟩
theorem IsAll.reads {E : Addr → Prop} {P : Program} {w : World} {H : Hp} {h : Heap} (ok : HOk P w H h) : ∀ {vs : List V} {ds : List PyData}, IsAll E H vs ds → ∀ {us : List Value}, Vals vs us → ∃ as, ReadsAll h us ds as
  | _, _, .nil, us, r => by cases r; exact ⟨_, .nil⟩
  | _, _, .cons q qs, us, r => by
    cases r with
    | cons r1 rr =>
      obtain ⟨as, h1⟩ := IsD.reads ok q r1
      obtain ⟨bs, h2⟩ := IsAll.reads ok qs rr
      exact ⟨_, .cons h1 h2⟩
end
section
variable {X : Cx}
theorem call_str_data {k : Nat} (hr : Room k X.A) : CallR X (.type "str") (fun xs H Q => Ex3 fun (a : Addr) (d : PyData) (E : Addr → Prop) => xs = [.ref a] ∧ IsD E H (.ref a) d ∧ d.showable = true ∧ d.hasDict = false ∧ d.depth ≤ 50 ∧ d.shown.length ≤ sizeLine ∧ Q (.str d.shown) H) := by
  intro pins s σ H xs us Q I r h
  obtain ⟨a, d, E, rfl, hd, h1, h2, h3, h4, q⟩ := h
  obtain ⟨u, rfl, ru⟩ := r.one
  obtain rfl : u = .ref a := ru
  obtain ⟨as, rr⟩ := hd.reads I.hok (u := .ref a) rfl
  refine str_of_reads rr h1 (PyData.noDict_hsm h2) hr.gd (by have := hr.units; trivial) (fun _ _ e => e) (fun h' u tk hk => ?_) h4
  exact ⟨.str _, H, I.kept hk, ⟨_, rfl⟩, q⟩
def CDivB (_ j : Int) : Prop := 0 < j ∧ j.natAbs.log2 < 9000
theorem op_fdivB : OpR X (binaryOp .FloorDiv) (rI CDivB fun i j => .int (i / j)) := opI fun i j _ _ _ _ _ hc q => by
  rw [← Int.fdiv_eq_ediv_of_nonneg _ (Int.le_of_lt hc.1)] at q
  exact floordiv_int (Int.ne_of_gt hc.1) q (.inl (PyProof.noPylong_of_log2 hc.2))
end
end L2
namespace L2
open PySem PySem.Spec PyProof.Rows
def tyN : PyData → String
  | .none => "NoneType"
  | .bool _ => "bool"
  | .int _ => "int"
  | .str _ => "str"
  | .list _ => "list"
  | .tuple _ => "tuple"
  | .dict _ => "dict"
theorem IsD.ty {K : PySem.W.Frag} {E : Addr → Prop} {H : Hp} {v : V} {d : PyData} (h : IsD E H v d) : TyOf K H v (.type (tyN d)) := by
  cases h with
  | non => exact .non
  | bl b => exact .bl b
  | int i => exact .int i
  | str x => exact .str x
  | lst h ne r => exact .lst h
  | tup h r => exact .tup h
def isIntB : PyData → Bool
  | .int _ => true
  | .bool _ => true
  | _ => false
def isBoolB : PyData → Bool
  | .bool _ => true
  | _ => false
def isTupB : PyData → Bool
  | .tuple _ => true
  | _ => false
def isLstB : PyData → Bool
  | .list _ => true
  | _ => false
def isStrB : PyData → Bool
  | .str _ => true
  | _ => false
theorem kit_int {K : PySem.W.Frag} (d : PyData) : PySem.W.kitOne K (.type (tyN d)) (.type "int") = some (isIntB d) := by cases d <;> rfl
theorem kit_bool {K : PySem.W.Frag} (d : PyData) : PySem.W.kitOne K (.type (tyN d)) (.type "bool") = some (isBoolB d) := by cases d <;> rfl
theorem kit_tuple {K : PySem.W.Frag} (d : PyData) : PySem.W.kitOne K (.type (tyN d)) (.type "tuple") = some (isTupB d) := by cases d <;> rfl
theorem kit_list {K : PySem.W.Frag} (d : PyData) : PySem.W.kitOne K (.type (tyN d)) (.type "list") = some (isLstB d) := by cases d <;> rfl
theorem kit_str {K : PySem.W.Frag} (d : PyData) : PySem.W.kitOne K (.type (tyN d)) (.type "str") = some (isStrB d) := by cases d <;> rfl
inductive rIsi_ (K : PySem.W.Frag) (xs : List V) (H : Hp) (Q : VK) : Prop
  | mk (x : _) (T : _) (t : _) (b : _) (h0 : xs = [x, .ty T]) (h1 : TyOf K H x t) (h2 : PySem.W.kitOne K t (.type T) = some b) (h3 : Q (.bl b) H)
def rIsi (K : PySem.W.Frag) : List V → Hp → VK → Prop := fun xs H Q => rIsi_ K xs H Q
end L2
namespace L2
open PySem PySem.Spec PyProof.Rows
section
variable {X : Cx}
theorem call_divmodB : CallR X (.builtin "divmod") (fun xs H Q => Ex2 fun i j => xs = [.int i, .int j] ∧ CDivB i j ∧ ∀ p, H p = none → Q (.ref p) (upd H p (.tup [.int (i / j), .int (i % j)]))) := by
  intro pins s σ H xs us Q I r h
  obtain ⟨i, j, rfl, ⟨h1, h2⟩, q⟩ := h
  obtain ⟨u, w', rfl, ⟨t, rfl⟩, ⟨t', rfl⟩⟩ := vals2 r
  refine divmod_int (by trivial) ?_ (.inl (PyProof.noPylong_of_log2 h2))
  rw [Int.fdiv_eq_ediv_of_nonneg i (by trivial), Int.fmod_eq_emod_of_nonneg i (by trivial)]
  have hn : H s.heap.objs.size = none := I.hok.fresh (Nat.le_refl _)
  refine ⟨.ref s.heap.objs.size, _, ?_, rfl, q _ hn⟩
  refine I.laid (fun b o e => Heap.get?_push_of_some _ e) (Nat.le_refl _) ⟨by simp only [List.length_cons, List.length_nil]; rw [sizeLine_eq]; decide, [.int (i / j) s.toks, .int (i % j) (s.toks + 1)], .cons ⟨_, rfl⟩ (.cons ⟨_, rfl⟩ .nil), ?_⟩
  exact ⟨⟨_, Heap.get?_push_size s.heap rfl, rfl, 0, rfl⟩, _, Heap.get?_push_size s.heap rfl, rfl⟩
end
theorem b01 (c : Bool) : -(2 ^ 64) < (if c = true then (1 : Int) else 0) ∧ (if c = true then (1 : Int) else 0) < 2 ^ 64 := by cases c <;> decide
theorem abs_nn (x : Int) : 0 ≤ (if x < 0 then -x else x) := by split <;> trivial
theorem mul01 {x : Int} (c : Bool) (h : 0 ≤ x) : 0 ≤ x * (if c = true then (1 : Int) else 0) := by cases c <;> simp [h]
theorem atI_int {ms : List Int} {k : Int} (h0 : 0 ≤ k) (h : k.toNat < ms.length) : atI (ms.map V.int) k = some (V.int ms[k.toNat]) := by
  have q := atI_nat (xs := ms.map V.int) (j := k.toNat) (v := V.int ms[k.toNat]) (by rw [List.getElem?_map]; simp [h])
  rwa [Int.toNat_of_nonneg h0] at q
def Bx (H : Hp) (b : Addr) (t : Int) : Prop := ∃ c x : Int, H b = some (.lst [.int c, .int x, .int t]) ∧ 0 ≤ c ∧ 0 ≤ x ∧ x < 2147483647
abbrev Eb (b : Addr) : Addr → Prop := fun a => a = b
theorem Bx.same {H H' : Hp} {b : Addr} {t : Int} (h : Bx H b t) (k : Same H H') : Bx H' b t := by
  obtain ⟨c, x, e, r⟩ := h
  exact ⟨c, x, k _ _ e, r⟩
theorem sameE_upd {H H1 : Hp} {b : Addr} {xs : List V} {o : HO} (k : Same H H1) (hb : H1 b = some (.lst xs)) : SameE (Eb b) H (upd H1 b o) :=
  ⟨fun a u n h => by rw [upd_ne n]; exact k a u h, fun a ys h => by
    have e := k a _ h
    rw [upd_ne (ne_of e hb (by intro z; cases z))]; exact e⟩
inductive spBox_ (K : PySem.W.Frag) (vs : List V) (H : Hp) (Q : VK) : Prop
  | mk (a : Addr) (ms : List Int) (k : Int) (h0 : vs = [.ref a, .int k]) (h1 : SqL K H a (ms.map V.int)) (h2 : 0 ≤ k) (h3 : k ≤ 63) (h4 : ∀ p H', H p = none → Same H H' → Bx H' p 0 → Q (.ref p) H')
def spBox (K : PySem.W.Frag) : Sp := fun vs H Q _ => spBox_ K vs H Q
inductive spTake_ (vs : List V) (H : Hp) (Q : VK) : Prop
  | mk (b : Addr) (many t : Int) (h0 : vs = [.ref b, .int many]) (h1 : Bx H b t) (h2 : 0 < many) (h3 : many.natAbs.log2 < 9000) (h4 : 0 ≤ t) (h5 : t ≤ 1000000) (h6 : ∀ r t' H', 0 ≤ r → r < many → t ≤ t' → t' ≤ t + 1 → SameE (Eb b) H H' → Bx H' b t' → Q (.int r) H')
def spTake : Sp := fun vs H Q _ => spTake_  vs H Q
end L2
namespace L2
open PySem PySem.Spec PyProof.Rows
def nodupB : List Str → Bool
  | [] => true
  | x :: r => !r.contains x && nodupB r
theorem nodupS : ∀ l : List Str, nodupB l = true → l.Nodup
  | [], _ => List.nodup_nil
  | x :: r, h => by
    unfold nodupB at h
    simp only [Bool.and_eq_true, Bool.not_eq_true', List.contains_eq_mem, decide_eq_false_iff_not] at h
    exact List.nodup_cons.mpr ⟨h.1, nodupS r h.2⟩
inductive rLen_ (K : PySem.W.Frag) (xs : List V) (H : Hp) (Q : VK) : Prop
  | mk (p : _) (ys : _) (h0 : xs = [.ref p]) (h1 : (SqL K H p ys ∨ SqT K H p ys)) (h2 : Q (.int ys.length) H)
def rLen (K : PySem.W.Frag) : List V → Hp → VK → Prop := fun xs H Q => rLen_ K xs H Q
section
variable {X : Cx} {K : PySem.W.Frag}
theorem isinst_k (e : X.K = K := by rfl) : CallR X (.builtin "isinstance") (rIsi K) := by subst e; exact fun pins s σ H xs us Q I r ⟨x, T, t, b, h1, h2, h3, q⟩ => call_isinst pins s σ H xs us Q I r ⟨x, T, t, b, h1, h2, h3, q⟩
theorem len_k (e : X.K = K := by rfl) : CallR X (.builtin "len") (rLen K) := by subst e; exact fun pins s σ H xs us Q I r ⟨p, ys, h1, h2, q⟩ => call_len_seq pins s σ H xs us Q I r ⟨p, ys, h1, h2, q⟩
theorem ixL_k (e : X.K = K := by rfl) : IxR X (rIxL K) := by subst e; exact ix_list
theorem ixT_k (e : X.K = K := by rfl) : IxR X (rIxT K) := by subst e; exact ix_tup
theorem notIn_k (e : X.K = K := by rfl) : OpR X (compareOp .NotIn) (rIn K true) := by subst e; exact op_notIn_seq
inductive rAll_ (K : PySem.W.Frag) (xs : List V) (H : Hp) (Q : VK) : Prop
  | mk (l : Addr) (bs : List Bool) (h0 : xs = [.ref l]) (h1 : SqL K H l (bs.map V.bl)) (h2 : Q (.bl (bs.all id)) H)
def rAll (K : PySem.W.Frag) : List V → Hp → VK → Prop := fun xs H Q => rAll_ K xs H Q
theorem all_k (hc : X.calm = true) (e : X.K = K := by rfl) : CallR X (.builtin "all") (rAll K) := by subst e; exact fun pins s σ H xs us Q I r ⟨l, bs, h1, h2, q⟩ => call_all hc pins s σ H xs us Q I r ⟨l, bs, h1, h2, q⟩
theorem pg_tup_k {pos : Pos} {es : List Expr} {k : Nat} {t : TGs} {n : Nat} (hc : X.calm = true) (h : PGs X es t) (e : X.K = K := by rfl)
    (hn : (assignEach es X.env).length = n := by rfl) (hst : (assignEach es X.env).findIdx? (·.1) = none := by rfl) : PG X (.Tuple es k pos) (gTup K n t) := by
  subst e; exact pg_tup hc h hn hst
theorem pi_list_k {tg l : Expr} {tl : TE} (hl : PE X l tl) (e : X.K = K := by rfl) : PI X tg l (iList K tl) := by subst e; exact pi_list hl
theorem pi_tup_k {tg l : Expr} {tl : TE} (hl : PE X l tl) (e : X.K = K := by rfl) : PI X tg l (iTup K tl) := by subst e; exact pi_tup hl
end
end L2
namespace L2
open PySem PySem.Spec PyProof.Rows
def notStar : Expr → Bool
  | .Starred .. => false
  | _ => true
theorem star_cons {e : Expr} {es : List Expr} {env : Env} (h : notStar e = true) : starEach (e :: es) env = (false, eval e env) :: starEach es env := by
  cases e <;> first | rfl | (simp [notStar] at h)
section
variable {X : Cx} {e : Expr} {es : List Expr} {te : TE} {t : TA}
theorem pa_c (ha : PE X e te) (hr : PA X es t) (hs : notStar e = true := by rfl) : PA X (e :: es) (tCons te t) := pa_cons ha hr (star_cons hs)
theorem pw (i : Nat) {x : Str} {pos : Pos} (hv : Vis X.env.scope x) (hN : X.N[i]? = some x := by rfl) (hd : (x == ("__debug__" : Str)) = false := by decide) (hcd : (x == ("__classdict__" : Str)) = false := by decide) : PE X (.Name x pos) (tVar i) := pe_var hN hv hd hcd
end
end L2
namespace KM
theorem gcd_fmod (n d : Int) : Int.gcd d (n.fmod d) = Int.gcd n d := by
  apply Nat.dvd_antisymm
  · apply Int.dvd_gcd
    · have h1 : ((Int.gcd d (n.fmod d) : Nat) : Int) ∣ d := Int.gcd_dvd_left ..
      have h2 : ((Int.gcd d (n.fmod d) : Nat) : Int) ∣ n.fmod d := Int.gcd_dvd_right ..
      have h3 := Int.dvd_add h2 (Int.dvd_mul_of_dvd_left (c := n.fdiv d) h1)
      rw [Int.fmod_add_mul_fdiv] at h3
      exact h3
    · exact Int.gcd_dvd_left ..
  · apply Int.dvd_gcd
    · exact Int.gcd_dvd_right ..
    · rw [Int.fmod_def]
      exact Int.dvd_sub (Int.gcd_dvd_left ..) (Int.dvd_mul_of_dvd_left (Int.gcd_dvd_right ..))
theorem fmod_natAbs_lt (n d : Int) (h : d ≠ 0) : (n.fmod d).natAbs < d.natAbs := by
  rcases Int.lt_trichotomy d 0 with hd | hd | hd
  · have e : n.fmod d = -((-n).fmod (-d)) := by
      rw [Int.fmod_def, Int.fmod_def]
      have : (-n).fdiv (-d) = n.fdiv d := Int.neg_fdiv_neg n d
      rw [this, Int.neg_mul]; trivial
    have h1 := Int.fmod_nonneg_of_pos (-n) (b := -d) (by trivial)
    have h2 := Int.fmod_lt_of_pos (-n) (b := -d) (by trivial)
    trivial
  · exact absurd hd h
  · have h1 := Int.fmod_nonneg_of_pos n hd
    have h2 := Int.fmod_lt_of_pos n hd
    trivial
theorem gcd_zero_abs (n : Int) : ((Int.gcd n 0 : Nat) : Int) = if n < 0 then -n else n := by
  rw [Int.gcd_zero_right]
  split <;> trivial
theorem gcd_emod (n d : Int) : Int.gcd d (n % d) = Int.gcd n d := by
  by_cases h : d = 0
  · subst h; rw [Int.emod_zero, Int.gcd_comm]
  · apply Nat.dvd_antisymm
    · apply Int.dvd_gcd
      · have h1 : ((Int.gcd d (n % d) : Nat) : Int) ∣ d := Int.gcd_dvd_left ..
        have h2 : ((Int.gcd d (n % d) : Nat) : Int) ∣ n % d := Int.gcd_dvd_right ..
        have h3 := Int.dvd_add h2 (Int.dvd_mul_of_dvd_left (c := n / d) h1)
        rw [Int.emod_add_mul_ediv] at h3
        exact h3
      · exact Int.gcd_dvd_left ..
    · apply Int.dvd_gcd
      · exact Int.gcd_dvd_right ..
      · rw [Int.emod_def]
        exact Int.dvd_sub (Int.gcd_dvd_left ..) (Int.dvd_mul_of_dvd_left (Int.gcd_dvd_right ..))
end KM
namespace KM
def low (n d : Int) : Int × Int := if 0 < d then (n / (Int.gcd n d : Nat), d / (Int.gcd n d : Nat)) else (-n / (Int.gcd n d : Nat), -d / (Int.gcd n d : Nat))
theorem gcd_pos {n d : Int} (h : d ≠ 0) : 0 < Int.gcd n d := by
  apply Nat.pos_of_ne_zero
  intro e
  exact h (Int.gcd_eq_zero_iff.mp e).2
theorem gcd_abs (n d : Int) : Int.gcd (if n < 0 then -n else n) (if d < 0 then -d else d) = Int.gcd n d := by
  split <;> split <;> simp [Int.gcd_neg, Int.neg_gcd]
theorem low_spec (n d : Int) (h : d ≠ 0) : 1 ≤ (low n d).2 ∧ (low n d).1 * d = n * (low n d).2 ∧ Int.gcd (low n d).1 (low n d).2 = 1 ∧ (low n d).1.natAbs ≤ n.natAbs ∧ (low n d).2.natAbs ≤ d.natAbs := by
  have g0 := gcd_pos (n := n) h
  have gi : ((Int.gcd n d : Nat) : Int) ≠ 0 := by trivial
  have d1 : ((Int.gcd n d : Nat) : Int) ∣ n := Int.gcd_dvd_left ..
  have d2 : ((Int.gcd n d : Nat) : Int) ∣ d := Int.gcd_dvd_right ..
  obtain ⟨a, ha⟩ := d1
  obtain ⟨b, hb⟩ := d2
  have ea : n / ((Int.gcd n d : Nat) : Int) = a := by
    conv => lhs; lhs; rw [ha]
    exact Int.mul_ediv_cancel_left _ gi
  have eb : d / ((Int.gcd n d : Nat) : Int) = b := by
    conv => lhs; lhs; rw [hb]
    exact Int.mul_ediv_cancel_left _ gi
  have ena : -n / ((Int.gcd n d : Nat) : Int) = -a := by
    have : -n = ((Int.gcd n d : Nat) : Int) * (-a) := by rw [Int.mul_neg]; trivial
    rw [this]
    exact Int.mul_ediv_cancel_left _ gi
  have enb : -d / ((Int.gcd n d : Nat) : Int) = -b := by
    have : -d = ((Int.gcd n d : Nat) : Int) * (-b) := by rw [Int.mul_neg]; trivial
    rw [this]
    exact Int.mul_ediv_cancel_left _ gi
  have hco : Int.gcd a b = 1 := by
    have := Int.gcd_ediv_gcd_ediv_gcd (i := n) (j := d) g0
    rw [ea, eb] at this
    exact this
  have hgp : (0 : Int) < ((Int.gcd n d : Nat) : Int) := by trivial
  have habs : n.natAbs = Int.gcd n d * a.natAbs := by
    conv => lhs; rw [ha]
    rw [Int.natAbs_mul]; rfl
  have hbbs : d.natAbs = Int.gcd n d * b.natAbs := by
    conv => lhs; rw [hb]
    rw [Int.natAbs_mul]; rfl
  have la : a.natAbs ≤ n.natAbs := by rw [habs]; exact Nat.le_mul_of_pos_left _ g0
  have lb : b.natAbs ≤ d.natAbs := by rw [hbbs]; exact Nat.le_mul_of_pos_left _ g0
  have hab : a * d = n * b := by
    generalize ((Int.gcd n d : Nat) : Int) = g at ha hb
    subst ha hb
    rw [Int.mul_comm g a, Int.mul_assoc]
  unfold low
  split
  · rename_i hd
    refine ⟨?_, ?_, ?_, ?_, ?_⟩
    · show 1 ≤ d / _
      rw [eb]
      have : 0 < b := by
        apply Int.pos_of_mul_pos_right (a := ((Int.gcd n d : Nat) : Int)) _ hgp
        rw [← hb]; exact hd
      trivial
    · show n / _ * d = n * (d / _)
      rw [ea, eb]; exact hab
    · show Int.gcd (n / _) (d / _) = 1
      rw [ea, eb]; exact hco
    · show (n / _).natAbs ≤ _
      rw [ea]; exact la
    · show (d / _).natAbs ≤ _
      rw [eb]; exact lb
  · rename_i hd
    refine ⟨?_, ?_, ?_, ?_, ?_⟩
    · show 1 ≤ -d / _
      rw [enb]
      have : 0 < -b := by
        apply Int.pos_of_mul_pos_right (a := ((Int.gcd n d : Nat) : Int)) _ hgp
        rw [Int.mul_neg, ← hb]; trivial
      trivial
    · show -n / _ * d = n * (-d / _)
      rw [ena, enb, Int.neg_mul, Int.mul_neg, hab]
    · show Int.gcd (-n / _) (-d / _) = 1
      rw [ena, enb, Int.gcd_neg, Int.neg_gcd]; exact hco
    · show (-n / _).natAbs ≤ _
      rw [ena, Int.natAbs_neg]; exact la
    · show (-d / _).natAbs ≤ _
      rw [enb, Int.natAbs_neg]; exact lb
end KM
namespace KM
section
variable {p0 p1 q0 q1 : Int}
end
theorem fdiv_low {n d : Int} (hd : d ≠ 0) : (n.fdiv (if d < 0 then -((Int.gcd n d : Nat) : Int) else ((Int.gcd n d : Nat) : Int)), d.fdiv (if d < 0 then -((Int.gcd n d : Nat) : Int) else ((Int.gcd n d : Nat) : Int))) = low n d := by
  have g0 : (0 : Int) ≤ ((Int.gcd n d : Nat) : Int) := Int.natCast_nonneg _
  unfold low
  by_cases h : d < 0
  · rw [if_pos h, if_neg (by trivial)]
    have e : ∀ x : Int, x.fdiv (-((Int.gcd n d : Nat) : Int)) = -x / ((Int.gcd n d : Nat) : Int) := fun x => by
      rw [← Int.fdiv_eq_ediv_of_nonneg _ g0, ← Int.neg_fdiv_neg, Int.neg_neg]
    rw [e, e]
  · rw [if_neg h, if_pos (by trivial), Int.fdiv_eq_ediv_of_nonneg _ g0, Int.fdiv_eq_ediv_of_nonneg _ g0]
end KM
namespace KM
abbrev Fra := Int × Int
def ladd (t p : Fra) : Fra := low (t.1 * p.2 + p.1 * t.2) (t.2 * p.2)
theorem low_sgn {n d : Int} (hd : 0 < d) : (0 < (low n d).1 ↔ 0 < n) ∧ ((low n d).1 < 0 ↔ n < 0) := by
  obtain ⟨h1, h2, _, _, _⟩ := low_spec n d (by trivial)
  generalize low n d = z at *
  obtain ⟨x, y⟩ := z
  dsimp only at *
  have hy : 0 < y := by trivial
  constructor
  · constructor
    · intro h
      have : 0 < x * d := Int.mul_pos h hd
      rw [h2] at this
      exact Int.pos_of_mul_pos_left this hy
    · intro h
      have : 0 < n * y := Int.mul_pos h hy
      rw [← h2] at this
      exact Int.pos_of_mul_pos_left this hd
  · constructor
    · intro h
      have : x * d < 0 := Int.mul_neg_of_neg_of_pos h hd
      rw [h2] at this
      apply Decidable.byContradiction
      intro hn
      have := Int.mul_nonneg (show 0 ≤ n by trivial) (show 0 ≤ y by trivial)
      trivial
    · intro h
      have : n * y < 0 := Int.mul_neg_of_neg_of_pos h hy
      rw [← h2] at this
      apply Decidable.byContradiction
      intro hn
      have := Int.mul_nonneg (show 0 ≤ x by trivial) (show 0 ≤ d by trivial)
      trivial
end KM
namespace KM
def lTim (p q : Fra) : Fra := low (p.1 * q.1) (p.2 * q.2)
end KM
namespace L2
open PySem PySem.Spec PyProof.Rows
section
variable {prog : Program} {w : World} {A : Around} {E : Value → Shared → Prop} {s : Shared}
theorem nextOf_tup {it t : Addr} {i : Nat} {its : Array Value} {x : Value} {Q : Value → Shared → Prop} (hit : s.heap.IsTupleIter it t i) (ht : s.heap.IsTuple t its) (hx : its[i]? = some x)
    (q : ∀ h', h'.IsTupleIter it t (i + 1) → Heap.SameBut it s.heap h' → Q x { s with heap := h' }) : wpAny (model prog w) A (Builtin.SmallTypes.nextOf (.ref it)) Q E s := by
  obtain ⟨o, e1, e2, e3⟩ := id hit; obtain ⟨u, e4, _, k, e5⟩ := ht; unfold Builtin.SmallTypes.nextOf
  refine wpAny_bind (wpAny_callSpecial?_slot (name := Str.ofString "__next__") hit.typeIs F.slot_tuple_iterator_next (wpAny_call_entry F.slot_tuple_iterator_next hit.typeIs F.entry_tuple_iterator_next ?_ (F.args_tuple_iterator_next_1 _)))
  show wpAny _ _ (field (.ref it) 0 >>= _) _ _ s; refine wpAny_bind (wpAny_field e1 e3 (x := .ref t) rfl ?_)
  show wpAny _ _ (if (Value.ref t == Value.none) = true then _ else _) _ _ s; rw [if_neg (show ¬ ((Value.ref t == Value.none) = true) from Bool.false_ne_true)]
  show wpAny _ _ (field (.ref it) 1 >>= _) _ _ s; refine wpAny_bind (wpAny_field e1 e3 (x := .int i 0) rfl ?_)
  show wpAny _ _ (seqItems? (.ref t) >>= _) _ _ s; refine wpAny_bind (wpAny_seqItems e4 e5 ?_)
  simp only [Int.toNat_natCast, hx]; refine wpAny_bind (wpAny_setField e1 e3 (by simp) (wpAny_pure ⟨x, rfl, wpAny_pure (q _ ?_ (Heap.SameBut.update ..))⟩))
  exact ⟨_, Heap.get?_update_self _ e1 (Obj.isFreed_of_fields (Obj.data_mapFields e3 _)), (Obj.cls_mapFields ..).trans e2, by rw [Obj.data_mapFields e3]; simp [rawInt]⟩
theorem nextOf_tupEnd {it t : Addr} {i : Nat} {its : Array Value} {Q : Value → Shared → Prop} (hh : A.handled = none) (hit : s.heap.IsTupleIter it t i) (ht : s.heap.IsTuple t its) (hx : its[i]? = none)
    (q : ∀ h' e, Heap.ExtBut it s.heap h' → (∃ o, h'.get? e = some o ∧ o.cls = .type "StopIteration") → E (.ref e) { s with heap := h' }) : wpAny (model prog w) A (Builtin.SmallTypes.nextOf (.ref it)) Q E s := by
  obtain ⟨o, e1, e2, e3⟩ := id hit; obtain ⟨u, e4, _, k, e5⟩ := ht; unfold Builtin.SmallTypes.nextOf
  refine wpAny_bind (wpAny_callSpecial?_slot (name := Str.ofString "__next__") hit.typeIs F.slot_tuple_iterator_next (wpAny_call_entry F.slot_tuple_iterator_next hit.typeIs F.entry_tuple_iterator_next ?_ (F.args_tuple_iterator_next_1 _)))
  show wpAny _ _ (field (.ref it) 0 >>= _) _ _ s; refine wpAny_bind (wpAny_field e1 e3 (x := .ref t) rfl ?_)
  show wpAny _ _ (if (Value.ref t == Value.none) = true then _ else _) _ _ s; rw [if_neg (show ¬ ((Value.ref t == Value.none) = true) from Bool.false_ne_true)]
  show wpAny _ _ (field (.ref it) 1 >>= _) _ _ s; refine wpAny_bind (wpAny_field e1 e3 (x := .int i 0) rfl ?_)
  show wpAny _ _ (seqItems? (.ref t) >>= _) _ _ s; refine wpAny_bind (wpAny_seqItems e4 e5 ?_)
  simp only [Int.toNat_natCast, hx]; refine wpAny_bind (wpAny_rule (wpAny_bind (wpAny_setField e1 e3 (by simp) ?_)))
  show wpAny _ _ (newExc (.type "StopIteration") [] >>= _) _ _ _; refine wpAny_bind ?_; simp only [newExc, newTuple]
  refine wpAny_bind (wpAny_newObj_type ?_ (by size_fits)); refine wpAny_bind (m := firstArgMember _ _) (wpAny_of_eq (a := Value.none) (by first | rfl | (simp only [firstArgMember]; rfl)) ?_); refine wpAny_newObj_type ?_ (by size_fits)
  simp only [raiseNew]; refine wpAny_bind (wpAny_handled ?_); first | rw [show A.in1.handled = none from hh] | rw [hh]
  refine wpAny_bind (wpAny_pure (wpAny_throw ?_)); exact q _ _ (((Heap.SameBut.update ..).extBut.push _).push _) ⟨_, Heap.get?_push_size _ rfl, rfl⟩
end
def SqK (h : Heap) (l : Addr) (its : Array Value) : Bool → Prop
  | true => h.IsList l its
  | false => h.IsTuple l its
def ItK (h : Heap) (it l : Addr) (i : Nat) : Bool → Prop
  | true => h.IsListIter it l i
  | false => h.IsTupleIter it l i
theorem SqK.at {h h' : Heap} {l : Addr} {its : Array Value} : ∀ {b : Bool}, SqK h l its b → (∀ o, h.get? l = some o → h'.get? l = some o) → SqK h' l its b
  | true, q, k => Heap.IsList.at q k
  | false, q, k => Heap.IsTuple.at q k
theorem ItK.at {h h' : Heap} {it l : Addr} {i : Nat} : ∀ {b : Bool}, ItK h it l i b → (∀ o, h.get? it = some o → h'.get? it = some o) → ItK h' it l i b
  | true, q, k => Heap.IsListIter.at q k
  | false, q, k => Heap.IsTupleIter.at q k
theorem SqK.lt {h : Heap} {l : Addr} {its : Array Value} : ∀ {b : Bool}, SqK h l its b → l < h.objs.size
  | true, ⟨_, e, _⟩ => Heap.lt_size e
  | false, ⟨_, e, _⟩ => Heap.lt_size e
theorem ItK.some {h : Heap} {it l : Addr} {i : Nat} : ∀ {b : Bool}, ItK h it l i b → ∃ o, h.get? it = some o ∧ ∀ v, o.data ≠ .cell v
  | true, ⟨o, e, _, d⟩ => ⟨o, e, fun v z => by rw [d] at z; cases z⟩
  | false, ⟨o, e, _, d⟩ => ⟨o, e, fun v z => by rw [d] at z; cases z⟩
theorem drawsK {prog : Program} {w : World} {A : Around} (hh : A.handled = none) (it l : Addr) (hne : l ≠ it) (its : Array Value) : ∀ b : Bool,
    Draws prog w A it [it, l] its.size (fun i v => its[i]? = some v) (fun i h => ItK h it l i b ∧ SqK h l its b)
  | true => Draws.list hh it l hne its
  | false => {
    live := fun _ _ st => let ⟨o, ho, _⟩ := st.1; ⟨o, ho⟩
    frame := fun _ _ _ st hk => ⟨Heap.IsTupleIter.at st.1 fun o e => hk it (by simp) o e, Heap.IsTuple.at st.2 fun o e => hk l (by simp) o e⟩
    item := fun i s Q E hi st q => nextOf_tup st.1 st.2 (x := its[i]) (by simp [hi]) fun h' it' same => q _ h' s.toks (by simp [hi]) ⟨it', Heap.IsTuple.extBut st.2 same.extBut hne⟩ same
    done := fun s Q E st q => nextOf_tupEnd hh st.1 st.2 (by simp) q }
end L2
namespace L2
open PySem PySem.Spec PyProof.Rows
structure Apart5 (z TI TO i1 i2 : Addr) : Prop where
  a1 : TI ≠ z
  a2 : TO ≠ z
  a3 : i1 ≠ z
  a4 : i2 ≠ z
  a5 : TI ≠ TO
  a6 : TI ≠ i1
  a7 : TI ≠ i2
  a8 : TO ≠ i1
  a9 : TO ≠ i2
  a0 : i1 ≠ i2
section
variable {prog : Program} {w : World} {A : Around} {E : Value → Shared → Prop} {s : Shared}
variable {z TI TO i1 i2 l1 l2 : Addr} {k : Nat} {xs ys : Array Value} {a b : Value} {c1 c2 : Bool}
theorem zipItem {x y : Value} {Q : Value → Shared → Prop} (D : Apart5 z TI TO i1 i2) (n1 : ∀ c, c = l1 ∨ c = l2 → c ≠ z ∧ c ≠ TO ∧ c ≠ i1 ∧ c ≠ i2)
    (hz : IsZip s.heap z TI TO .none) (hTI : IsPair s.heap TI (.ref i1) (.ref i2)) (hTO : IsPair s.heap TO a b) (hh : A.handled = none)
    (h1 : ItK s.heap i1 l1 k c1) (h2 : ItK s.heap i2 l2 k c2) (q1 : SqK s.heap l1 xs c1) (q2 : SqK s.heap l2 ys c2) (hx : xs[k]? = some x) (hy : ys[k]? = some y)
    (hQ : ∀ h' tk, IsZip h' z TI TO (rawInt s.heap.objs.size) → IsPair h' TO x y → ItK h' i1 l1 (k + 1) c1 → ItK h' i2 l2 (k + 1) c2 → IsPair h' s.heap.objs.size x y → h'.objs.size = s.heap.objs.size + 1 →
      (∀ c o, c ≠ z → c ≠ TO → c ≠ i1 → c ≠ i2 → s.heap.get? c = some o → h'.get? c = some o) → Q (.ref s.heap.objs.size) { s with heap := h', toks := tk }) :
    wpAny (model prog w) A (Builtin.«zip.__next__» ⟨[.ref z], []⟩) (fun fin s' => ∃ v, fin = .done (.ret v) ∧ Q v s') E s := by
  obtain ⟨m1, m2, m3, m4⟩ := n1 l1 (.inl rfl)
  obtain ⟨m5, m6, m7, m8⟩ := n1 l2 (.inr rfl)
  have kx : k < xs.size := (Array.getElem?_eq_some_iff.mp hx).1
  have ky : k < ys.size := (Array.getElem?_eq_some_iff.mp hy).1
  have D1 := drawsK (prog := prog) (w := w) hh i1 l1 m3 xs c1
  have D2 := drawsK (prog := prog) (w := w) hh i2 l2 m8 ys c2
  show wpAny _ _ (field (.ref z) 2 >>= _) _ _ _; refine wpAny_bind (wpAny_field hz rfl (x := .bool false) rfl ?_)
  show wpAny _ _ (field (.ref z) 3 >>= _) _ _ _; refine wpAny_bind (wpAny_field hz rfl (x := .ref TI) rfl (wpAny_bind (wpAny_seqItems hTI rfl ?_)))
  show wpAny _ _ (Builtin.SmallTypes.ownedTupleIsFree (.ref z) >>= _) _ _ _; refine wpAny_bind ?_; unfold Builtin.SmallTypes.ownedTupleIsFree
  refine wpAny_bind (wpAny_field hz rfl (x := .none) rfl (wpAny_pure ?_)); simp only [if_true]
  refine wpAny_bind (wpAny_rule (wpAny_bind (wpAny_field hz rfl (x := .ref TO) rfl (wpAny_bind (wpAny_setField_rec hz (by simp) fun g1 z1 t1 => ?_)))))
  replace z1 : IsZip g1 z TI TO .ellipsis := z1
  refine wpAny_bind ?_; simp only [List.zipIdx_cons, List.zipIdx_nil, List.forIn_cons, List.forIn_nil]; refine wpAny_bind (wpAny_bind (wpAny_onRaise ?_))
  show wpAny _ _ (Builtin.SmallTypes.nextOf (.ref i1) >>= _) _ _ _
  refine wpAny_bind (D1.item k _ _ _ kx ⟨h1.at fun o e => t1.extBut _ _ D.a3 e, q1.at fun o e => t1.extBut _ _ m1 e⟩ fun x' g2 tk2 p1 st1 t2 => wpAny_pure ?_)
  have ex : x = x' := Option.some.inj (hx.symm.trans p1)
  subst ex
  have TO2 : IsPair g2 TO a b := t2.extBut _ _ D.a8 (t1.extBut _ _ D.a2 hTO)
  refine wpAny_bind (wpAny_seqItems TO2 rfl (wpAny_bind (wpAny_updateSeq_pair TO2 fun g3 TO3 t3 => ?_)))
  replace TO3 : IsPair g3 TO x b := TO3
  refine wpAny_bind (wpAny_letGo (wpAny_pure ?_)); refine wpAny_bind (wpAny_bind (wpAny_onRaise ?_)); show wpAny _ _ (Builtin.SmallTypes.nextOf (.ref i2) >>= _) _ _ _
  refine wpAny_bind (D2.item k _ _ _ ky ⟨h2.at fun o e => t3.extBut _ _ D.a9.symm (t2.extBut _ _ D.a0.symm (t1.extBut _ _ D.a4 e)), q2.at fun o e => t3.extBut _ _ m6 (t2.extBut _ _ m7 (t1.extBut _ _ m5 e))⟩ fun y' g4 tk4 p2 st2 t4 => wpAny_pure ?_)
  have ey : y = y' := Option.some.inj (hy.symm.trans p2)
  subst ey
  have TO4 : IsPair g4 TO x b := t4.extBut _ _ D.a9 TO3
  refine wpAny_bind (wpAny_seqItems TO4 rfl (wpAny_bind (wpAny_updateSeq_pair TO4 fun g5 TO5 t5 => ?_)))
  replace TO5 : IsPair g5 TO x y := TO5
  refine wpAny_bind (wpAny_letGo (wpAny_pure (wpAny_pure ?_))); refine wpAny_bind (wpAny_seqItems TO5 rfl (wpAny_bind (wpAny_newTuple ?_)))
  have sz : g5.objs.size = s.heap.objs.size := by rw [t5.1, t4.1, t3.1, t2.1, t1.1]
  have z5 : IsZip g5 z TI TO .ellipsis := t5.extBut _ _ D.a2.symm (t4.extBut _ _ D.a4.symm (t3.extBut _ _ D.a2.symm (t2.extBut _ _ D.a3.symm z1)))
  have keep : ∀ c o, c ≠ z → c ≠ TO → c ≠ i1 → c ≠ i2 → s.heap.get? c = some o → g5.get? c = some o := fun c o d1 d2 d3 d4 e => t5.extBut _ _ d2 (t4.extBut _ _ d4 (t3.extBut _ _ d2 (t2.extBut _ _ d3 (t1.extBut _ _ d1 e))))
  have it1 : ItK g5 i1 l1 (k + 1) c1 := st1.1.at fun o e => t5.extBut _ _ D.a8.symm (t4.extBut _ _ D.a0 (t3.extBut _ _ D.a8.symm e))
  have it2 : ItK g5 i2 l2 (k + 1) c2 := st2.1.at fun o e => t5.extBut _ _ D.a9.symm e
  have zlt : z < g5.objs.size := Heap.lt_size z5
  show wpAny _ _ (Builtin.SmallTypes.ownedTupleHandOut (.ref z) (.ref g5.objs.size) >>= _) _ _ _; refine wpAny_bind ?_; unfold Builtin.SmallTypes.ownedTupleHandOut
  have z6 : IsZip (g5.push { cls := .type "tuple", data := .seq #[x, y] }) z TI TO .ellipsis := Heap.get?_push_of_some _ z5
  refine wpAny_bind (wpAny_setField_rec z6 (by simp) fun g7 z7 t7 => ?_)
  replace z7 : IsZip g7 z TI TO (rawInt g5.objs.size) := z7
  refine wpAny_setField_rec z7 (by simp) fun g8 z8 t8 => ?_
  replace z8 : IsZip g8 z TI TO (rawInt g5.objs.size) := z8
  have up : ∀ c o, c ≠ z → g5.get? c = some o → g8.get? c = some o := fun c o d e => t8.extBut _ _ d (t7.extBut _ _ d (Heap.get?_push_of_some _ e))
  have T8 : IsPair g8 g5.objs.size x y := t8.extBut _ _ (Nat.ne_of_gt zlt) (t7.extBut _ _ (Nat.ne_of_gt zlt) (Heap.get?_push_size _ rfl))
  have s8 : g8.objs.size = g5.objs.size + 1 := by rw [t8.1, t7.1, Heap.size_push]
  rw [sz] at z8 T8 s8
  refine wpAny_pure ⟨_, rfl, ?_⟩; show Q (.ref g5.objs.size) _; rw [sz]
  exact hQ g8 _ z8 (up _ _ D.a2 TO5) (it1.at fun o e => up _ o D.a3 e) (it2.at fun o e => up _ o D.a4 e) T8 s8 fun c o d1 d2 d3 d4 e => up c o d1 (keep c o d1 d2 d3 d4 e)
theorem zipEnd {Q : Fin → Shared → Prop} (hh : A.handled = none) (D : Apart5 z TI TO i1 i2) (n1 : ∀ c, c = l1 ∨ c = l2 → c ≠ z ∧ c ≠ TO ∧ c ≠ i1 ∧ c ≠ i2)
    (hz : IsZip s.heap z TI TO .none) (hTI : IsPair s.heap TI (.ref i1) (.ref i2)) (hTO : IsPair s.heap TO a b)
    (h1 : ItK s.heap i1 l1 k c1) (h2 : ItK s.heap i2 l2 k c2) (q1 : SqK s.heap l1 xs c1) (q2 : SqK s.heap l2 ys c2) (hend : xs.size = k ∨ (k < xs.size ∧ ys.size = k))
    (hE : ∀ h' e tk, (∀ c o, c ≠ z → c ≠ TO → c ≠ i1 → c ≠ i2 → s.heap.get? c = some o → h'.get? c = some o) → (∃ o, h'.get? e = some o ∧ o.cls = .type "StopIteration") → E (.ref e) { s with heap := h', toks := tk }) :
    wpAny (model prog w) A (Builtin.«zip.__next__» ⟨[.ref z], []⟩) Q E s := by
  obtain ⟨m1, m2, m3, m4⟩ := n1 l1 (.inl rfl)
  obtain ⟨m5, m6, m7, m8⟩ := n1 l2 (.inr rfl)
  have D1 := drawsK (prog := prog) (w := w) hh i1 l1 m3 xs c1
  have D2 := drawsK (prog := prog) (w := w) hh i2 l2 m8 ys c2
  show wpAny _ _ (field (.ref z) 2 >>= _) _ _ _; refine wpAny_bind (wpAny_field hz rfl (x := .bool false) rfl ?_)
  show wpAny _ _ (field (.ref z) 3 >>= _) _ _ _; refine wpAny_bind (wpAny_field hz rfl (x := .ref TI) rfl (wpAny_bind (wpAny_seqItems hTI rfl ?_)))
  show wpAny _ _ (Builtin.SmallTypes.ownedTupleIsFree (.ref z) >>= _) _ _ _; refine wpAny_bind ?_; unfold Builtin.SmallTypes.ownedTupleIsFree
  refine wpAny_bind (wpAny_field hz rfl (x := .none) rfl (wpAny_pure ?_)); simp only [if_true]
  refine wpAny_bind (wpAny_rule (wpAny_bind (wpAny_field hz rfl (x := .ref TO) rfl (wpAny_bind (wpAny_setField_rec hz (by simp) fun g1 z1 t1 => ?_)))))
  replace z1 : IsZip g1 z TI TO .ellipsis := z1
  refine wpAny_bind ?_; simp only [List.zipIdx_cons, List.zipIdx_nil, List.forIn_cons, List.forIn_nil]; refine wpAny_bind (wpAny_bind (wpAny_onRaise ?_))
  show wpAny _ _ (Builtin.SmallTypes.nextOf (.ref i1) >>= _) _ _ _
  have st0 : ItK g1 i1 l1 k c1 ∧ SqK g1 l1 xs c1 := ⟨h1.at fun o e => t1.extBut _ _ D.a3 e, q1.at fun o e => t1.extBut _ _ m1 e⟩
  rcases hend with hk | ⟨kx, hk⟩
  · refine wpAny_bind (D1.done _ _ _ (by rw [hk]; exact st0) fun g2 e t2 he => ?_)
    obtain ⟨oe, e1, e2⟩ := he
    have z2 : IsZip g2 z TI TO .ellipsis := t2 _ _ D.a3.symm z1
    have ez : e ≠ z := fun q => by subst q; rw [z2] at e1; cases e1; simp at e2
    exact wpAny_setField_rec z2 (by simp) fun g3 _ t3 => hE g3 e _ (fun c o d1 _ d3 _ q => t3.extBut _ _ d1 (t2 _ _ d3 (t1.extBut _ _ d1 q))) ⟨oe, t3.extBut _ _ ez e1, e2⟩
  · refine wpAny_bind (D1.item k _ _ _ kx st0 fun x g2 tk2 p1 st1 t2 => wpAny_pure ?_)
    have TO2 : IsPair g2 TO a b := t2.extBut _ _ D.a8 (t1.extBut _ _ D.a2 hTO)
    refine wpAny_bind (wpAny_seqItems TO2 rfl (wpAny_bind (wpAny_updateSeq_pair TO2 fun g3 TO3 t3 => ?_)))
    refine wpAny_bind (wpAny_letGo (wpAny_pure ?_)); refine wpAny_bind (wpAny_bind (wpAny_onRaise ?_)); show wpAny _ _ (Builtin.SmallTypes.nextOf (.ref i2) >>= _) _ _ _
    have st2 : ItK g3 i2 l2 k c2 ∧ SqK g3 l2 ys c2 := ⟨h2.at fun o e => t3.extBut _ _ D.a9.symm (t2.extBut _ _ D.a0.symm (t1.extBut _ _ D.a4 e)), q2.at fun o e => t3.extBut _ _ m6 (t2.extBut _ _ m7 (t1.extBut _ _ m5 e))⟩
    refine wpAny_bind (D2.done _ _ _ (by rw [hk]; exact st2) fun g4 e t4 he => ?_)
    obtain ⟨oe, e1, e2⟩ := he
    have z4 : IsZip g4 z TI TO .ellipsis := t4 _ _ D.a4.symm (t3.extBut _ _ D.a2.symm (t2.extBut _ _ D.a3.symm z1))
    have ez : e ≠ z := fun q => by subst q; rw [z4] at e1; cases e1; simp at e2
    exact wpAny_setField_rec z4 (by simp) fun g5 _ t5 => hE g5 e _ (fun c o d1 d2 d3 d4 q => t5.extBut _ _ d1 (t4 _ _ d4 (t3.extBut _ _ d2 (t2.extBut _ _ d3 (t1.extBut _ _ d1 q))))) ⟨oe, t5.extBut _ _ ez e1, e2⟩
end
end L2
namespace L2
open PySem PySem.Spec PyProof.Rows
def itN : Bool → String
  | true => "list_iterator"
  | false => "tuple_iterator"
abbrev zA (h : Heap) (l1 : Addr) (c1 : Bool) : Heap := h.push { cls := .type (itN c1), data := .fields #[.ref l1, .int 0 0] }
abbrev zB (h : Heap) (l1 l2 : Addr) (c1 c2 : Bool) : Heap := (zA h l1 c1).push { cls := .type (itN c2), data := .fields #[.ref l2, .int 0 0] }
abbrev zC (h : Heap) (l1 l2 : Addr) (c1 c2 : Bool) : Heap := (zB h l1 l2 c1 c2).push { cls := .type "tuple", data := .seq #[.ref h.objs.size, .ref (zA h l1 c1).objs.size] }
abbrev zD (h : Heap) (l1 l2 : Addr) (c1 c2 : Bool) : Heap := (zC h l1 l2 c1 c2).push { cls := .type "tuple", data := .seq #[.none, .none] }
abbrev zE (h : Heap) (l1 l2 : Addr) (c1 c2 : Bool) : Heap := (zD h l1 l2 c1 c2).push { cls := .type "zip", data := .fields #[.none, .bool false, .bool false, .ref (zB h l1 l2 c1 c2).objs.size, .ref (zC h l1 l2 c1 c2).objs.size] }
set_option maxHeartbeats 8000000 in
theorem zipNew (l1 l2 : Addr) (xs ys : Array Value) (c1 c2 : Bool) :
    Meets (Builtin.«zip.__new__» ⟨[.type "zip", .ref l1, .ref l2], []⟩) (fun _ R s => SqK s.heap l1 xs c1 ∧ SqK s.heap l2 ys c2 ∧ R (.ok (.ret (.ref (zD s.heap l1 l2 c1 c2).objs.size))) { s with heap := zE s.heap l1 l2 c1 c2 }) :=
  .of_wp fun prog w A R s h => by
    obtain ⟨hp, g, d, tk, os⟩ := s; obtain ⟨q1, q2, h⟩ := h
    have hsub := sub_zip
    have L2' : SqK (Shared.heap ⟨zA hp l1 c1, g, d, tk, os⟩) l2 ys c2 := SqK.at q2 fun o e => Heap.get?_push_of_some _ e
    cases c1 <;> cases c2
    · have g1 : Heap.IsTuple (Shared.heap ⟨hp, g, d, tk, os⟩) l1 xs := q1
      have g2 : Heap.IsTuple (Shared.heap ⟨hp.push { cls := .type "tuple_iterator", data := .fields #[.ref l1, .int 0 0] }, g, d, tk, os⟩) l2 ys := L2'
      wp_walk using wpAny_pyIter_tuple g1, wpAny_pyIter_tuple g2
      exact ⟨_, rfl, h⟩
    · have g1 : Heap.IsTuple (Shared.heap ⟨hp, g, d, tk, os⟩) l1 xs := q1
      have g2 : Heap.IsList (Shared.heap ⟨hp.push { cls := .type "tuple_iterator", data := .fields #[.ref l1, .int 0 0] }, g, d, tk, os⟩) l2 ys := L2'
      wp_walk using wpAny_pyIter_tuple g1, wpAny_pyIter_list g2
      exact ⟨_, rfl, h⟩
    · have g1 : Heap.IsList (Shared.heap ⟨hp, g, d, tk, os⟩) l1 xs := q1
      have g2 : Heap.IsTuple (Shared.heap ⟨hp.push { cls := .type "list_iterator", data := .fields #[.ref l1, .int 0 0] }, g, d, tk, os⟩) l2 ys := L2'
      wp_walk using wpAny_pyIter_list g1, wpAny_pyIter_tuple g2
      exact ⟨_, rfl, h⟩
    · have g1 : Heap.IsList (Shared.heap ⟨hp, g, d, tk, os⟩) l1 xs := q1
      have g2 : Heap.IsList (Shared.heap ⟨hp.push { cls := .type "list_iterator", data := .fields #[.ref l1, .int 0 0] }, g, d, tk, os⟩) l2 ys := L2'
      wp_walk using wpAny_pyIter_list g1, wpAny_pyIter_list g2
      exact ⟨_, rfl, h⟩
theorem itK_new {h : Heap} {it l : Addr} : ∀ {c : Bool}, h.get? it = some { cls := .type (itN c), data := .fields #[.ref l, .int 0 0] } → ItK h it l 0 c
  | true, e => ⟨_, e, rfl, rfl⟩
  | false, e => ⟨_, e, rfl, rfl⟩
section
variable {prog : Program} {w : World} {A : Around} {E : Value → Shared → Prop} {s : Shared}
theorem call_zipK {l1 l2 : Addr} {xs ys : Array Value} {c1 c2 : Bool} {Q : Value → Shared → Prop} (q1 : SqK s.heap l1 xs c1) (q2 : SqK s.heap l2 ys c2)
    (h : ∀ h', IsZip h' (s.heap.objs.size + 4) (s.heap.objs.size + 2) (s.heap.objs.size + 3) .none → IsPair h' (s.heap.objs.size + 2) (.ref s.heap.objs.size) (.ref (s.heap.objs.size + 1)) →
      IsPair h' (s.heap.objs.size + 3) .none .none → ItK h' s.heap.objs.size l1 0 c1 → ItK h' (s.heap.objs.size + 1) l2 0 c2 →
      (∀ c o, s.heap.get? c = some o → h'.get? c = some o) → Q (.ref (s.heap.objs.size + 4)) { s with heap := h' }) :
    wpAny (model prog w) A (call (.type "zip") [.ref l1, .ref l2]) Q E s := by
  refine callType_new F.called_zip (by decide) (F.typeCall_zip_2 _ _) (F.newCall_zip_2 _ _) (fun obj => F.args_object_init_3 obj _ _) F.entry_zip_new (zipNew l1 l2 xs ys c1 c2) ⟨q1, q2, ?_⟩
  have s1 : (zA s.heap l1 c1).objs.size = s.heap.objs.size + 1 := Heap.size_push ..
  have s2 : (zB s.heap l1 l2 c1 c2).objs.size = s.heap.objs.size + 2 := by rw [Heap.size_push, s1]
  have s3 : (zC s.heap l1 l2 c1 c2).objs.size = s.heap.objs.size + 3 := by rw [Heap.size_push, s2]
  have s4 : (zD s.heap l1 l2 c1 c2).objs.size = s.heap.objs.size + 4 := by rw [Heap.size_push, s3]
  have g5 : (zE s.heap l1 l2 c1 c2).get? (zD s.heap l1 l2 c1 c2).objs.size = some _ := Heap.get?_push_size _ rfl
  have g4 : (zE s.heap l1 l2 c1 c2).get? (zC s.heap l1 l2 c1 c2).objs.size = some _ := Heap.get?_push_of_some _ (Heap.get?_push_size _ rfl)
  have g3 : (zE s.heap l1 l2 c1 c2).get? (zB s.heap l1 l2 c1 c2).objs.size = some _ := Heap.get?_push_of_some _ (Heap.get?_push_of_some _ (Heap.get?_push_size _ rfl))
  have g2 : (zE s.heap l1 l2 c1 c2).get? (zA s.heap l1 c1).objs.size = some _ := Heap.get?_push_of_some _ (Heap.get?_push_of_some _ (Heap.get?_push_of_some _ (Heap.get?_push_size _ rfl)))
  have g1 : (zE s.heap l1 l2 c1 c2).get? s.heap.objs.size = some _ := Heap.get?_push_of_some _ (Heap.get?_push_of_some _ (Heap.get?_push_of_some _ (Heap.get?_push_of_some _ (Heap.get?_push_size _ rfl))))
  show _ ∧ _
  rw [s2, s3, s4] at g5
  rw [s1, s2] at g3
  rw [s3] at g4
  rw [s1] at g2
  rw [s4]
  exact ⟨⟨_, g5, rfl⟩, h _ g5 g3 g4 (itK_new g1) (itK_new g2) fun c o x => Heap.get?_push_of_some _ (Heap.get?_push_of_some _ (Heap.get?_push_of_some _ (Heap.get?_push_of_some _ (Heap.get?_push_of_some _ x))))⟩
theorem pyNext_zipItem {z TI TO i1 i2 l1 l2 : Addr} {k : Nat} {xs ys : Array Value} {a b x y : Value} {c1 c2 : Bool} {Q : Option Value → Shared → Prop} (D : Apart5 z TI TO i1 i2) (n1 : ∀ c, c = l1 ∨ c = l2 → c ≠ z ∧ c ≠ TO ∧ c ≠ i1 ∧ c ≠ i2)
    (hz : IsZip s.heap z TI TO .none) (hTI : IsPair s.heap TI (.ref i1) (.ref i2)) (hTO : IsPair s.heap TO a b) (hh : A.handled = none)
    (h1 : ItK s.heap i1 l1 k c1) (h2 : ItK s.heap i2 l2 k c2) (q1 : SqK s.heap l1 xs c1) (q2 : SqK s.heap l2 ys c2) (hx : xs[k]? = some x) (hy : ys[k]? = some y)
    (hQ : ∀ h' tk, IsZip h' z TI TO (rawInt s.heap.objs.size) → IsPair h' TO x y → ItK h' i1 l1 (k + 1) c1 → ItK h' i2 l2 (k + 1) c2 → IsPair h' s.heap.objs.size x y → h'.objs.size = s.heap.objs.size + 1 →
      (∀ c o, c ≠ z → c ≠ TO → c ≠ i1 → c ≠ i2 → s.heap.get? c = some o → h'.get? c = some o) → Q (some (.ref s.heap.objs.size)) { s with heap := h', toks := tk }) :
    wpAny (model prog w) A (pyNext (.ref z)) Q E s := by
  have hT : s.TypeIs (.ref z) "zip" := ⟨_, hz, rfl⟩
  unfold pyNext
  exact wpAny_bind (wpAny_attempt (wpAny_callSpecial?_slot (name := Str.ofString "__next__") hT F.slot_zip_next (wpAny_call_entry F.slot_zip_next hT F.entry_zip_next
    (zipItem D n1 hz hTI hTO hh h1 h2 q1 q2 hx hy fun h' tk a1 a2 a3 a4 a5 a6 a7 => wpAny_pure (hQ h' tk a1 a2 a3 a4 a5 a6 a7)) (F.args_zip_next_1 _))))
theorem pyNext_zipEnd {z TI TO i1 i2 l1 l2 : Addr} {k : Nat} {xs ys : Array Value} {a b : Value} {c1 c2 : Bool} {Q : Option Value → Shared → Prop} (hh : A.handled = none) (D : Apart5 z TI TO i1 i2) (n1 : ∀ c, c = l1 ∨ c = l2 → c ≠ z ∧ c ≠ TO ∧ c ≠ i1 ∧ c ≠ i2)
    (hz : IsZip s.heap z TI TO .none) (hTI : IsPair s.heap TI (.ref i1) (.ref i2)) (hTO : IsPair s.heap TO a b)
    (h1 : ItK s.heap i1 l1 k c1) (h2 : ItK s.heap i2 l2 k c2) (q1 : SqK s.heap l1 xs c1) (q2 : SqK s.heap l2 ys c2) (hend : xs.size = k ∨ (k < xs.size ∧ ys.size = k))
    (hQ : ∀ h' tk, (∀ c o, c ≠ z → c ≠ TO → c ≠ i1 → c ≠ i2 → s.heap.get? c = some o → h'.get? c = some o) → Q none { s with heap := h', toks := tk }) : wpAny (model prog w) A (pyNext (.ref z)) Q E s := by
  have hT : s.TypeIs (.ref z) "zip" := ⟨_, hz, rfl⟩
  unfold pyNext
  refine wpAny_bind (wpAny_attempt (wpAny_callSpecial?_slot (name := Str.ofString "__next__") hT F.slot_zip_next (wpAny_call_entry F.slot_zip_next hT F.entry_zip_next
    (zipEnd hh D n1 hz hTI hTO h1 h2 q1 q2 hend fun h' e tk hk he => ?_) (F.args_zip_next_1 _))))
  obtain ⟨o, ho, hc⟩ := he
  refine wpAny_bind (wpAny_isInstance (T := "StopIteration") (b := true) ⟨o, ho, hc⟩ isSubtype_stop (wpAny_pure (hQ _ tk hk)))
end
theorem Inv.turnedL {X : Cx} {pins : List (Addr × Obj)} {σ : St} {H : Hp} {s : Shared} {h' : Heap} {t' : Nat} {ch : List Addr} (I : Inv X pins σ H s) (hf : ∀ b ∈ ch, FpOk X pins H b) (k : ∀ b u, b ∉ ch → s.heap.get? b = some u → h'.get? b = some u) :
    Inv X pins σ H { s with heap := h', toks := t' } := by
  refine I.step (g' := s.gens) (d' := s.drawn) (ch := ch) (fun b hb => ?_) (fun b o _ _ hc e _ => k b o hc e) (fun b o _ _ hc e _ => ⟨o.slots, k b o hc e⟩) (fun _ _ _ _ n => n)
    (fun b o hc e => ⟨o, k b o hc e⟩) (fun _ _ e => e) (fun _ _ _ e => e) (fun b ps e => ⟨#[], by rw [e]; simp⟩) (fun m hm => ?_) (fun b u e => ?_) I.bare
  · obtain ⟨f0, f1, f2, f3, f4, f5⟩ := hf b hb
    exact ⟨f3, f1, f4, f5⟩
  · obtain ⟨o, es, ep, ho, r⟩ := hm
    exact ⟨o, es, ep, k _ o (fun z => (hf _ z).2.1 rfl) ho, r⟩
  · refine (I.hok b u e).stay (fun c v hc q => k c v (fun z => ?_) q) (fun _ q => q) fun _ _ q => q
    have hcn := (hf c z).1
    rcases hc with rfl | hc
    · rw [e] at hcn; cases hcn
    · rw [hc] at hcn; cases hcn
def SqC (K : PySem.W.Frag) (H : Hp) (a : Addr) (xs : List V) : Bool → Prop
  | true => SqL K H a xs
  | false => SqT K H a xs
theorem Inv.seqC {X : Cx} {pins : List (Addr × Obj)} {σ : St} {H : Hp} {s : Shared} {a : Addr} {xs : List V} (I : Inv X pins σ H s) : ∀ {c : Bool}, SqC X.K H a xs c → ∃ its : List Value, Vals xs its ∧ SqK s.heap a its.toArray c
  | true, q => let ⟨its, rv, p, _⟩ := I.list q; ⟨its, rv, p.isList⟩
  | false, q => let ⟨its, rv, p, _⟩ := I.tuple q; ⟨its, rv, p⟩
theorem Inv.seqC_inj {X : Cx} {pins : List (Addr × Obj)} {σ : St} {H : Hp} {s : Shared} {a : Addr} {xs ys : List V} (I : Inv X pins σ H s) : ∀ {c : Bool}, SqC X.K H a xs c → SqC X.K H a ys c → xs = ys
  | true, p, q => I.list_inj p q
  | false, p, q => I.tuple_inj p q
def Itz (K : PySem.W.Frag) (a1 a2 : Addr) (c1 c2 : Bool) : It :=
  ⟨fun i H => Ex4 fun xs ys x y => SqC K H a1 xs c1 ∧ SqC K H a2 ys c2 ∧ xs[i]? = some x ∧ ys[i]? = some y,
   fun i H v H' => Ex3 fun T x y => H T = none ∧ v = .ref T ∧ H' = upd H T (.tup [x, y]) ∧ (∀ xs, SqC K H a1 xs c1 → xs[i]? = some x) ∧ (∀ ys, SqC K H a2 ys c2 → ys[i]? = some y),
   fun i H => Ex2 fun xs ys => SqC K H a1 xs c1 ∧ SqC K H a2 ys c2 ∧ (xs.length = i ∨ (i < xs.length ∧ ys.length = i))⟩
theorem turn_zip {P : Program} {w : World} {K : PySem.W.Frag} {es : List Expr} {kk : Nat} {pos : Pos} (a1 a2 z TI TO i1 i2 : Addr) (c1 c2 : Bool) (D : Apart5 z TI TO i1 i2) (n1 : ∀ c, c = a1 ∨ c = a2 → c ≠ z ∧ c ≠ TO ∧ c ≠ i1 ∧ c ≠ i2) :
    Turn P w K (.Tuple es kk pos) (Itz K a1 a2 c1 c2) [z, TO, i1, i2, TI] z (fun i h => IsZip h z TI TO .none ∧ IsPair h TI (.ref i1) (.ref i2) ∧ (Ex2 fun a b => IsPair h TO a b) ∧ ItK h i1 a1 i c1 ∧ ItK h i2 a2 i c2) where
  mem := by simp
  obj := fun i h st b hb => by
    obtain ⟨hz, hTI, ⟨a, b', hTO⟩, h1, h2⟩ := st
    have hb' : b = z ∨ b = TO ∨ b = i1 ∨ b = i2 ∨ b = TI := by simpa using hb
    rcases hb' with rfl | rfl | rfl | rfl | rfl
    · exact ⟨_, hz, fun v q => by have q' : Data.fields _ = Data.cell v := q; cases q'⟩
    · exact ⟨_, hTO, fun v q => by have q' : Data.seq _ _ = Data.cell v := q; cases q'⟩
    · exact h1.some
    · exact h2.some
    · exact ⟨_, hTI, fun v q => by have q' : Data.seq _ _ = Data.cell v := q; cases q'⟩
  keep := fun i h h' st k => by
    obtain ⟨hz, hTI, ⟨a, b', hTO⟩, h1, h2⟩ := st
    exact ⟨k z (by simp) _ hz, k TI (by simp) _ hTI, ⟨a, b', k TO (by simp) _ hTO⟩, h1.at fun o q => k i1 (by simp) o q, h2.at fun o q => k i2 (by simp) o q⟩
  item := by
    intro X hP hw hK hc i pins s σ H E I hf st hg
    subst hP hw hK
    obtain ⟨hz, hTI, ⟨a, b', hTO⟩, h1, h2⟩ := st
    obtain ⟨xs, ys, x, y, p1, p2, hx, hy⟩ := hg
    obtain ⟨its1, rv1, k1⟩ := I.seqC p1
    obtain ⟨its2, rv2, k2⟩ := I.seqC p2
    obtain ⟨u, hu, ru⟩ := rv1.get hx
    obtain ⟨v, hv, rw'⟩ := rv2.get hy
    have hnT : H s.heap.objs.size = none := I.fresh
    refine pyNext_zipItem D n1 hz hTI hTO (I.ok.hd hc) h1 h2 k1 k2 (x := u) (y := v) (by simpa using hu) (by simpa using hv) fun h' tk zo TO' t1 t2 T' sz keep => ?_
    refine ⟨_, rfl, wpAny_letOwnedTupleGo_zip (s := { s with heap := h', toks := tk }) zo fun h2' z2 s2 => ?_⟩
    have zlt : z < s.heap.objs.size := Heap.lt_size hz
    have TOlt : TO < s.heap.objs.size := Heap.lt_size hTO
    have TIlt : TI < s.heap.objs.size := Heap.lt_size hTI
    have i1lt : i1 < s.heap.objs.size := let ⟨_, e, _⟩ := h1.some; Heap.lt_size e
    have i2lt : i2 < s.heap.objs.size := let ⟨_, e, _⟩ := h2.some; Heap.lt_size e
    have hT2 : h2'.get? s.heap.objs.size = some { cls := .type "tuple", data := .seq #[u, v] } := (s2.2 _ (Nat.ne_of_gt zlt)).trans T'
    refine ⟨.ref s.heap.objs.size, upd H s.heap.objs.size (.tup [x, y]), I.turnedNew (ch := [z, TO, i1, i2, TI]) (t' := tk) hf (fun b o hb q => ?_) (Nat.le_refl _) ?_, rfl,
      ⟨_, x, y, hnT, rfl, rfl, fun zs hs => by rw [I.seqC_inj hs p1]; exact hx, fun zs hs => by rw [I.seqC_inj hs p2]; exact hy⟩, ⟨z2, (s2.2 _ D.a1).trans (keep _ _ D.a1 D.a5 D.a6 D.a7 hTI), ⟨_, _, (s2.2 _ D.a2).trans TO'⟩, t1.at fun o e => (s2.2 _ D.a3).trans e, t2.at fun o e => (s2.2 _ D.a4).trans e⟩, fun b hb => ?_⟩
    · have e1 : b ≠ z := fun q => hb (by simp [q])
      have e2 : b ≠ TO := fun q => hb (by simp [q])
      have e3 : b ≠ i1 := fun q => hb (by simp [q])
      have e4 : b ≠ i2 := fun q => hb (by simp [q])
      exact (s2.2 b e1).trans (keep b o e1 e2 e3 e4 q)
    · exact ⟨by show 2 ≤ sizeLine; decide, [u, v], .cons ru (.cons rw' .nil), ⟨_, hT2, rfl, _, rfl⟩, _, hT2, rfl⟩
    · have hb' : b = z ∨ b = TO ∨ b = i1 ∨ b = i2 ∨ b = TI := by simpa using hb
      have hlt : b < s.heap.objs.size := by rcases hb' with rfl | rfl | rfl | rfl | rfl <;> assumption
      rw [upd_ne (Nat.ne_of_lt hlt)]
      exact (hf b hb).1
  done := by
    intro X hP hw hK hc i pins s σ H E I hf st hg
    subst hP hw hK
    obtain ⟨hz, hTI, ⟨a, b', hTO⟩, h1, h2⟩ := st
    obtain ⟨xs, ys, p1, p2, hl⟩ := hg
    obtain ⟨its1, rv1, k1⟩ := I.seqC p1
    obtain ⟨its2, rv2, k2⟩ := I.seqC p2
    have l1 := rv1.length
    have l2 := rv2.length
    refine pyNext_zipEnd (I.ok.hd hc) D n1 hz hTI hTO h1 h2 k1 k2 (by simp; trivial) fun h' tk keep => ⟨rfl, I.turnedL (ch := [z, TO, i1, i2, TI]) (t' := tk) hf fun b o hb q => ?_⟩
    exact keep b o (fun q => hb (by simp [q])) (fun q => hb (by simp [q])) (fun q => hb (by simp [q])) (fun q => hb (by simp [q])) q
  self := fun _ _ _ _ _ st h => wpAny_pyIter_zip st.1 h
def iZip (K : PySem.W.Frag) (ta : TA) : TI := fun σ H R => ta σ H fun vs H1 => Ex4 fun a1 a2 c1 c2 => vs = [.ref a1, .ref a2] ∧ (∃ xs, SqC K H1 a1 xs c1) ∧ (∃ ys, SqC K H1 a2 ys c2) ∧ R (Itz K a1 a2 c1 c2) H1
theorem boot_zip : bootBuiltins "zip" = some (.type "zip") := by decide +kernel
theorem pi_zip {X : Cx} {es : List Expr} {kk : Nat} {tp : Pos} {a b : Expr} {ta : TA} {p pos : Pos} (hg : Gl X "zip") (hm : X.mg "zip" = none) (ha : PA X [a, b] ta) (hs : starEach [a, b] X.env = [(false, eval a X.env), (false, eval b X.env)] := by rfl) (hs2 : starEach [b] X.env = [(false, eval b X.env)] := by rfl) :
    PI X (.Tuple es kk tp) (.Call (.Name "zip" p) [a, b] [] pos) (iZip X.K ta) := by
  intro pins s σ H R I h
  refine Call_ (ld_blt I hg hm boot_zip (PyProof.Rows.callWith_type1 (thn (ha pos pins s σ H _ I h) fun us s1 ⟨vs, H1, I1, r1, q1⟩ => ?_) (by rw [hs, hs2]) (by rw [hs2]; rfl)))
  obtain ⟨a1, a2, c1, c2, rfl, ⟨xs, p1⟩, ⟨ys, p2⟩, q⟩ := q1
  obtain ⟨u1, u2, rfl, ru1, ru2⟩ := r1.two
  obtain rfl : u1 = .ref a1 := ru1
  obtain rfl : u2 = .ref a2 := ru2
  obtain ⟨its1, rv1, k1⟩ := I1.seqC p1
  obtain ⟨its2, rv2, k2⟩ := I1.seqC p2
  have d1 := k1.lt
  have d2 := k2.lt
  refine call_zipK k1 k2 fun h' hz hTI hTO t1 t2 hk => wpAny_pyIter_zip hz ?_
  have I2 : Inv X pins σ H1 { s1 with heap := h', toks := s1.toks } := I1.kept hk
  refine ⟨s1.heap.objs.size + 4, [s1.heap.objs.size + 4, s1.heap.objs.size + 3, s1.heap.objs.size, s1.heap.objs.size + 1, s1.heap.objs.size + 2], _, _, H1, rfl, I2, turn_zip a1 a2 (s1.heap.objs.size + 4) (s1.heap.objs.size + 2) (s1.heap.objs.size + 3) s1.heap.objs.size (s1.heap.objs.size + 1) c1 c2
    ⟨by simp, by simp, Nat.ne_of_lt (by simp), by simp, by simp, Nat.ne_of_gt (by simp), by simp, Nat.ne_of_gt (by simp), by simp, Nat.ne_of_lt (by simp)⟩ (fun c hc => ?_), ⟨hz, hTI, ⟨_, _, hTO⟩, t1, t2⟩, fun b hb => ?_, q⟩
  · have : c < s1.heap.objs.size := by rcases hc with rfl | rfl <;> assumption
    exact ⟨Nat.ne_of_lt (Nat.lt_of_lt_of_le this (Nat.le_add_right _ _)), Nat.ne_of_lt (Nat.lt_of_lt_of_le this (Nat.le_add_right _ _)), Nat.ne_of_lt this, Nat.ne_of_lt (Nat.lt_of_lt_of_le this (Nat.le_add_right _ _))⟩
  · have hb' : b = s1.heap.objs.size + 4 ∨ b = s1.heap.objs.size + 3 ∨ b = s1.heap.objs.size ∨ b = s1.heap.objs.size + 1 ∨ b = s1.heap.objs.size + 2 := by simpa using hb
    have hle : s1.heap.objs.size ≤ b := by rcases hb' with rfl | rfl | rfl | rfl | rfl <;> trivial
    exact I1.fpOk hle (I1.hok.fresh hle)
end L2
namespace L2
open PySem PySem.Spec PyProof.Rows
def isSeqB : PyData → Bool
  | .list _ => true
  | .tuple _ => true
  | _ => false
theorem kitAny_seq {K : PySem.W.Frag} (d : PyData) : PySem.W.kitAny K (.type (tyN d)) [.type "list", .type "tuple"] = some (isSeqB d) := by
  unfold PySem.W.kitAny PySem.W.kitAny PySem.W.kitAny
  rw [kit_list, kit_tuple]
  cases d <;> rfl
inductive rIsiT_ (K : PySem.W.Frag) (xs : List V) (H : Hp) (Q : VK) : Prop
  | mk (x : V) (p : Addr) (d : PyData) (E : Addr → Prop) (h0 : xs = [x, .ref p]) (h1 : IsD E H x d) (h2 : SqT K H p [.ty "list", .ty "tuple"]) (h3 : Q (.bl (isSeqB d)) H)
def rIsiT (K : PySem.W.Frag) : List V → Hp → VK → Prop := fun xs H Q => rIsiT_ K xs H Q
section
variable {X : Cx} {K : PySem.W.Frag}
theorem call_isinstT : CallR X (.builtin "isinstance") (rIsiT X.K) := by
  intro pins s σ H xs us Q I r h
  obtain ⟨x, p, d, E, rfl, hx, hp, q⟩ := h
  obtain ⟨u, c, rfl, ru, rc⟩ := r.two
  obtain rfl : c = Value.ref p := rc
  obtain ⟨its, rv, ⟨o, e1, e2, n, e3⟩, _⟩ := I.tuple hp
  obtain ⟨u1, u2, rfl, r1, r2⟩ := rv.two
  obtain rfl : u1 = Value.type "list" := r1
  obtain rfl : u2 = Value.type "tuple" := r2
  have q' : ∀ tk, EP X pins σ Q (.bool (isSeqB d)) { s with toks := tk } := fun tk => ⟨.bl _, H, I.tok tk, rfl, q⟩
  obtain ⟨oc, od, odt, osl⟩ := o
  dsimp only at e2 e3
  subst e2 e3
  cases hx with
  | non => cases (show u = Value.none from ru); exact PySem.W.kia_tup PySem.W.kitx_none I.kIn True.intro e1 (kitAny_seq .none) (fun z => nomatch z) q'
  | bl y => cases (show u = Value.bool y from ru); exact PySem.W.kia_tup PySem.W.kitx_bool I.kIn True.intro e1 (kitAny_seq (.bool y)) (fun z => nomatch z) q'
  | int i => obtain ⟨t, w⟩ := (show ∃ t, u = Value.int i t from ru); cases w; exact PySem.W.kia_tup PySem.W.kitx_int I.kIn True.intro e1 (kitAny_seq (.int i)) (fun z => nomatch z) q'
  | str y => obtain ⟨t, w⟩ := (show ∃ t, u = Value.str y t from ru); cases w; exact PySem.W.kia_tup PySem.W.kitx_str I.kIn True.intro e1 (kitAny_seq (.str y)) (fun z => nomatch z) q'
  | @lst a xs ds ea _ _ =>
    cases (show u = Value.ref a from ru)
    obtain ⟨_, _, m, _, h1⟩ := (show ObjOk X.prog X.w H s.heap a (.lst xs) from I.hok a _ ea)
    exact PySem.W.kia_tup PySem.W.kitx_list I.kIn ⟨_, h1, rfl⟩ e1 (kitAny_seq (.list ds)) (fun z => nomatch z) q'
  | @tup a xs ds ea _ =>
    cases (show u = Value.ref a from ru)
    obtain ⟨_, _, _, p, _⟩ := (show ObjOk X.prog X.w H s.heap a (.tup xs) from I.hok a _ ea)
    obtain ⟨o, h1, h2, _⟩ := p
    exact PySem.W.kia_tup PySem.W.kitx_tuple I.kIn ⟨o, h1, h2⟩ e1 (kitAny_seq (.tuple ds)) (fun z => nomatch z) q'
theorem isinstT_k (e : X.K = K := by rfl) : CallR X (.builtin "isinstance") (rIsiT K) := by subst e; exact call_isinstT
end
def Sz (m : Nat) (i : Int) : Prop := i.natAbs < 2 ^ m
theorem Sz.mono {m n : Nat} {i : Int} (h : Sz m i) (k : m ≤ n) : Sz n i := Nat.lt_of_lt_of_le h (Nat.pow_le_pow_right (by decide) k)
theorem Sz.mul {m n : Nat} {i j : Int} (h : Sz m i) (k : Sz n j) : Sz (m + n) (i * j) := by
  unfold Sz at *
  rw [Int.natAbs_mul, Nat.pow_add]
  exact Nat.mul_lt_mul'' h k
theorem Sz.add {m : Nat} {i j : Int} (h : Sz m i) (k : Sz m j) : Sz (m + 1) (i + j) := by
  unfold Sz at *
  rw [Nat.pow_succ]
  trivial
theorem Sz.sub {m : Nat} {i j : Int} (h : Sz m i) (k : Sz m j) : Sz (m + 1) (i - j) := by
  unfold Sz at *
  rw [Nat.pow_succ]
  trivial
theorem Sz.neg {m : Nat} {i : Int} (h : Sz m i) : Sz m (-i) := by
  unfold Sz at *
  trivial
theorem Sz.le {m : Nat} {i j : Int} (h : Sz m j) (k : i.natAbs ≤ j.natAbs) : Sz m i := Nat.lt_of_le_of_lt k h
theorem Sz.log {m : Nat} {i : Int} (h : Sz m i) (h0 : i ≠ 0) : i.natAbs.log2 < m := (Nat.log2_lt (by trivial)).mpr h
theorem Sz.bits {m : Nat} {i : Int} (h : Sz m i) : Builtin.Int.intBits i ≤ m := by
  unfold Builtin.Int.intBits
  by_cases h0 : i = 0
  · subst h0; exact Nat.zero_le _
  · have := h.log h0
    rw [if_neg (by simpa using h0)]
    trivial
def CMulB (i j : Int) : Prop := Ex2 fun m n => Sz m i ∧ Sz n j ∧ m + n ≤ 134217728
section
variable {X : Cx}
theorem op_mulB : OpR X (binaryOp .Mult) (rI CMulB fun i j => .int (i * j)) := opI fun _ _ _ _ _ _ _ hc q => by
  obtain ⟨m, n, h1, h2, h3⟩ := hc
  exact mul_int q (PyProof.Rows.mulOk_of_bits h1.bits h2.bits h3)
def CDivS (_ j : Int) : Prop := j ≠ 0 ∧ Sz 9000 j
theorem op_fdivS : OpR X (binaryOp .FloorDiv) (rI CDivS fun i j => .int (i.fdiv j)) := opI fun i j _ _ _ _ _ hc q =>
  floordiv_int hc.1 q (.inl (PyProof.noPylong_of_log2 (hc.2.log hc.1)))
end
end L2
namespace L2
open PySem PySem.Spec PyProof.Rows
def Dp : Nat → PyData → Prop
  | 0, _ => False
  | n + 1, .list xs => xs.length ≤ 1000 ∧ ∀ x ∈ xs, Dp n x
  | n + 1, .tuple xs => xs.length ≤ 1000 ∧ ∀ x ∈ xs, Dp n x
  | _ + 1, _ => True
inductive spLike_ (n : Nat) (vs : List V) (H : Hp) (Q : VK) : Prop
  | mk (x y : V) (d : PyData) (E : Addr → Prop) (h0 : vs = [x, y]) (h1 : IsD E H x d) (h2 : IsD E H y d) (h3 : Dp n d) (h4 : ∀ H', Same H H' → Q (.bl true) H')
def spLike (n : Nat) : Sp := fun vs H Q _ => spLike_ n vs H Q
theorem same_lst {H H' : Hp} {D : Addr} {o : HO} (hD : H D = none) (k : Same H H') : Same H (upd H' D o) := fun b u e => by
  rw [upd_ne (ne_of_none e hD)]; exact k b u e
theorem IsAll.nth {E : Addr → Prop} {H : Hp} {vs : List V} {ds : List PyData} (r : IsAll E H vs ds) (i : Nat) {v : V} {d : PyData} (hv : vs[i]? = some v) (hd : ds[i]? = some d) : IsD E H v d := by
  obtain ⟨d', e, h⟩ := r.get hv
  rw [hd] at e
  cases e
  exact h
theorem SameE.weak {E : Addr → Prop} {b : Addr} {H H' : Hp} (hE : E b) (s : SameE (Eb b) H H') : SameE E H H' := ⟨fun a o n h => s.old a o (fun z => n (by rw [z]; exact hE)) h, s.tup⟩
theorem SameE.free {b p : Addr} {H H9 : Hp} {t9 : Int} (s : SameE (Eb b) H H9) (B : Bx H9 b t9) (h : H9 p = none) : H p = none := by
  cases e : H p with
  | none => rfl
  | some o =>
    by_cases hb : p = b
    · obtain ⟨c, x, eb, _⟩ := B
      rw [← hb, h] at eb; cases eb
    · rw [s.old p o hb e] at h; cases h
mutual
theorem IsD.narrow {E F : Addr → Prop} {H : Hp} (k : ∀ a, F a → E a) : ∀ {v : V} {d : PyData}, IsD E H v d → IsD F H v d
  | _, _, .non => .non
  | _, _, .bl b => .bl b
  | _, _, .int i => .int i
  | _, _, .str x => .str x
  | _, _, .lst h ne r => .lst h (fun z => ne (k _ z)) (IsAll.narrow k r)
  | _, _, .tup h r => .tup h (IsAll.narrow k r)
theorem IsAll.narrow {E F : Addr → Prop} {H : Hp} (k : ∀ a, F a → E a) : ∀ {vs : List V} {ds : List PyData}, IsAll E H vs ds → IsAll F H vs ds
  | _, _, .nil => .nil
  | _, _, .cons h r => .cons (IsD.narrow k h) (IsAll.narrow k r)
end
theorem ok_same {Q : VK} {H : Hp} {x : V} (h : Q (.bl true) H) : Q (.bl (decide (x = x))) H := by rw [decide_eq_true rfl]; exact h
theorem all_rep (n : Nat) : (List.replicate n true).all id = true := by
  induction n with
  | zero => rfl
  | succ n ih => rw [List.replicate_succ, List.all_cons, ih]; rfl
theorem rep_snoc (n : Nat) : (List.replicate n true).map V.bl ++ [V.bl true] = (List.replicate (n + 1) true).map V.bl := by
  rw [List.replicate_succ', List.map_append]; rfl
def LikeP (H1 : Hp) (D : Addr) (i : Nat) (H' : Hp) (ys : List V) : Prop := ys = (List.replicate i true).map V.bl ∧ H' D = some (.lst ys) ∧ Same H1 H'
theorem iteSame {x : V} {A B : Prop} (h : B) : if (!decide (x = x)) = true then A else B := by rw [decide_eq_true rfl]; exact iteF h
theorem iteEq {x : V} {A B : Prop} (h : A) : if decide (x = x) = true then A else B := by rw [decide_eq_true rfl]; exact iteT h
end L2
namespace L2
open PySem PySem.Spec PyProof.Rows
abbrev fr (z : Int × Int) : HO := .tup [.int z.1, .int z.2]
abbrev nTak (n1 d1 n2 d2 : Int) : Int := n1 * d2 - n2 * d1
abbrev nTim (n1 _ n2 _ : Int) : Int := n1 * n2
abbrev nOvr (n1 _ _ d2 : Int) : Int := n1 * d2
abbrev dAdd (_ d1 _ d2 : Int) : Int := d1 * d2
abbrev dOvr (_ d1 n2 _ : Int) : Int := d1 * n2
def cmpI (i j : Int) : Int := if i < j then -1 else if j < i then 1 else 0
inductive spCmp_ (vs : List V) (H : Hp) (Q : VK) : Prop
  | mk (a b : Addr) (n1 d1 n2 d2 : Int) (h0 : vs = [.ref a, .ref b]) (h1 : H a = some (.tup [.int n1, .int d1])) (h2 : H b = some (.tup [.int n2, .int d2])) (h3 : Sz 4000 n1) (h4 : Sz 4000 d1) (h5 : Sz 4000 n2) (h6 : Sz 4000 d2) (h7 : Q (.int (cmpI (n1 * d2) (n2 * d1))) H)
def spCmp : Sp := fun vs H Q _ => spCmp_  vs H Q
theorem mulS {i j : Int} (h1 : Sz 4000 i) (h2 : Sz 4000 j) : CMulB i j := ⟨4000, 4000, h1, h2, by decide⟩
theorem mulS9 {i j : Int} (h1 : Sz 4000 i) (h2 : Sz 4000 j) : Sz 9000 (i * j) := (h1.mul h2).mono (by decide)
theorem gcdS {n d : Int} (hd : d ≠ 0) (h : Sz 9000 d) : Sz 9000 ((Int.gcd n d : Nat) : Int) := h.le (by
  rw [Int.natAbs_natCast]
  exact Nat.le_of_dvd (by trivial) (Int.ofNat_dvd_left.mp (Int.gcd_dvd_right ..)))
structure Fb (b : Nat) (n d : Int) : Prop where
  sn : Sz b n
  sd : Sz b d
  pos : 1 ≤ d
  co : Int.gcd n d = 1
theorem Fb.low {b : Nat} {n d : Int} (h1 : Sz b n) (h2 : Sz b d) (hd : d ≠ 0) : Fb b (KM.low n d).1 (KM.low n d).2 := by
  obtain ⟨a, _, c, e, f⟩ := KM.low_spec n d hd
  exact ⟨h1.le e, h2.le f, a, c⟩
end L2
namespace L2
open PySem PySem.Spec PyProof.Rows
structure Nw (H : Hp) (p : Addr) (o : HO) (H' : Hp) : Prop where
  fr : H p = none
  sm : Same H H'
  at' : H' p = some o
theorem Nw.mk' {H : Hp} {p : Addr} {o : HO} (h : H p = none) : Nw H p o (upd H p o) := ⟨h, Same.new h, upd_same⟩
section
variable {X : Cx} {es : List Expr} {t : TA} {pos : Pos} {K : PySem.W.Frag}
def tTupA (t : TA) : TE := fun σ H Q => t σ H fun xs H1 => xs.length ≤ 10000 ∧ ∀ p H', Nw H1 p (.tup xs) H' → Q (.ref p) H'
def tLstA (t : TA) : TE := fun σ H Q => t σ H fun xs H1 => xs.length ≤ 10000 ∧ ∀ p H', Nw H1 p (.lst xs) H' → Q (.ref p) H'
theorem sz_of {n : Nat} (h : n ≤ 10000) : n ≤ sizeLine := by rw [sizeLine_eq]; trivial
theorem pe_tupA {x1} (h : PA X es t) : PE X (.Tuple es x1 pos) (tTupA t) := by
  intro pins s σ H Q I hq
  refine wpAny_Tuple_spliced (thn (h pos pins s σ H _ I hq) fun us s1 ⟨xs, H1, I1, r, z', q⟩ => ⟨by rw [← r.length]; exact sz_of z', ?_⟩)
  have z := sz_of z'
  have hf : H1 s1.heap.objs.size = none := I1.hok.fresh (Nat.le_refl _)
  refine ⟨.ref s1.heap.objs.size, upd H1 s1.heap.objs.size (.tup xs), I1.laid (t' := s1.toks) (fun b u e => Heap.get?_push_of_some _ e) (Nat.le_refl _) ?_, rfl, q _ _ (.mk' hf)⟩
  exact ⟨z, us, r, ⟨_, Heap.get?_push_size _ rfl, rfl, _, rfl⟩, _, Heap.get?_push_size _ rfl, rfl⟩
theorem pe_lstA (h : PA X es t) : PE X (.List es pos) (tLstA t) := by
  intro pins s σ H Q I hq
  refine wpAny_List_spliced (thn (h pos pins s σ H _ I hq) fun us s1 ⟨xs, H1, I1, r, z', q⟩ => ⟨by rw [← r.length]; exact sz_of z', ?_⟩)
  have z := sz_of z'
  have hf : H1 s1.heap.objs.size = none := I1.hok.fresh (Nat.le_refl _)
  refine ⟨.ref s1.heap.objs.size, upd H1 s1.heap.objs.size (.lst xs), I1.laid (t' := s1.toks) (fun b u e => Heap.get?_push_of_some _ e) (Nat.le_refl _) ?_, rfl, q _ _ (.mk' hf)⟩
  exact ⟨z, us, 0, r, Heap.get?_push_size _ rfl⟩
inductive rCatA_ (x : V) (y : V) (H : Hp) (Q : VK) : Prop
  | mk (l : _) (b : _) (xs : _) (zs : _) (h0 : x = .ref l) (h1 : y = .ref b) (h2 : H l = some (.lst xs)) (h3 : H b = some (.lst zs)) (h4 : xs.length + zs.length ≤ 10000) (h5 : ∀ p H', Nw H p (.lst (xs ++ zs)) H' → Q (.ref p) H')
def rCatA : R2 := fun x y H Q => rCatA_  x y H Q
theorem op_catA : OpR X (binaryOp .Add) rCatA := fun pins s σ H x y v u Q I rx ry ⟨l, b, xs, zs, e1, e2, h1, h2, hz, q⟩ =>
  op_cat pins s σ H x y v u Q I rx ry ⟨l, b, xs, zs, e1, e2, h1, h2, sz_of hz, fun p hp => q p _ (.mk' hp)⟩
inductive rSlA_ (K : PySem.W.Frag) (x : V) (lo : Option Int) (hi : Option Int) (H : Hp) (Q : VK) : Prop
  | mk (a : _) (xs : _) (h0 : x = .ref a) (h1 : SqL K H a xs) (h2 : ∀ p H', Nw H p (.lst (cutV xs lo hi)) H' → Q (.ref p) H')
def rSlA (K : PySem.W.Frag) : V → Option Int → Option Int → Hp → VK → Prop := fun x lo hi H Q => rSlA_ K x lo hi H Q
theorem sl_listA (e : X.K = K := by rfl) : SlR X (rSlA K) := by
  subst e
  exact fun pins s σ H x v vl vu lo hi sl Q I rx hs pl pu ⟨a, xs, e, h, q⟩ => sl_list pins s σ H x v vl vu lo hi sl Q I rx hs pl pu ⟨a, xs, e, h, fun p hp => q p _ (.mk' hp)⟩
inductive rRepA_ (x : V) (y : V) (H : Hp) (Q : VK) : Prop
  | mk (l : _) (k : _) (xs : _) (h0 : x = .ref l) (h1 : y = .int k) (h2 : H l = some (.lst xs)) (h3 : -(2 ^ 63) ≤ k) (h4 : k < 2 ^ 63) (h5 : xs.length * k.toNat ≤ 10000) (h6 : ∀ p H', Nw H p (.lst (List.replicate k.toNat xs).flatten) H' → Q (.ref p) H')
def rRepA : R2 := fun x y H Q => rRepA_  x y H Q
theorem op_repA : OpR X (binaryOp .Mult) rRepA := fun pins s σ H x y v u Q I rx ry ⟨l, k, xs, e1, e2, h1, h2, h3, hz, q⟩ =>
  op_rep pins s σ H x y v u Q I rx ry ⟨l, k, xs, e1, e2, h1, h2, h3, sz_of hz, fun p hp => q p _ (.mk' hp)⟩
inductive rListA_ (K : PySem.W.Frag) (xs : List V) (H : Hp) (Q : VK) : Prop
  | mk (p : _) (ys : _) (h0 : xs = [.ref p]) (h1 : (SqL K H p ys ∨ SqT K H p ys)) (h2 : ∀ l H', Nw H l (.lst ys) H' → Q (.ref l) H')
def rListA (K : PySem.W.Frag) : List V → Hp → VK → Prop := fun xs H Q => rListA_ K xs H Q
theorem call_list_ofA (e : X.K = K := by rfl) : CallR X (.type "list") (rListA K) := by
  subst e
  exact fun pins s σ H xs us Q I r ⟨p, ys, e, h, q⟩ => call_list_of pins s σ H xs us Q I r ⟨p, ys, e, h, fun l hl => q l _ (.mk' hl)⟩
inductive rTupleA_ (K : PySem.W.Frag) (xs : List V) (H : Hp) (Q : VK) : Prop
  | mk (p : _) (ys : _) (h0 : xs = [.ref p]) (h1 : SqL K H p ys) (h2 : ∀ l H', Nw H l (.tup ys) H' → Q (.ref l) H')
def rTupleA (K : PySem.W.Frag) : List V → Hp → VK → Prop := fun xs H Q => rTupleA_ K xs H Q
theorem call_tuple_ofA (e : X.K = K := by rfl) : CallR X (.type "tuple") (rTupleA K) := by
  subst e
  exact fun pins s σ H xs us Q I r ⟨p, ys, e, h, q⟩ => call_tuple_of pins s σ H xs us Q I r ⟨p, ys, e, .inl ⟨h, fun l hl => q l _ (.mk' hl)⟩⟩
end
structure Ch (H : Hp) (p : Addr) (xs : List V) (H' : Hp) : Prop where
  at' : H' p = some (.lst xs)
  ol : ∀ a o, a ≠ p → H a = some o → H' a = some o
  fre : ∀ a, a ≠ p → H a = none → H' a = none
theorem Ch.mk' {H : Hp} {p : Addr} {xs : List V} : Ch H p xs (upd H p (.lst xs)) := ⟨upd_same, fun a o n h => by rw [upd_ne n]; exact h, fun a n h => by rw [upd_ne n]; exact h⟩
theorem Ch.tup {H H' : Hp} {p a : Addr} {xs ys zs : List V} (c : Ch H p xs H') (h : H a = some (.tup ys)) (hp : H p = some (.lst zs)) : H' a = some (.tup ys) := c.ol a _ (ne_of h hp (by intro z; cases z)) h
section
variable {X : Cx}
inductive rSetA_ (o : V) (i : V) (v : V) (H : Hp) (Q : (Hp → Prop)) : Prop
  | mk (p : _) (xs : _) (k : _) (j : _) (h0 : o = .ref p) (h1 : i = .int k) (h2 : H p = some (.lst xs)) (h3 : ixN xs.length k = some j) (h4 : ∀ H', Ch H p (xs.set j v) H' → Q H')
def rSetA : V → V → V → Hp → (Hp → Prop) → Prop := fun o i v H Q => rSetA_  o i v H Q
theorem set_listA : PSet X rSetA := fun pins s σ H o i v ov iv u Q I ro ri rv ⟨p, xs, k, j, e1, e2, h, hj, q⟩ => set_list pins s σ H o i v ov iv u Q I ro ri rv ⟨p, xs, k, j, e1, e2, h, hj, q _ .mk'⟩
inductive rAppA_ (x : V) (vs : List V) (H : Hp) (Q : VK) : Prop
  | mk (l : _) (xs : _) (y : _) (h0 : x = .ref l) (h1 : vs = [y]) (h2 : H l = some (.lst xs)) (h3 : xs.length ≤ 10000) (h4 : ∀ H', Ch H l (xs ++ [y]) H' → Q .non H')
def rAppA : V → List V → Hp → VK → Prop := fun x vs H Q => rAppA_  x vs H Q
theorem mt_appendA : MtM X "list.append" rAppA := fun pins s σ H x vs v us Q I rx rv ⟨l, xs, y, e1, e2, h, hz, q⟩ => mt_append pins s σ H x vs v us Q I rx rv ⟨l, xs, y, e1, e2, h, (by rw [sizeLine_eq]; trivial), q _ .mk'⟩
end
inductive spLowA_ (vs : List V) (H : Hp) (Q : VK) : Prop
  | mk (n d : Int) (h0 : vs = [.int n, .int d]) (h1 : d ≠ 0) (h2 : Sz 9000 d) (h3 : ∀ p H', Nw H p (fr (KM.low n d)) H' → Q (.ref p) H')
def spLowA : Sp := fun vs H Q _ => spLowA_  vs H Q
inductive spBinA_ (num den : Int → Int → Int → Int → Int) (vs : List V) (H : Hp) (Q : VK) : Prop
  | mk (a b : Addr) (n1 d1 n2 d2 : Int) (h0 : vs = [.ref a, .ref b]) (h1 : H a = some (.tup [.int n1, .int d1])) (h2 : H b = some (.tup [.int n2, .int d2])) (h3 : (Sz 4000 n1 ∧ Sz 4000 d1 ∧ Sz 4000 n2 ∧ Sz 4000 d2 ∧ den n1 d1 n2 d2 ≠ 0)) (h4 : ∀ p H', Nw H p (fr (KM.low (num n1 d1 n2 d2) (den n1 d1 n2 d2))) H' → Q (.ref p) H')
def spBinA (num den : Int → Int → Int → Int → Int) : Sp := fun vs H Q _ => spBinA_ num den vs H Q
end L2
namespace L2
open PySem PySem.Spec PyProof.Rows
theorem Fb.small {b : Nat} {n d : Int} (h1 : n.natAbs < 2 ^ b) (h2 : d.natAbs < 2 ^ b) (h3 : 1 ≤ d) (h4 : Int.gcd n d = 1) : Fb b n d := ⟨h1, h2, h3, h4⟩
theorem Bx.ch {H H' : Hp} {b p : Addr} {t : Int} {xs : List V} (h : Bx H b t) (k : Ch H p xs H') (ne : b ≠ p) : Bx H' b t := by
  obtain ⟨c, x, e, q⟩ := h
  exact ⟨c, x, k.ol b _ ne e, q⟩
theorem Bx.ne {H : Hp} {b p : Addr} {t : Int} (h : Bx H b t) (hp : H p = none) : b ≠ p := fun z => by
  obtain ⟨c, x, e, _⟩ := h
  rw [z, hp] at e; cases e
end L2
namespace L2
open PySem PySem.Spec PyProof.Rows
section
variable {X : Cx} {e : Expr} {te : TE} {st : Expr} {ts : TO} {p2 pos : Pos} {K : PySem.W.Frag}
inductive rInsA_ (x : V) (vs : List V) (H : Hp) (Q : VK) : Prop
  | mk (l : _) (xs : _) (k : _) (y : _) (h0 : x = .ref l) (h1 : vs = [.int k, y]) (h2 : H l = some (.lst xs)) (h3 : 0 ≤ k) (h4 : k ≤ xs.length) (h5 : xs.length ≤ 10000) (h6 : ∀ H', Ch H l (xs.take k.toNat ++ y :: xs.drop k.toNat) H' → Q .non H')
def rInsA : V → List V → Hp → VK → Prop := fun x vs H Q => rInsA_  x vs H Q
theorem mt_insertA : MtM X "list.insert" rInsA := by
  intro pins s σ H x vs v us Q I rx rv h
  obtain ⟨l, xs, k, y, rfl, rfl, hH, h0, h1, hz, q⟩ := h
  cases rx
  obtain ⟨u1, u2, rfl, r1, r2⟩ := rv.two
  obtain ⟨t1, rfl⟩ := r1
  obtain ⟨z, its, n, r, hl, e⟩ := I.lstM hH
  have hf : Builtin.List.listFitsIndex k = true := by
    unfold Builtin.List.listFitsIndex
    simp
    trivial
  refine call_meets F.slot_list_insert ⟨_, e, rfl⟩ F.entry_list_insert (F.args_list_insert_3 _ _ _) (AutoSeq1.list_insert_list_int_val_1 l its.toArray n k t1 u2 (by simp [hf]) (by rw [List.size_toArray]; trivial)) ⟨e, ?_⟩
  refine ⟨.non, _, I.lset (its' := its.take k.toNat ++ u2 :: its.drop k.toNat) hH e ?_ ((r.take k.toNat).append (.cons r2 (r.drop k.toNat))) ?_, rfl, q _ .mk'⟩
  · have hk : ¬ k < 0 := by trivial
    have hm : min k.toNat its.length = k.toNat := by trivial
    simp only [if_neg hk, List.size_toArray, hm]
    apply Array.ext'
    simp
    exact List.take_of_length_le (by rw [List.length_drop]; trivial)
  · rw [List.length_append, List.length_cons, List.length_take, List.length_drop, sizeLine_eq]
    trivial
end
end L2
namespace L2
open PySem PySem.Spec PyProof.Rows
end L2
namespace L2
open PySem PySem.Spec PyProof.Rows
def S (l : List Nat) : Str := ⟨l.toArray⟩
theorem S_inj {a b : List Nat} (h : S a = S b) : a = b := by
  have : a.toArray = b.toArray := by injection h
  simpa using this
theorem S_app (a b : List Nat) : S a ++ S b = S (a ++ b) := by
  show (⟨a.toArray ++ b.toArray⟩ : Str) = ⟨(a ++ b).toArray⟩
  simp
theorem S_len (a : List Nat) : (S a).length = a.length := by
  show a.toArray.size = _
  simp
theorem S_list (a : List Nat) : (S a).cps.toList = a := rfl
theorem foldl_app (k : Nat) (l : List Nat) : ∀ acc : List Nat, (List.replicate k l.toArray).foldl (· ++ ·) acc.toArray = (acc ++ (List.replicate k l).flatten).toArray := by
  induction k with
  | zero => intro acc; simp
  | succ k ih =>
    intro acc
    rw [List.replicate_succ, List.foldl_cons, List.replicate_succ, List.flatten_cons]
    have : acc.toArray ++ l.toArray = (acc ++ l).toArray := by simp
    rw [this, ih, List.append_assoc]
theorem join_flat : ∀ ls : List (List Nat), Str.join (S []) (ls.map S) = S ls.flatten
  | [] => rfl
  | [a] => by
    show S a = S (a ++ [])
    rw [List.append_nil]
  | a :: b :: r => by
    have e : Str.join (S []) ((a :: b :: r).map S) = S a ++ S [] ++ Str.join (S []) ((b :: r).map S) := rfl
    rw [e, join_flat (b :: r), S_app, S_app, List.append_nil]
    rfl
section
variable {X : Cx} {K : PySem.W.Frag}
inductive rMulS_ (x : V) (y : V) (H : Hp) (Q : VK) : Prop
  | mk (l : _) (n : _) (h0 : x = .str (S l)) (h1 : y = .int n) (h2 : 1 ≤ n) (h3 : n ≤ 1000) (h4 : l.length ≤ 100) (h5 : Q (.str (S (List.replicate n.toNat l).flatten)) H)
def rMulS : R2 := fun x y H Q => rMulS_  x y H Q
theorem op_mulS : OpR X (binaryOp .Mult) rMulS := by
  intro pins s σ H x y v u Q I rx ry h
  obtain ⟨l, n, rfl, rfl, h1, h2, h3, q⟩ := h
  obtain ⟨t, rfl⟩ := rx
  obtain ⟨t', rfl⟩ := ry
  have hlen : (S l).length = l.length := S_len l
  have hmul : l.length * n.toNat ≤ 100 * 1000 := Nat.mul_le_mul h3 (by trivial)
  refine PySem.P.mul_str ?_ ?_ ?_ ?_
  · rw [decide_eq_false (by trivial), decide_eq_false (by trivial)]; rfl
  · intro _ _
    rw [hlen]
    have : (100 : Int) < (2 ^ 63 - 1) / n := by
      have : (100 + 1) * n ≤ 2 ^ 63 - 1 := by trivial
      have := (Int.le_ediv_iff_mul_le (by trivial : 0 < n)).mpr this
      trivial
    trivial
  · intro _ _
    rw [hlen]
    unfold Builtin.Str.tooLong
    rw [decide_eq_false]
    rw [sizeLine_eq]
    trivial
  · rw [if_neg (by trivial)]
    by_cases hn : (n == 1 || (S l).length == 0) = true
    · rw [if_pos hn]
      refine ⟨.str (S l), H, I, ⟨t, rfl⟩, ?_⟩
      have e : (List.replicate n.toNat l).flatten = l := by
        rw [hlen] at hn
        have hn' : n = 1 ∨ l.length = 0 := by simpa using hn
        rcases hn' with rfl | hn'
        · simp
        · have : l = [] := List.eq_nil_of_length_eq_zero hn'
          subst this
          simp
      rw [e] at q
      exact q
    · rw [if_neg hn]
      have e : (⟨(List.replicate n.toNat (S l).cps).foldl (· ++ ·) #[]⟩ : Str) = S (List.replicate n.toNat l).flatten := by
        have e := foldl_app n.toNat l []
        rw [List.nil_append] at e
        exact congrArg Str.mk e
      rw [e]
      refine ⟨?_, .str (S (List.replicate n.toNat l).flatten), H, I.tok _, ⟨_, rfl⟩, q⟩
      rw [S_len, len_rep, sizeLine_eq, Nat.mul_comm]
      trivial
inductive rJoin_ (K : PySem.W.Frag) (x : V) (vs : List V) (H : Hp) (Q : VK) : Prop
  | mk (a : _) (ls : _) (h0 : x = .str (S [])) (h1 : vs = [.ref a]) (h2 : SqL K H a ((ls : List (List Nat)).map fun l => V.str (S l))) (h3 : (ls.map (·.length)).sum ≤ 10000) (h4 : Q (.str (S ls.flatten)) H)
def rJoin (K : PySem.W.Frag) : V → List V → Hp → VK → Prop := fun x vs H Q => rJoin_ K x vs H Q
theorem vals_strs {ls : List (List Nat)} : ∀ {us : List Value}, Vals (ls.map fun l => V.str (S l)) us → StrsAre us (ls.map S) := by
  induction ls with
  | nil => intro us h; cases h; exact .nil
  | cons l r ih =>
    intro us h
    cases h with
    | cons h t =>
      obtain ⟨tk, rfl⟩ := h
      exact .cons _ _ (ih t)
theorem mt_join (ek : X.K = K := by rfl) : MtR X "str.join" (rJoin K) := by
  subst ek
  intro pins s σ H x vs v us Q I rx rv h
  obtain ⟨a, ls, rfl, rfl, hS, hz, q⟩ := h
  obtain ⟨t, rfl⟩ := rx
  obtain ⟨u, rfl, ru⟩ := rv.one
  obtain rfl : u = Value.ref a := ru
  obtain ⟨its, r, ht, _⟩ := I.list hS
  have e1 : ((ls.map S).map (·.length)).sum = (ls.map (·.length)).sum := by
    rw [List.map_map]
    congr 1
  refine join_list (ys := ls.map S) ht.isList (by simpa using vals_strs r) ?_ fun t' k => ?_
  · rw [e1, show (S []).length = 0 from rfl]
    trivial
  · have := join_plain_closes (S []) (ls.map S)
    rw [eq_of_beq this, join_flat]
    exact ⟨.str (S ls.flatten), H, I.tok k, ⟨_, rfl⟩, q⟩
inductive rAddS_ (x : V) (y : V) (H : Hp) (Q : VK) : Prop
  | mk (a : _) (b : _) (h0 : x = .str (S a)) (h1 : y = .str (S b)) (h2 : a.length + b.length ≤ 10000) (h3 : Q (.str (S (a ++ b))) H)
def rAddS : R2 := fun x y H Q => rAddS_  x y H Q
theorem op_addS : OpR X (binaryOp .Add) rAddS := fun pins s σ H x y v u Q I rx ry ⟨a, b, e1, e2, hz, q⟩ =>
  op_add_str pins s σ H x y v u Q I rx ry ⟨S a, S b, e1, e2, by rw [S_len, S_len]; exact sz_of hz, by rw [S_app]; exact q⟩
end
theorem letters_eq : Str.ofString "abcdefghijklmnopqrstuvwxyz" = S ((List.range 26).map (97 + ·)) := by decide +kernel
theorem empty_eq : Str.ofString "" = S [] := by decide +kernel
theorem letter_at {i : Int} (h0 : -26 ≤ i) (h1 : i < 26) : atI ((Str.ofString "abcdefghijklmnopqrstuvwxyz").cps.toList) i = some (97 + (i % 26).toNat) := by
  rw [letters_eq, S_list]
  have : ∀ k : Fin 52, atI ((List.range 26).map (97 + ·)) ((k.val : Int) - 26) = some (97 + (((k.val : Int) - 26) % 26).toNat) := by decide +kernel
  have e := this ⟨(i + 26).toNat, by trivial⟩
  simp only at e
  rw [show (((i + 26).toNat : Nat) : Int) - 26 = i by trivial] at e
  exact e
theorem step11 {f : Int} {j k : Nat} (hj : j < 26) (hk : k < 26) (h : (f + 11 * (j : Int)) % 26 = (f + 11 * (k : Int)) % 26) : j = k := by trivial
end L2
namespace L2
open PySem PySem.Spec PyProof.Rows
structure NameC (l : List Nat) : Prop where
  lo : 1 ≤ l.length
  hi : l.length ≤ 8
  az : ∀ c ∈ l, 97 ≤ c ∧ c ≤ 122
abbrev strV (l : List Nat) : V := .str (S l)
def nm (c k : Nat) : List Nat := List.replicate (1 + k) c
theorem rep1 (n c : Nat) : (List.replicate n [c]).flatten = List.replicate n c := by
  induction n with
  | zero => rfl
  | succ n ih => rw [List.replicate_succ, List.flatten_cons, ih, List.replicate_succ]; rfl
theorem nm_ok {c k : Nat} (hk : k < 8) (h1 : 97 ≤ c) (h2 : c ≤ 122) : NameC (nm c k) := ⟨by simp [nm], by simp [nm]; trivial, fun d hd => by
  have := List.eq_of_mem_replicate hd
  trivial⟩
theorem cutV_take {xs : List V} {m : Int} (h : 0 ≤ m) : cutV xs none (some m) = xs.take m.toNat := by
  unfold cutV
  have e : m = ((m.toNat : Nat) : Int) := by trivial
  rw [HT.sIx_none, e, HT.sIx_nat]
  simp only [Int.toNat_natCast, List.drop_zero, Nat.sub_zero]
  by_cases hm : m.toNat ≤ xs.length
  · rw [Nat.min_eq_left hm]
  · rw [Nat.min_eq_right (by trivial), List.take_of_length_le (Nat.le_refl _), List.take_of_length_le (by trivial)]
theorem heads_nodup {ls : List (List Nat)} {f : Int} (hl : ls.length ≤ 26) (h : ∀ (j : Nat) (l : List Nat), ls[j]? = some l → l.head? = some (97 + ((f + 11 * (j : Int)) % 26).toNat)) : ls.Nodup := by
  rw [List.nodup_iff_pairwise_ne, List.pairwise_iff_getElem]
  intro i j hi hj hij e
  have h1 := h i ls[i] (List.getElem?_eq_getElem hi)
  have h2 := h j ls[j] (List.getElem?_eq_getElem hj)
  rw [e, h2] at h1
  injection h1 with h1
  have a1 := Int.emod_nonneg (f + 11 * (i : Int)) (by decide : (26 : Int) ≠ 0)
  have a2 := Int.emod_nonneg (f + 11 * (j : Int)) (by decide : (26 : Int) ≠ 0)
  have := step11 (f := f) (j := i) (k := j) (by trivial) (by trivial) (by trivial)
  trivial
theorem SameE.ch {b D : Addr} {H H1 H2 : Hp} {xs : List V} (s : SameE (Eb b) H H1) (c : Ch H1 D xs H2) (hD : H D = none) : SameE (Eb b) H H2 :=
  ⟨fun a u ne h => c.ol a u (ne_of_none h hD) (s.old a u ne h), fun a us h => c.ol a _ (ne_of_none h hD) (s.tup a us h)⟩
theorem SameE.up {b D : Addr} {H H1 : Hp} {o : HO} (s : SameE (Eb b) H H1) (hD : H D = none) : SameE (Eb b) H (upd H1 D o) :=
  ⟨fun a u ne h => by rw [upd_ne (ne_of_none h hD)]; exact s.old a u ne h, fun a us h => by rw [upd_ne (ne_of_none h hD)]; exact s.tup a us h⟩
end L2
namespace L2
open PySem PySem.Spec PyProof.Rows
def strT (x : Str) : Prop := x.length ≤ 300 ∧ ∀ c ∈ x.cps.toList, c < 128
mutual
inductive Wt : PyData → Nat → Nat → Prop
  | non {k : Nat} : Wt .none 1 k
  | bl (b : Bool) {k : Nat} : Wt (.bool b) 1 k
  | int {i : Int} (h : Sz 1900 i) {k : Nat} : Wt (.int i) 1 k
  | str {x : Str} (h : strT x) {k : Nat} : Wt (.str x) 1 k
  | list {xs : List PyData} {n k : Nat} (h : WtL xs n k) : Wt (.list xs) (n + 1) (k + 1)
  | tuple {xs : List PyData} {n k : Nat} (h : WtL xs n k) : Wt (.tuple xs) (n + 1) (k + 1)
inductive WtL : List PyData → Nat → Nat → Prop
  | nil {k : Nat} : WtL [] 0 k
  | cons {x : PyData} {xs : List PyData} {m n k : Nat} (h : Wt x m k) (r : WtL xs n k) : WtL (x :: xs) (m + n) k
end
mutual
theorem Wt.deep : ∀ {d : PyData} {n k : Nat}, Wt d n k → ∀ {l : Nat}, k ≤ l → Wt d n l
  | _, _, _, .non, _, _ => .non
  | _, _, _, .bl b, _, _ => .bl b
  | _, _, _, .int h, _, _ => .int h
  | _, _, _, .str h, _, _ => .str h
  | _, _, _, .list h, l, hl => by
    obtain ⟨m, rfl⟩ : ∃ m, l = m + 1 := ⟨l - 1, by trivial⟩
    exact .list (WtL.deep h (by trivial))
  | _, _, _, .tuple h, l, hl => by
    obtain ⟨m, rfl⟩ : ∃ m, l = m + 1 := ⟨l - 1, by trivial⟩
    exact .tuple (WtL.deep h (by trivial))
theorem WtL.deep : ∀ {ds : List PyData} {n k : Nat}, WtL ds n k → ∀ {l : Nat}, k ≤ l → WtL ds n l
  | _, _, _, .nil, _, _ => .nil
  | _, _, _, .cons h r, _, hl => .cons (Wt.deep h hl) (WtL.deep r hl)
end
theorem Wt.pos {d : PyData} {n k : Nat} (h : Wt d n k) : 1 ≤ n := by cases h <;> trivial
mutual
theorem Wt.dep : ∀ {d : PyData} {n k : Nat}, Wt d n k → d.depth ≤ k
  | _, _, _, .non => by simp [PyData.depth]
  | _, _, _, .bl b => by simp [PyData.depth]
  | _, _, _, .int h => by simp [PyData.depth]
  | _, _, _, .str h => by simp [PyData.depth]
  | _, _, _, .list h => by simp only [PyData.depth]; exact Nat.succ_le_succ (WtL.dep h)
  | _, _, _, .tuple h => by simp only [PyData.depth]; exact Nat.succ_le_succ (WtL.dep h)
theorem WtL.dep : ∀ {ds : List PyData} {n k : Nat}, WtL ds n k → PyData.depthAll ds ≤ k
  | _, _, _, .nil => by simp [PyData.depthAll]
  | _, _, _, .cons h r => by simp only [PyData.depthAll]; exact Nat.max_le.mpr ⟨Wt.dep h, WtL.dep r⟩
end
mutual
theorem Wt.sho : ∀ {d : PyData} {n k : Nat}, Wt d n k → d.showable = true
  | _, _, _, .non => by simp [PyData.showable]
  | _, _, _, .bl b => by simp [PyData.showable]
  | _, _, _, .int (i := i) h => by
    simp only [PyData.showable, decide_eq_true_iff]
    by_cases h0 : i = 0
    · subst h0; decide
    · exact Nat.lt_trans (h.log h0) (by decide)
  | _, _, _, .str h => by simp [PyData.showable]
  | _, _, _, .list h => by simp only [PyData.showable]; exact WtL.sho h
  | _, _, _, .tuple h => by simp only [PyData.showable]; exact WtL.sho h
theorem WtL.sho : ∀ {ds : List PyData} {n k : Nat}, WtL ds n k → PyData.showableAll ds = true
  | _, _, _, .nil => by simp [PyData.showableAll]
  | _, _, _, .cons h r => by simp only [PyData.showableAll, Bool.and_eq_true]; exact ⟨Wt.sho h, WtL.sho r⟩
end
mutual
theorem Wt.nod : ∀ {d : PyData} {n k : Nat}, Wt d n k → d.hasDict = false
  | _, _, _, .non => by simp [PyData.hasDict]
  | _, _, _, .bl b => by simp [PyData.hasDict]
  | _, _, _, .int h => by simp [PyData.hasDict]
  | _, _, _, .str h => by simp [PyData.hasDict]
  | _, _, _, .list h => by simp only [PyData.hasDict]; exact WtL.nod h
  | _, _, _, .tuple h => by simp only [PyData.hasDict]; exact WtL.nod h
theorem WtL.nod : ∀ {ds : List PyData} {n k : Nat}, WtL ds n k → PyData.hasDictAll ds = false
  | _, _, _, .nil => by simp [PyData.hasDictAll]
  | _, _, _, .cons h r => by simp only [PyData.hasDictAll, Bool.or_eq_false_iff]; exact ⟨Wt.nod h, WtL.nod r⟩
end
mutual
theorem Wt.len : ∀ {d : PyData} {n k : Nat}, Wt d n k → d.shown.length + 2 ≤ 3010 * n
  | _, _, _, .non => by
    rw [PyData.shown]
    decide +kernel
  | _, _, _, .bl b => by
    rw [PyData.shown]
    cases b <;> decide +kernel
  | _, _, _, .int (i := i) h => by
    rw [PyData.shown]
    have hl : i.natAbs.log2 < 1920 := by
      by_cases h0 : i = 0
      · subst h0; decide
      · exact Nat.lt_trans (h.log h0) (by decide)
    have := int_text_len_1921 hl
    trivial
  | _, _, _, .str (x := x) h => by
    rw [PyData.shown]
    have := PySem.StrLaws.reprText_len x (fun c hc => Nat.lt_trans (h.2 c hc) (by decide))
    have := h.1
    trivial
  | _, _, _, .list (xs := xs) (n := n) h => by
    rw [PyData.shown]
    have h1 := listText_len_le (PyData.shownAll xs)
    have h2 := WtL.len h
    trivial
  | _, _, _, .tuple (xs := xs) (n := n) h => by
    rw [PyData.shown]
    have h1 := tupleText_len_le (PyData.shownAll xs)
    have h2 := WtL.len h
    trivial
theorem WtL.len : ∀ {ds : List PyData} {n k : Nat}, WtL ds n k → ((PyData.shownAll ds).map (·.length)).sum + 2 * (PyData.shownAll ds).length ≤ 3010 * n
  | _, _, _, .nil => by simp [PyData.shownAll]
  | _, _, _, .cons (x := x) (xs := xs) (m := m) (n := n) h r => by
    rw [PyData.shownAll, List.map_cons, List.sum_cons, List.length_cons]
    have h1 := Wt.len h
    have h2 := WtL.len r
    have h3 := h.pos
    trivial
end
end L2
namespace L2
open PySem PySem.Spec PyProof.Rows
section
variable {X : Cx}
inductive rStrW_ (xs : List V) (H : Hp) (Q : VK) : Prop
  | mk (a : Addr) (d : PyData) (E : Addr → Prop) (n k : Nat) (h0 : xs = [.ref a]) (h1 : IsD E H (.ref a) d) (h2 : Wt d n k) (h3 : n ≤ 5500) (h4 : k ≤ 50) (h5 : Q (.str d.shown) H)
def rStrW : List V → Hp → VK → Prop := fun xs H Q => rStrW_  xs H Q
theorem call_strW {k : Nat} (hr : Room k X.A) : CallR X (.type "str") rStrW := fun pins s σ H xs us Q I r ⟨a, d, E, n, k, e, hd, w, hn, hk, q⟩ =>
  call_str_data hr pins s σ H xs us Q I r ⟨a, d, E, e, hd, w.sho, w.nod, by have := w.dep; trivial, by have := w.len; rw [sizeLine_eq]; trivial, q⟩
end
abbrev ED : Addr → Prop := fun _ => True
abbrev frD (p : KM.Fra) : PyData := .tuple [.int p.1, .int p.2]
structure TieD where
  bg : List Nat
  en : List Nat
  most : KM.Fra
  gain : KM.Fra
  price : KM.Fra
abbrev tieD (t : TieD) : PyData := .tuple [.str (S t.bg), .str (S t.en), frD t.most, frD t.gain, frD t.price]
abbrev netD (ls : List (List Nat)) (ts : List TieD) : PyData := .tuple [.tuple (ls.map fun l => .str (S l)), .tuple (ts.map tieD)]
theorem isF {H : Hp} {o : Addr} {p : KM.Fra} (h : H o = some (.tup [.int p.1, .int p.2])) : IsD ED H (.ref o) (frD p) := .tup h (.cons (.int _) (.cons (.int _) .nil))
theorem isF_inv {E : Addr → Prop} {H : Hp} {v : V} {p : KM.Fra} (h : IsD E H v (frD p)) : ∃ o, v = .ref o ∧ H o = some (.tup [.int p.1, .int p.2]) := by
  cases h with
  | @tup a xs _ h r =>
    cases r with
    | cons h1 r =>
    cases r with
    | cons h2 r =>
    cases r
    cases h1
    cases h2
    exact ⟨a, rfl, h⟩
theorem IsD.tupS {E F : Addr → Prop} {H H' : Hp} {v : V} {d : PyData} (h : IsD ED H v d) (k : SameE E H H') : IsD ED H' v d := h.mono ⟨fun _ _ n _ => absurd trivial n, k.tup⟩
theorem IsAll.tupS {E : Addr → Prop} {H H' : Hp} {v : List V} {d : List PyData} (h : IsAll ED H v d) (k : SameE E H H') : IsAll ED H' v d := h.mono ⟨fun _ _ n _ => absurd trivial n, k.tup⟩
theorem IsD.tupC {H H' : Hp} {v : V} {d : PyData} {p : Addr} {xs ys : List V} (h : IsD ED H v d) (k : Ch H p xs H') (hp : H p = some (.lst ys)) : IsD ED H' v d := h.mono ⟨fun _ _ n _ => absurd trivial n, fun _ _ e => k.tup e hp⟩
theorem IsD.sm {E : Addr → Prop} {H H' : Hp} {v : V} {d : PyData} (h : IsD E H v d) (k : Same H H') : IsD E H' v d := h.mono k.toE
theorem IsD.any {E : Addr → Prop} {H : Hp} {v : V} {d : PyData} (h : IsD ED H v d) : IsD E H v d := h.narrow fun _ _ => trivial
theorem isStrs {H : Hp} : ∀ ls : List (List Nat), IsAll ED H (ls.map strV) (ls.map fun l => .str (S l))
  | [] => .nil
  | _ :: r => .cons (.str _) (isStrs r)
theorem strT_name {l : List Nat} (h : NameC l) : strT (S l) := ⟨by rw [S_len]; have := h.hi; trivial, fun c hc => by have := h.az c hc; trivial⟩
theorem wtL_map {α : Type} {f : α → PyData} {m k : Nat} : ∀ {xs : List α}, (∀ x ∈ xs, Wt (f x) m k) → WtL (xs.map f) (m * xs.length) k
  | [], _ => .nil
  | x :: r, h => by
    have e : m * (x :: r).length = m + m * r.length := by rw [List.length_cons, Nat.mul_succ, Nat.add_comm]
    rw [e]
    exact .cons (h x (by simp)) (wtL_map fun y hy => h y (List.mem_cons_of_mem _ hy))
end L2
namespace L2
open PySem PySem.Spec PyProof.Rows
inductive spFrB_ (c : Nat) (lo : Int) (vs : List V) (H : Hp) (Q : VK) : Prop
  | mk (b : Addr) (t : Int) (h0 : vs = [.ref b]) (h1 : Bx H b t) (h2 : 0 ≤ t) (h3 : t ≤ 900000) (h4 : ∀ o n d t' H', SameE (Eb b) H H' → H' o = some (.tup [.int n, .int d]) → Fb c n d → lo ≤ n → Bx H' b t' → t ≤ t' → t' ≤ t + 6 → Q (.ref o) H')
def spFrB (c : Nat) (lo : Int) : Sp := fun vs H Q _ => spFrB_ c lo vs H Q
theorem low_fb6 {n d : Int} (hn : 1 ≤ n) (hn2 : n ≤ 60) (hd : 1 ≤ d) (hd2 : d ≤ 60) : Fb 6 (KM.low n d).1 (KM.low n d).2 ∧ 1 ≤ (KM.low n d).1 := by
  have a : Sz 6 n := by show n.natAbs < 64; trivial
  have b : Sz 6 d := by show d.natAbs < 64; trivial
  refine ⟨Fb.low a b (by trivial), ?_⟩
  have := (KM.low_sgn (n := n) (d := d) (by trivial)).1.mpr (by trivial)
  trivial
theorem ifC {c : Bool} {a b : Int} {σ : St} {H : Hp} {Q : VK} (h : Q (.int (if c = true then a else b)) H) : if c = true then tC (.int a) σ H Q else tC (.int b) σ H Q := by
  cases c with
  | true => exact iteT h
  | false => exact iteF h
theorem log9 {m : Int} (h0 : 0 < m) (h1 : m < 1099511627776) : m.natAbs.log2 < 9000 := by
  have a : Sz 40 m := by show m.natAbs < 1099511627776; trivial
  exact Nat.lt_trans (a.log (by trivial)) (by decide)
end L2
namespace L2
open PySem PySem.Spec PyProof.Rows
theorem step_on {n f r : Int} (h0 : 0 ≤ f) (h1 : f < n) (r0 : 0 ≤ r) (r1 : r < n - 1) : 0 ≤ (f + 1 + r) % n ∧ (f + 1 + r) % n < n ∧ (f + 1 + r) % n ≠ f := by
  have hn : 0 < n := by trivial
  refine ⟨Int.emod_nonneg _ (by trivial), Int.emod_lt_of_pos _ hn, ?_⟩
  by_cases h : f + 1 + r < n
  · rw [Int.emod_eq_of_lt (by trivial) h]; trivial
  · have e : (f + 1 + r) % n = f + 1 + r - n := by
      have h2 : (f + 1 + r) % n = (f + 1 + r - n) % n := by rw [Int.sub_emod_right]
      rw [h2, Int.emod_eq_of_lt (by trivial) (by trivial)]
    rw [e]; trivial
theorem atI_map {α : Type} {xs : List α} {k : Int} {f : α → V} (h0 : 0 ≤ k) (h : k.toNat < xs.length) : atI (xs.map f) k = some (f xs[k.toNat]) := by
  have q := atI_nat (xs := xs.map f) (j := k.toNat) (v := f xs[k.toNat]) (by rw [List.getElem?_map]; simp [h])
  rwa [Int.toNat_of_nonneg h0] at q
end L2
namespace L2
theorem nodup_inj {α : Type} {ls : List α} (h : ls.Nodup) {i j : Nat} (hi : i < ls.length) (hj : j < ls.length) (e : ls[i] = ls[j]) : i = j := by
  have p := List.pairwise_iff_getElem.mp h
  rcases Nat.lt_trichotomy i j with q | q | q
  · exact absurd e (p i j hi hj q)
  · exact q
  · exact absurd e.symm (p j i hj hi q)
end L2
namespace L2
open PySem PySem.Spec PyProof.Rows
theorem ifE {c : Bool} {ta tb : TE} {σ : St} {H : Hp} {Q : VK} (I : V → Hp → Prop) (rest : ∀ v H', I v H' → Q v H') (h1 : c = true → (∀ v H', I v H' → Q v H') → ta σ H Q) (h2 : c = false → (∀ v H', I v H' → Q v H') → tb σ H Q) :
    if c = true then ta σ H Q else tb σ H Q := by
  cases c with
  | true => exact iteT (h1 rfl rest)
  | false => exact iteF (h2 rfl rest)
end L2
namespace L2
end L2
namespace L2
open PySem PySem.Spec PyProof.Rows
theorem IsAll.take {E : Addr → Prop} {H : Hp} : ∀ {xs : List V} {ds : List PyData} (n : Nat), IsAll E H xs ds → IsAll E H (xs.take n) (ds.take n)
  | _, _, 0, _ => by simp; exact .nil
  | _, _, _ + 1, .nil => by simp; exact .nil
  | _, _, n + 1, .cons h r => by simp; exact .cons h (IsAll.take n r)
end L2
namespace L2
open PySem PySem.Spec PyProof.Rows
open AutoSeq1 (wpAny_loadPart')
set_option maxHeartbeats 4000000 in
theorem enumNewT (l : Addr) (its : Array Value) (n : Nat) (dct : Option Addr) (sl : Array (Option Value)) :
    Meets (Builtin.«enumerate.__new__» ⟨[.type "enumerate", .ref l], []⟩) (fun _ R s => s.heap.get? l = some { cls := .type "tuple", dict := dct, data := .seq its n, slots := sl } ∧
      R (.ok (.ret (.ref (s.heap.push { cls := .type "tuple_iterator", data := .fields #[.ref l, .int 0 0] }).objs.size))) { s with heap := (s.heap.push { cls := .type "tuple_iterator", data := .fields #[.ref l, .int 0 0] }).push { cls := .type "enumerate", data := .fields #[.none, .bool false, .ref s.heap.objs.size, rawInt 0, .none, .none] } }) :=
  .of_wp fun prog w A R s h => by
    obtain ⟨hp, g, d, tk, os⟩ := s; obtain ⟨hl, h⟩ := h; have hsub := sub_enumerate
    have hT : Heap.IsTuple (Shared.heap ⟨hp, g, d, tk, os⟩) l its := ⟨_, hl, rfl, n, rfl⟩
    wp_walk using wpAny_loadPart' hl
    refine wpAny_stack_any fun st => wpAny_pure ?_; split
    · rename_i c _ _ _ _ _; cases (c == Value.type "enumerate")
      · wp_walk using wpAny_loadPart' hl, wpAny_pyIter_tuple hT
        exact ⟨_, rfl, h⟩
      · wp_walk using wpAny_loadPart' hl, wpAny_pyIter_tuple hT
        exact ⟨_, rfl, h⟩
    · wp_walk using wpAny_loadPart' hl, wpAny_pyIter_tuple hT
      exact ⟨_, rfl, h⟩
section
variable {prog : Program} {w : World} {A : Around} {E : Value → Shared → Prop} {s : Shared}
theorem call_enumK {l : Addr} {its : Array Value} {Q : Value → Shared → Prop} : ∀ {c : Bool}, SqK s.heap l its c →
    (∀ h', IsEnum h' (s.heap.objs.size + 1) s.heap.objs.size 0 .none → ItK h' s.heap.objs.size l 0 c → (∀ b o, s.heap.get? b = some o → h'.get? b = some o) → Q (.ref (s.heap.objs.size + 1)) { s with heap := h' }) →
    wpAny (model prog w) A (call (.type "enumerate") [.ref l]) Q E s
  | true, q, h => call_enumerate_list q fun h' a b _ k => h h' a b k
  | false, q, h => by
    obtain ⟨⟨c, dct, dt, sl⟩, hl, hc, n, hd⟩ := q
    dsimp only at hc hd
    subst hc hd
    refine callType_new F.called_enumerate (by decide) (F.typeCall_enumerate_1 _) (F.newCall_enumerate_1 _) (fun obj => F.args_object_init_2 obj _) F.entry_enumerate_new (enumNewT l its n dct sl) ⟨hl, ?_⟩
    have hz : (s.heap.push { cls := .type "tuple_iterator", data := .fields #[.ref l, .int 0 0] }).objs.size = s.heap.objs.size + 1 := Heap.size_push ..
    show _ ∧ _
    rw [hz]
    have he : IsEnum ((s.heap.push { cls := .type "tuple_iterator", data := .fields #[.ref l, .int 0 0] }).push { cls := .type "enumerate", data := .fields #[.none, .bool false, .ref s.heap.objs.size, rawInt 0, .none, .none] }) (s.heap.objs.size + 1) s.heap.objs.size 0 .none := by
      rw [← hz]; exact Heap.get?_push_size _ rfl
    exact ⟨⟨_, he, rfl⟩, h _ he ⟨_, Heap.get?_push_of_some _ (Heap.get?_push_size _ rfl), rfl, rfl⟩ fun b o e => Heap.get?_push_of_some _ (Heap.get?_push_of_some _ e)⟩
end
def IteK (K : PySem.W.Frag) (a : Addr) (c : Bool) : It :=
  ⟨fun i H => Ex2 fun xs x => SqC K H a xs c ∧ xs[i]? = some x, fun i H v H' => Ex2 fun T x => H T = none ∧ v = .ref T ∧ H' = upd H T (.tup [.int (i : Int), x]) ∧ ∀ xs, SqC K H a xs c → xs[i]? = some x, fun i H => ∃ xs, SqC K H a xs c ∧ xs.length = i⟩
theorem turn_enumK {P : Program} {w : World} {K : PySem.W.Frag} {es : List Expr} {kk : Nat} {pos : Pos} (a e it : Addr) (c : Bool) (hne : e ≠ it) (hae : a ≠ e) (hai : a ≠ it) :
    Turn P w K (.Tuple es kk pos) (IteK K a c) [e, it] e (fun i h => (∃ old, IsEnum h e it i old) ∧ ItK h it a i c) where
  mem := by simp
  obj := fun i h st b hb => by
    obtain ⟨⟨old, he⟩, hi⟩ := st
    have hb' : b = e ∨ b = it := by simpa using hb
    rcases hb' with rfl | rfl
    · exact ⟨_, he, fun v z => by have z' : Data.fields _ = Data.cell v := z; cases z'⟩
    · exact hi.some
  keep := fun i h h' st k => by
    obtain ⟨⟨old, he⟩, hi⟩ := st
    exact ⟨⟨old, k e (by simp) _ he⟩, hi.at fun o q => k it (by simp) o q⟩
  item := by
    intro X hP hw hK hc i pins s σ H E I hf st hg
    subst hP hw hK
    obtain ⟨⟨old, he⟩, hit⟩ := st
    obtain ⟨xs, x, hq, hx⟩ := hg
    obtain ⟨its, rv, p⟩ := I.seqC hq
    obtain ⟨u, hu, ru⟩ := rv.get hx
    have hnT : H s.heap.objs.size = none := I.fresh
    have hiu : i < its.length := (List.getElem?_eq_some_iff.mp hu).1
    have D := drawsK (prog := X.prog) (w := X.w) (A := X.A.in1) (I.ok.hd hc) it a hai its.toArray c
    refine wpAny_pyNext_enum_itemD D he ⟨hit, p⟩ (by simpa using hiu) hne (by simp; exact ⟨hne, Ne.symm hae⟩) fun u' h' tk hP ho st' hT hsz hk => ?_
    have eu : u = u' := by
      have : its.toArray[i]? = some u' := hP
      rw [List.getElem?_toArray, hu] at this
      exact Option.some.inj this
    subst eu
    refine ⟨_, rfl, wpAny_letOwnedTupleGo_enum (s := { s with heap := h', toks := tk + 1 }) ho fun h'' he'' hs'' => ?_⟩
    have helt : e < s.heap.objs.size := Heap.lt_size he
    have hilt : it < s.heap.objs.size := let ⟨_, y, _⟩ := hit.some; Heap.lt_size y
    have hT'' : h''.get? s.heap.objs.size = some { cls := .type "tuple", data := .seq #[.int i tk, u] } := (hs''.2 _ (Nat.ne_of_gt helt)).trans hT
    refine ⟨.ref s.heap.objs.size, upd H s.heap.objs.size (.tup [.int (i : Int), x]), I.turnedNew (ch := [e, it]) (t' := tk + 1) hf (fun b o hb q => ?_) (Nat.le_refl _) ?_, rfl, ⟨_, x, hnT, rfl, rfl, fun ys hy => by rw [I.seqC_inj hy hq]; exact hx⟩, ⟨⟨u, ?_⟩, st'.1.at fun o q => (hs''.2 _ (Ne.symm hne)).trans q⟩, fun b hb => ?_⟩
    · have h1 : b ≠ e := fun z => hb (by simp [z])
      have h2 : b ≠ it := fun z => hb (by simp [z])
      exact (hs''.2 b h1).trans (hk b o h1 h2 q)
    · exact ⟨by show 2 ≤ sizeLine; decide, [.int i tk, u], .cons ⟨_, rfl⟩ (.cons ru .nil), ⟨_, hT'', rfl, _, rfl⟩, _, hT'', rfl⟩
    · simpa using he''
    · have hb' : b = e ∨ b = it := by simpa using hb
      have hlt : b < s.heap.objs.size := by rcases hb' with rfl | rfl <;> assumption
      rw [upd_ne (Nat.ne_of_lt hlt)]
      exact (hf b hb).1
  done := by
    intro X hP hw hK hc i pins s σ H E I hf st hg
    subst hP hw hK
    obtain ⟨⟨old, he⟩, hit⟩ := st
    obtain ⟨xs, hq, hx⟩ := hg
    obtain ⟨its, rv, p⟩ := I.seqC hq
    have hl := rv.length
    have D := drawsK (prog := X.prog) (w := X.w) (A := X.A.in1) (I.ok.hd hc) it a hai its.toArray c
    have ei : i = its.toArray.size := by simp; trivial
    refine wpAny_pyNext_enum_endD D he (by rw [ei] at hit; exact ⟨hit, p⟩) fun h' eb => ⟨rfl, I.turnedL (ch := [e, it]) (t' := s.toks) hf fun b o hb q => eb b o (fun z => hb (by simp [z])) q⟩
  self := fun _ _ _ _ _ st h => by
    obtain ⟨⟨old, he⟩, _⟩ := st
    exact wpAny_pyIter_enum he h
def iEnumK (K : PySem.W.Frag) (ta : TA) : TI := fun σ H R => ta σ H fun vs H1 => Ex2 fun a c => vs = [.ref a] ∧ (∃ xs, SqC K H1 a xs c) ∧ R (IteK K a c) H1
theorem pi_enumK {X : Cx} {K : PySem.W.Frag} {es : List Expr} {kk : Nat} {tp : Pos} {a : Expr} {ta : TA} {p pos : Pos} (hg : Gl X "enumerate") (hm : X.mg "enumerate" = none) (ha : PA X [a] ta) (hs : starEach [a] X.env = [(false, eval a X.env)] := by rfl) (ek : X.K = K := by rfl) :
    PI X (.Tuple es kk tp) (.Call (.Name "enumerate" p) [a] [] pos) (iEnumK K ta) := by
  subst ek
  intro pins s σ H R I h
  refine Call_ (ld_blt I hg hm boot_enumerate (PyProof.Rows.callWith_type1 (thn (ha pos pins s σ H _ I h) fun us s1 ⟨vs, H1, I1, r1, q1⟩ => ?_) hs rfl))
  obtain ⟨a, c, rfl, ⟨xs, hq⟩, q⟩ := q1
  obtain ⟨u, rfl, ru⟩ := r1.one
  obtain rfl : u = .ref a := ru
  obtain ⟨its, rv, p⟩ := I1.seqC hq
  have d1 := p.lt
  refine call_enumK p fun h' hE hI hk => wpAny_pyIter_enum hE ?_
  have I2 : Inv X pins σ H1 { s1 with heap := h', toks := s1.toks } := I1.kept hk
  refine ⟨s1.heap.objs.size + 1, [s1.heap.objs.size + 1, s1.heap.objs.size], _, _, H1, rfl, I2, turn_enumK a (s1.heap.objs.size + 1) s1.heap.objs.size c (Nat.succ_ne_self _) (Nat.ne_of_lt (Nat.lt_succ_of_lt d1)) (Nat.ne_of_lt d1), ⟨⟨_, hE⟩, hI⟩, fun b hb => ?_, q⟩
  have hb' : b = s1.heap.objs.size + 1 ∨ b = s1.heap.objs.size := by simpa using hb
  have hle : s1.heap.objs.size ≤ b := by rcases hb' with rfl | rfl <;> trivial
  exact I1.fpOk hle (I1.hok.fresh hle)
section
variable {X : Cx}
end
end L2
namespace L2
open PySem PySem.Spec PyProof.Rows
end L2
namespace L2
open PySem PySem.Spec PyProof.Rows
theorem IsAll.drop {E : Addr → Prop} {H : Hp} : ∀ {xs : List V} {ds : List PyData} (n : Nat), IsAll E H xs ds → IsAll E H (xs.drop n) (ds.drop n)
  | _, _, 0, h => by simpa using h
  | _, _, _ + 1, .nil => by simp; exact .nil
  | _, _, n + 1, .cons h r => by simp; exact IsAll.drop n r
theorem IsAll.set {E : Addr → Prop} {H : Hp} {y : V} {d : PyData} (hy : IsD E H y d) : ∀ {xs : List V} {ds : List PyData} (i : Nat), IsAll E H xs ds → IsAll E H (xs.set i y) (ds.set i d)
  | _, _, _, .nil => by simp; exact .nil
  | _, _, 0, .cons h r => by simp; exact .cons hy r
  | _, _, i + 1, .cons h r => by simp; exact .cons h (IsAll.set hy i r)
section
variable {z : Nat} {E : Addr → Prop} {H H' : Hp} {n m k : Nat} {v : V} {xs ys : List V}
theorem cutV_drop1 : cutV xs (some 1) none = xs.drop 1 := by
  unfold cutV
  rw [HT.sIx_none, show (1 : Int) = ((1 : Nat) : Int) from rfl, HT.sIx_nat]
  cases xs with
  | nil => simp
  | cons x r => simp
end
section
variable {X : Cx}
end
end L2
namespace HT
open PySem PySem.Spec PyProof.Rows
section
variable {prog : Program} {w : World} {A : Around} {E : Value → Shared → Prop} {s : Shared}
end
end HT
namespace L2
open PySem PySem.Spec PyProof.Rows
section
variable {X : Cx} {K : PySem.W.Frag}
end
end L2
namespace L2
open PySem PySem.Spec PyProof.Rows
def keyV : Key → V
  | .inl i => .int i
  | .inr x => .str x
theorem keyV_is {k : Key} {u : Value} (h : RelV (keyV k) u) : keyIs k u = true ∧ u.scannable = true := by
  cases k with
  | inl i => obtain ⟨t, rfl⟩ := h; exact ⟨keyIs_int i t, rfl⟩
  | inr x => obtain ⟨t, rfl⟩ := h; exact ⟨keyIs_str x t, rfl⟩
section
variable {prog : Program} {w : World} {A : Around} {R : Result → Shared → Prop} {it : Addr} {fp wr : List Addr} {G : Array GenState → Array GenState → Prop} {P : Nat → Value → Prop} {St : Nat → Shared → Prop}
end
section
variable {prog : Program} {w : World} {A : Around} {E : Value → Shared → Prop} {s : Shared}
end
section
variable {X : Cx} {K : PySem.W.Frag} {e : Expr} {te : TE} {p1 p2 p3 p4 : Pos}
end
end L2
namespace L2
open PySem PySem.Spec PyProof.Rows
section
variable {X : Cx} {K : PySem.W.Frag} {o e : Expr} {es : List Expr} {to : TE} {t : TA} {name : Str} {apos cpos : Pos} {T id : String} {r : V → List V → Hp → VK → Prop}
theorem pe_bm_k (pa : PlainAttrs T) (slot : Slot T name id) (hty : typeOf (.builtin id) = pure (.type "method_descriptor")) (hm : MtR X id r) (ho : PE X o to) (ha : PA X (e :: es) t) (ek : X.K = K := by rfl)
    (h1 : attributeBase o name X.env (eval o X.env) = eval o X.env := by rfl)
    (h2 : ((backTo cpos (starEach (e :: es) X.env)).all (fun x => !x.1) && (backToKw cpos (keywordEach [] X.env)).all (fun x => x.1.isSome) && decide ((e :: es).length + ([] : List Keyword).length + (if ([] : List Keyword).isEmpty then 0 else 1) < 30)) = true := by rfl)
    (h3 : (apos.endLine == cpos.line) = true := by rfl) (h4 : starEach (e :: es) X.env = (false, eval e X.env) :: starEach es X.env := by rfl) (h5 : (backTo cpos (starEach es X.env)).any (·.1) = false := by rfl) :
    PE X (.Call (.Attribute o name apos) (e :: es) [] cpos) (tBM K T r to t) := by
  subst ek
  exact pe_bm pa slot hty hm ho ha h1 h2 h3 h4 h5
end
theorem pi_zip_k {X : Cx} {K : PySem.W.Frag} {es : List Expr} {kk : Nat} {tp : Pos} {a b : Expr} {ta : TA} {p pos : Pos} (hg : Gl X "zip") (hm : X.mg "zip" = none) (ha : PA X [a, b] ta) (ek : X.K = K := by rfl) (h1 : starEach [a, b] X.env = [(false, eval a X.env), (false, eval b X.env)] := by rfl) (h2 : starEach [b] X.env = [(false, eval b X.env)] := by rfl) :
    PI X (.Tuple es kk tp) (.Call (.Name "zip" p) [a, b] [] pos) (iZip K ta) := by
  subst ek
  exact pi_zip hg hm ha h1 h2
end L2
namespace L2
theorem seqH {t u : TS} {D : Ends} {σ : St} {H : Hp} (h : ∀ D' : Ends, (∀ σ' H', u D σ' H' → D'.nx σ' H') → t D' σ H) : tSeq t u D σ H := h { D with nx := u D } fun _ _ z => z
theorem seqR {t u : TS} {D : Ends} {σ : St} {H : Hp} (h : ∀ D' : Ends, (∀ σ' H', u D σ' H' → D'.nx σ' H') → (∀ v H', D.rt v H' → D'.rt v H') → t D' σ H) : tSeq t u D σ H := h { D with nx := u D } (fun _ _ z => z) fun _ _ z => z
theorem bodyH {t : TS} {D : Ends} {σ : St} {H : Hp} (h : ∀ D' : Ends, (∀ σ' H', D.nx σ' H' → D'.nx σ' H') → t D' σ H) : t D σ H := h D fun _ _ z => z
end L2
namespace L2
open PySem PySem.Spec PyProof.Rows
section
variable {X : Cx}
end
end L2
namespace L2
open PySem PySem.Spec PyProof.Rows
section
variable {K : PySem.W.Frag} {a a1 a2 D : Addr} {H1 : Hp} {σc : St} {g : TG} {te : TE} {tt : TT} {Q : VK} {xs ys : List V}
theorem map_range_snoc {α : Type} (f : Nat → α) (i : Nat) : (List.range i).map f ++ [f i] = (List.range (i + 1)).map f := by
  rw [List.range_succ, List.map_append]; rfl
theorem comp_mapJ {J : It} {n : Nat} (f : Nat → V) (hz : n ≤ 10000) (hD : H1 D = none) (hgo : ∀ i H', i < n → Same H1 H' → J.go i H') (hst : ∀ H', Same H1 H' → J.stop n H')
    (hs : ∀ i x H' H'' (R : VK), i < n → Same H1 H' → J.yld i H' x H'' → (∀ H4, Same H' H4 → R (f i) H4) → g x σc H'' fun σ2 H2 => Back σc σ2 ∧ te σ2 H2 R)
    (hd : ∀ H', Same H1 H' → H' D = some (.lst ((List.range n).map f)) → Q (.ref D) H') : CompW J σc g tT te D H1 Q := by
  refine comp_each (n := n) (fun i H' zs => zs = (List.range i).map f ∧ H' D = some (.lst zs) ∧ Same H1 H') (sz_of hz) ⟨rfl, upd_same, same_lst hD (Same.refl _)⟩ ?_ ?_ ?_ ?_ ?_
  · rintro i H' zs ⟨rfl, q, _⟩
    exact ⟨q, by simp⟩
  · rintro i H' zs hi ⟨_, _, sm⟩
    exact hgo i H' hi sm
  · rintro H' zs ⟨_, _, sm⟩
    exact hst H' sm
  · rintro i H' zs x H'' hi ⟨rfl, q, sm⟩ y
    exact hs i x H' H'' _ hi sm y fun H4 s4 => ⟨s4 _ _ q, map_range_snoc f i, upd_same, same_lst hD (sm.trans s4)⟩
  · rintro H' zs ⟨rfl, q, sm⟩
    exact hd H' sm q
end
end L2
namespace L2
theorem joinS {t u : TS} {D : Ends} {σ : St} {H : Hp} (I : St → Hp → Prop) (rest : ∀ σ' H', I σ' H' → u D σ' H') (h : (∀ σ' H', I σ' H' → u D σ' H') → t { D with nx := u D } σ H) : tSeq t u D σ H := h rest
end L2
namespace L2
open PySem PySem.Spec PyProof.Rows
section
variable {X : Cx} {tg : Expr}
end
end L2
namespace L2
open PySem PySem.Spec PyProof.Rows
section
variable {X : Cx} {K : PySem.W.Frag} {o e : Expr} {es : List Expr} {to : TE} {t : TA} {name : Str} {apos cpos : Pos} {id : String} {r : V → List V → Hp → VK → Prop}
end
end L2
namespace L2
open PySem PyProof.Rows
section
variable {X : Cx} {elt tg iter : Expr} {ifs : List Expr} {scope : Scope} {pos : Pos} {N' : List Str} {L : Nat} {src : List Nat} {wi : TI} {g : TG} {tt : TT} {te : TE}
end
end L2
namespace HT
open PySem PySem.Spec PyProof.Rows
section
variable {prog : Program} {w : World} {A : Around} {E : Value → Shared → Prop} {s : Shared}
end
end HT
namespace L2
open PySem PySem.Spec PyProof.Rows
section
variable {X : Cx} {K : PySem.W.Frag}
end
section
variable {X : Cx} {e : Expr} {te : TE} {st : Expr} {ts : TO} {p2 pos : Pos}
end
end L2
namespace L2
open PySem PySem.Spec PyProof.Rows
end L2
namespace L2
open PySem PySem.Spec PyProof.Rows
section
variable {H H' H'' : Hp} {z n k m : Nat} {v : V} {E : Addr → Prop} {b th th' p : Addr} {xs ys zs : List V}
end
section
variable {E : Addr → Prop} {z : Nat} {H0 : Hp} {σ : St} {n k m : Nat} {te tb : TE} {ta : TA} {v : V} {i : Nat} {p : Addr} {xs : List V} {K : PySem.W.Frag}
end
section
variable {b th : Addr} {H0 : Hp} {σ : St} {zs : List V} {ta : TA} {te : TE} {n i : Nat} {Q : VK} {K : PySem.W.Frag}
end
end L2
namespace L2
open PySem PySem.Spec PyProof.Rows
theorem seqA {te : TE} {i : Nat} {u : TS} {D : Ends} {σ : St} {H : Hp} (h : ∀ Q : VK, (∀ v H', u D (σ.set i (some v)) H' → Q v H') → te σ H Q) : tSeq (tAsg te (gName i)) u D σ H := h _ fun _ _ z => z
theorem seqP {ta : TA} {i j : Nat} {u : TS} {D : Ends} {σ : St} {H : Hp} (h : ∀ Q : List V → Hp → Prop, (∀ v w H', u D ((σ.set i (some v)).set j (some w)) H' → Q [v, w] H') → ta σ H Q) : tSeq (tPar i j ta) u D σ H := h _ fun _ _ _ z => ⟨_, _, rfl, z⟩
theorem dropQ {te : TE} {D : Ends} {σ : St} {H : Hp} (h : ∀ Q : VK, (∀ v H', D.nx σ H' → Q v H') → te σ H Q) : tDrop te D σ H := h _ fun _ _ z => z
theorem len1 {α : Type} {P : List α → Prop} (h : ∀ a, P [a]) : ∀ us : List α, us.length = 1 → P us := fun us hl => by
  cases us with
  | nil => cases hl
  | cons a r => cases r with
    | nil => exact h a
    | cons b r => simp at hl
theorem len2 {α : Type} {P : List α → Prop} (h : ∀ a b, P [a, b]) : ∀ us : List α, us.length = 2 → P us := fun us hl => by
  cases us with
  | nil => cases hl
  | cons a r => exact len1 (P := fun r => P (a :: r)) (fun b => h a b) r (by simpa using hl)
theorem len3 {α : Type} {P : List α → Prop} (h : ∀ a b c, P [a, b, c]) : ∀ us : List α, us.length = 3 → P us := fun us hl => by
  cases us with
  | nil => cases hl
  | cons a r => exact len2 (P := fun r => P (a :: r)) (fun b c => h a b c) r (by simpa using hl)
theorem len4 {α : Type} {P : List α → Prop} (h : ∀ a b c d, P [a, b, c, d]) : ∀ us : List α, us.length = 4 → P us := fun us hl => by
  cases us with
  | nil => cases hl
  | cons a r => exact len3 (P := fun r => P (a :: r)) (fun b c d => h a b c d) r (by simpa using hl)
end L2
namespace L2
open PySem PySem.Spec PyProof.Rows
theorem vals_get : ∀ {xs : List V} {us : List Value}, xs.length = us.length → (∀ (i : Nat) x u, xs[i]? = some x → us[i]? = some u → RelV x u) → Vals xs us
  | [], [], _, _ => .nil
  | x :: xs, u :: us, hl, h => .cons (h 0 x u rfl rfl) (vals_get (by simpa using hl) fun i y w e1 e2 => h (i + 1) y w e1 e2)
section
variable {X : Cx} {a : Expr} {ta : TA} {p p2 pos pos2 : Pos}
inductive rPopA_ (x : V) (vs : List V) (H : Hp) (Q : VK) : Prop
  | mk (l : _) (xs : _) (i : _) (y : _) (h0 : x = .ref l) (h1 : vs = [.int (i : Nat)]) (h2 : H l = some (.lst xs)) (h3 : xs.length ≤ 10000) (h4 : xs[i]? = some y) (h5 : ∀ H', Ch H l (xs.eraseIdx i) H' → Q y H')
def rPopA : V → List V → Hp → VK → Prop := fun x vs H Q => rPopA_  x vs H Q
theorem mt_popA : MtM X "list.pop" rPopA := by
  intro pins s σ H x vs v us Q I rx rv h
  obtain ⟨l, xs, i, y, e1, e2, hH, hz, hy, q⟩ := h
  have hi : i < xs.length := (List.getElem?_eq_some_iff.mp hy).1
  refine mt_popAt pins s σ H x vs v us Q I rx rv ⟨l, xs, _, i, y, e1, e2, hH, by trivial, by trivial, ?_, hy, q _ .mk'⟩
  have h0 : ¬ ((i : Int) < 0) := by trivial
  simp [seqIndex?, h0, hi]
end
end L2
namespace L2
open PySem PySem.Spec PyProof.Rows
abbrev IsZipO (h : Heap) (z TI TO : Addr) (f0 : Value) (b : Bool) : Prop := h.get? z = some { cls := .type "zip", dict := none, data := .fields #[f0, .bool b, .bool false, .ref TI, .ref TO], slots := #[] }
theorem wpAny_alive {M : Model} {A : Around} {E : Value → Shared → Prop} {s : Shared} {a : Addr} {o : Obj} {Q : Option Obj → Shared → Prop} (e : s.heap.get? a = some o) (h : Q (some o) s) : wpAny M A (loadIfAlive a) Q E s := fun Γ p hΓ => by
  unfold loadIfAlive
  rw [Sem.wp_loadIfAlive, e]
  exact h
section
variable {prog : Program} {w : World} {A : Around} {E : Value → Shared → Prop} {s : Shared}
variable {z TI TO i1 i2 l1 l2 T : Addr} {k : Nat} {xs ys : Array Value} {bb : Bool} {c1 c2 : Bool} {oT : Obj}
theorem notFree {Q : Bool → Shared → Prop} (hz : IsZipO s.heap z TI TO (rawInt T) bb) (hT : s.heap.get? T = some oT)
    (h : ∀ h', IsZipO h' z TI TO (rawInt T) true → Heap.SameBut z s.heap h' → Q false { s with heap := h' }) : wpAny (model prog w) A (Builtin.SmallTypes.ownedTupleIsFree (.ref z)) Q E s := by
  unfold Builtin.SmallTypes.ownedTupleIsFree
  refine wpAny_bind (wpAny_field hz rfl (x := rawInt T) rfl ?_)
  show wpAny _ _ (loadIfAlive ((T : Int).toNat) >>= _) _ _ _
  refine wpAny_bind (wpAny_alive (a := (T : Int).toNat) (by rw [Int.toNat_natCast]; exact hT) ?_)
  simp only [Option.isNone_some, Bool.false_eq_true, if_false]
  refine wpAny_bind (wpAny_field hz rfl (x := .bool bb) rfl ?_)
  cases bb with
  | true => exact wpAny_pure (h s.heap hz (Heap.SameBut.refl ..))
  | false =>
    refine wpAny_bind (wpAny_setField_rec hz (by simp) fun h' e sb => wpAny_pure (h h' e sb))
end
end L2
namespace L2
open PySem PySem.Spec PyProof.Rows
theorem entry_dict_update_loop : entryFor table "dict.update.loop" = some Builtin.«dict.update.loop» := entryFor_of_tree (by kernel_rfl)
theorem plain_dict_update_loop : plainId "dict.update.loop" = true := by decide +kernel
theorem stored_new {kvs : List (Key × Value)} {k : Key} {v : Value} (h : k ∉ kvs.map (·.1)) : stored kvs k v = kvs ++ [(k, v)] := by
  unfold stored
  rw [if_neg]
  intro z
  obtain ⟨x, hx, e⟩ := List.any_eq_true.mp z
  exact h (by rw [← of_decide_eq_true e]; exact List.mem_map_of_mem hx)
theorem keys_zip {α β : Type} : ∀ {ks : List α} {us : List β}, ks.length = us.length → (ks.zip us).map (·.1) = ks
  | [], [], _ => rfl
  | k :: ks, u :: us, h => by simp [keys_zip (ks := ks) (us := us) (by simpa using h)]
section
variable {prog : Program} {w : World} {A : Around} {E : Value → Shared → Prop} {R : Result → Shared → Prop}
variable {z TI TO i1 i2 l1 l2 d : Addr} {xs ys : Array Value} {c1 c2 : Bool} {ks : List Key}
end
theorem boot_ty_dict : bootBuiltins "dict" = some (.type "dict") := by decide +kernel
theorem kv_zip : ∀ {ks : List Key} {ys : List V} {us : List Value}, Vals ys us → KV (ks.zip ys) (ks.zip us)
  | [], _, _, _ => .nil
  | _ :: _, _, _, .nil => .nil
  | k :: ks, _, _, .cons r t => .cons ⟨rfl, r⟩ (kv_zip t)
section
variable {X : Cx} {K : PySem.W.Frag} {a b : Expr} {ta : TA} {p1 p2 p3 p4 : Pos}
def valD (kvs : List (Key × V)) (k : Key) : Option V := (kvs.find? fun kv => decide (kv.1 = k)).map (·.2)
theorem KV.valD : ∀ {kvs : List (Key × V)} {vs : List (Key × Value)} (r : KV kvs vs) (k : Key), RelO (valD kvs k) (valueAt vs k)
  | _, _, .nil, _ => trivial
  | p :: ps, q :: qs, .cons h t, k => by
    obtain ⟨h1, h2⟩ := h
    by_cases e : p.1 = k
    · have e' : q.1 = k := h1.symm.trans e
      have b1 : L2.valD (p :: ps) k = some p.2 := by simp [L2.valD, List.find?_cons, e]
      have b2 : valueAt (q :: qs) k = some q.2 := by simp [valueAt, List.find?_cons, e']
      rw [b1, b2]; exact h2
    · have e' : ¬ q.1 = k := fun z => e (h1.trans z)
      have b1 : L2.valD (p :: ps) k = L2.valD ps k := by simp [L2.valD, List.find?_cons, e]
      have b2 : valueAt (q :: qs) k = valueAt qs k := by simp [valueAt, List.find?_cons, e']
      rw [b1, b2]; exact KV.valD t k
inductive rIxD_ (x : V) (y : V) (H : Hp) (Q : VK) : Prop
  | mk (d : Addr) (kvs : List (Key × V)) (k : Key) (v : V) (h0 : x = .ref d) (h1 : y = keyV k) (h2 : H d = some (.dK kvs)) (h3 : valD kvs k = some v) (h4 : Q v H)
def rIxD : R2 := fun x y H Q => rIxD_  x y H Q
theorem keyV_kind {P : Program} {w : World} {k : Key} {u : Value} (r : RelV (keyV k) u) : (mixKind P w).is k u = true := (keyV_is r).1
theorem ix_dict : IxR X rIxD := by
  intro value slice pins s σ H x y v u Q I rx ry h hs
  obtain ⟨d, kvs, k, z, rfl, rfl, hd, he, q⟩ := h
  cases rx
  obtain ⟨_, _, vs, rel, dd⟩ := (show ObjOk X.prog X.w H s.heap d (.dK kvs) from I.hok d _ hd)
  have hv := rel.valD k
  rw [he] at hv
  obtain ⟨w', hw, rw'⟩ := RelO.some_of hv
  exact subscriptTail_builtinR (x := w') dd.typeIs PySem.F.slot_dict_getitem.lookup (wpAny_getItem_of (keyV_kind ry) dd.mapOf hw ⟨rfl, z, H, I.tok _, rw', q⟩) hs
theorem valD_zip : ∀ {ks : List Key} {ys : List V} {i : Nat} {k : Key} {y : V}, ks.Nodup → ks[i]? = some k → ys[i]? = some y → valD (ks.zip ys) k = some y
  | [], _, _, _, _, _, h, _ => by simp at h
  | _ :: _, [], _, _, _, _, _, h => by simp at h
  | k0 :: ks, y0 :: ys, 0, k, y, _, h1, h2 => by
    simp at h1 h2
    subst h1 h2
    simp [valD]
  | k0 :: ks, y0 :: ys, i + 1, k, y, nd, h1, h2 => by
    simp only [List.getElem?_cons_succ] at h1 h2
    have ne : ¬ k0 = k := fun z => by
      rw [z] at nd
      exact (List.nodup_cons.mp nd).1 (List.mem_of_getElem? h1)
    have b1 : valD ((k0 :: ks).zip (y0 :: ys)) k = valD (ks.zip ys) k := by simp [valD, List.find?_cons, ne]
    rw [b1]
    exact valD_zip (List.nodup_cons.mp nd).2 h1 h2
end
section
variable {X : Cx}
end
end L2
namespace L2
open PySem PySem.Spec PyProof.Rows
theorem adne {a b : Nat} (h : a ≠ b) : @Ne Addr a b := h
abbrev IsTrip (h : Heap) (T : Addr) (a b c : Value) : Prop := h.get? T = some { cls := .type "tuple", data := .seq #[a, b, c] }
section
variable {prog : Program} {w : World} {A : Around} {E : Value → Shared → Prop} {s : Shared}
theorem updateTrip {T : Addr} {a b c x : Value} {k : Nat} {Q : Unit → Shared → Prop} (hT : IsTrip s.heap T a b c)
    (h : ∀ h', h'.get? T = some { cls := .type "tuple", data := .seq ((#[a, b, c] : Array Value).setIfInBounds k x) } → Heap.SameBut T s.heap h' → Q () { s with heap := h' }) :
    wpAny (model prog w) A (updateSeq T (·.setIfInBounds k x)) Q E s := by
  refine wpAny_updateSeq hT rfl (h _ ?_ (Heap.SameBut.update ..))
  rw [Heap.get?_update_self _ hT rfl]
  simp [Obj.mapSeq]
variable {n l1 l2 l3 T : Nat} {k : Nat} {xs ys zs : Array Value} {bb : Bool} {oT : Obj}
set_option maxHeartbeats 1000000 in
theorem zip3Item {a b c x y v : Value} {Q : Value → Shared → Prop} (hl : l1 < n ∧ l2 < n ∧ l3 < n)
    (hz : IsZip s.heap (n + 5) (n + 3) (n + 4) .none) (hTI : IsTrip s.heap (n + 3) (.ref n) (.ref (n + 1)) (.ref (n + 2))) (hTO : IsTrip s.heap (n + 4) a b c) (hh : A.handled = none)
    (h1 : ItK s.heap n l1 k true) (h2 : ItK s.heap (n + 1) l2 k true) (h3 : ItK s.heap (n + 2) l3 k true) (q1 : SqK s.heap l1 xs true) (q2 : SqK s.heap l2 ys true) (q3 : SqK s.heap l3 zs true) (hx : xs[k]? = some x) (hy : ys[k]? = some y) (hv : zs[k]? = some v)
    (hQ : ∀ h' tk, IsZip h' (n + 5) (n + 3) (n + 4) (rawInt s.heap.objs.size) → ItK h' n l1 (k + 1) true → ItK h' (n + 1) l2 (k + 1) true → ItK h' (n + 2) l3 (k + 1) true → IsTrip h' s.heap.objs.size x y v → h'.objs.size = s.heap.objs.size + 1 →
      (∀ (c : Nat) o, c ≠ n + 5 → c ≠ n + 4 → c ≠ n → c ≠ n + 1 → c ≠ n + 2 → s.heap.get? c = some o → h'.get? c = some o) → Q (.ref s.heap.objs.size) { s with heap := h', toks := tk }) :
    wpAny (model prog w) A (Builtin.«zip.__next__» ⟨[.ref (n + 5)], []⟩) (fun fin s' => ∃ v, fin = .done (.ret v) ∧ Q v s') E s := by
  obtain ⟨m1, m2, m3⟩ := hl
  have kx : k < xs.size := (Array.getElem?_eq_some_iff.mp hx).1
  have ky : k < ys.size := (Array.getElem?_eq_some_iff.mp hy).1
  have kv : k < zs.size := (Array.getElem?_eq_some_iff.mp hv).1
  have D1 := drawsK (prog := prog) (w := w) hh n l1 (adne (by trivial)) xs true
  have D2 := drawsK (prog := prog) (w := w) hh (n + 1) l2 (adne (by trivial)) ys true
  have D3 := drawsK (prog := prog) (w := w) hh (n + 2) l3 (adne (by trivial)) zs true
  show wpAny _ _ (field (.ref (n + 5)) 2 >>= _) _ _ _; refine wpAny_bind (wpAny_field hz rfl (x := .bool false) rfl ?_)
  show wpAny _ _ (field (.ref (n + 5)) 3 >>= _) _ _ _; refine wpAny_bind (wpAny_field hz rfl (x := .ref (n + 3)) rfl (wpAny_bind (wpAny_seqItems hTI rfl ?_)))
  show wpAny _ _ (Builtin.SmallTypes.ownedTupleIsFree (.ref (n + 5)) >>= _) _ _ _; refine wpAny_bind ?_; unfold Builtin.SmallTypes.ownedTupleIsFree
  refine wpAny_bind (wpAny_field hz rfl (x := .none) rfl (wpAny_pure ?_)); simp only [if_true]
  refine wpAny_bind (wpAny_rule (wpAny_bind (wpAny_field hz rfl (x := .ref (n + 4)) rfl (wpAny_bind (wpAny_setField_rec hz (by simp) fun g1 z1 t1 => ?_)))))
  replace z1 : IsZip g1 (n + 5) (n + 3) (n + 4) .ellipsis := z1
  refine wpAny_bind ?_; simp only [List.zipIdx_cons, List.zipIdx_nil, List.forIn_cons, List.forIn_nil]; refine wpAny_bind (wpAny_bind (wpAny_onRaise ?_))
  show wpAny _ _ (Builtin.SmallTypes.nextOf (.ref n) >>= _) _ _ _
  refine wpAny_bind (D1.item k _ _ _ kx ⟨h1.at fun o e => t1.extBut _ _ (adne (by trivial)) e, q1.at fun o e => t1.extBut _ _ (adne (by trivial)) e⟩ fun x' g2 tk2 p1 st1 t2 => wpAny_pure ?_)
  have ex : x = x' := Option.some.inj (hx.symm.trans p1)
  subst ex
  have TO2 : IsTrip g2 (n + 4) a b c := t2.extBut _ _ (adne (by trivial)) (t1.extBut _ _ (adne (by trivial)) hTO)
  refine wpAny_bind (wpAny_seqItems TO2 rfl (wpAny_bind (updateTrip TO2 fun g3 TO3 t3 => ?_)))
  replace TO3 : IsTrip g3 (n + 4) x b c := TO3
  refine wpAny_bind (wpAny_letGo (wpAny_pure ?_)); refine wpAny_bind (wpAny_bind (wpAny_onRaise ?_)); show wpAny _ _ (Builtin.SmallTypes.nextOf (.ref (n + 1)) >>= _) _ _ _
  refine wpAny_bind (D2.item k _ _ _ ky ⟨h2.at fun o e => t3.extBut _ _ (adne (by trivial)) (t2.extBut _ _ (adne (by trivial)) (t1.extBut _ _ (adne (by trivial)) e)), q2.at fun o e => t3.extBut _ _ (adne (by trivial)) (t2.extBut _ _ (adne (by trivial)) (t1.extBut _ _ (adne (by trivial)) e))⟩ fun y' g4 tk4 p2 st2 t4 => wpAny_pure ?_)
  have ey : y = y' := Option.some.inj (hy.symm.trans p2)
  subst ey
  have TO4 : IsTrip g4 (n + 4) x b c := t4.extBut _ _ (adne (by trivial)) TO3
  refine wpAny_bind (wpAny_seqItems TO4 rfl (wpAny_bind (updateTrip TO4 fun g5 TO5 t5 => ?_)))
  replace TO5 : IsTrip g5 (n + 4) x y c := TO5
  refine wpAny_bind (wpAny_letGo (wpAny_pure ?_)); refine wpAny_bind (wpAny_bind (wpAny_onRaise ?_)); show wpAny _ _ (Builtin.SmallTypes.nextOf (.ref (n + 2)) >>= _) _ _ _
  refine wpAny_bind (D3.item k _ _ _ kv ⟨h3.at fun o e => t5.extBut _ _ (adne (by trivial)) (t4.extBut _ _ (adne (by trivial)) (t3.extBut _ _ (adne (by trivial)) (t2.extBut _ _ (adne (by trivial)) (t1.extBut _ _ (adne (by trivial)) e)))), q3.at fun o e => t5.extBut _ _ (adne (by trivial)) (t4.extBut _ _ (adne (by trivial)) (t3.extBut _ _ (adne (by trivial)) (t2.extBut _ _ (adne (by trivial)) (t1.extBut _ _ (adne (by trivial)) e))))⟩ fun v' g6 tk6 p3 st3 t6 => wpAny_pure ?_)
  have ev : v = v' := Option.some.inj (hv.symm.trans p3)
  subst ev
  have TO6 : IsTrip g6 (n + 4) x y c := t6.extBut _ _ (adne (by trivial)) TO5
  refine wpAny_bind (wpAny_seqItems TO6 rfl (wpAny_bind (updateTrip TO6 fun g7 TO7 t7 => ?_)))
  replace TO7 : IsTrip g7 (n + 4) x y v := TO7
  refine wpAny_bind (wpAny_letGo (wpAny_pure (wpAny_pure ?_))); refine wpAny_bind (wpAny_seqItems TO7 rfl (wpAny_bind (wpAny_newTuple ?_)))
  have sz : g7.objs.size = s.heap.objs.size := by rw [t7.1, t6.1, t5.1, t4.1, t3.1, t2.1, t1.1]
  have keep : ∀ (c : Nat) o, c ≠ n + 5 → c ≠ n + 4 → c ≠ n → c ≠ n + 1 → c ≠ n + 2 → s.heap.get? c = some o → g7.get? c = some o := fun c o d1 d2 d3 d4 d5 e => t7.extBut _ _ d2 (t6.extBut _ _ d5 (t5.extBut _ _ d2 (t4.extBut _ _ d4 (t3.extBut _ _ d2 (t2.extBut _ _ d3 (t1.extBut _ _ d1 e))))))
  have z7 : IsZip g7 (n + 5) (n + 3) (n + 4) .ellipsis := t7.extBut _ _ (adne (by trivial)) (t6.extBut _ _ (adne (by trivial)) (t5.extBut _ _ (adne (by trivial)) (t4.extBut _ _ (adne (by trivial)) (t3.extBut _ _ (adne (by trivial)) (t2.extBut _ _ (adne (by trivial)) z1)))))
  have it1 : ItK g7 n l1 (k + 1) true := st1.1.at fun o e => t7.extBut _ _ (adne (by trivial)) (t6.extBut _ _ (adne (by trivial)) (t5.extBut _ _ (adne (by trivial)) (t4.extBut _ _ (adne (by trivial)) (t3.extBut _ _ (adne (by trivial)) e))))
  have it2 : ItK g7 (n + 1) l2 (k + 1) true := st2.1.at fun o e => t7.extBut _ _ (adne (by trivial)) (t6.extBut _ _ (adne (by trivial)) (t5.extBut _ _ (adne (by trivial)) e))
  have it3 : ItK g7 (n + 2) l3 (k + 1) true := st3.1.at fun o e => t7.extBut _ _ (adne (by trivial)) e
  have zlt : n + 5 < g7.objs.size := Heap.lt_size z7
  show wpAny _ _ (Builtin.SmallTypes.ownedTupleHandOut (.ref (n + 5)) (.ref g7.objs.size) >>= _) _ _ _; refine wpAny_bind ?_; unfold Builtin.SmallTypes.ownedTupleHandOut
  have z8 : IsZip (g7.push { cls := .type "tuple", data := .seq #[x, y, v] }) (n + 5) (n + 3) (n + 4) .ellipsis := Heap.get?_push_of_some _ z7
  refine wpAny_bind (wpAny_setField_rec z8 (by simp) fun g9 z9 t9 => ?_)
  replace z9 : IsZip g9 (n + 5) (n + 3) (n + 4) (rawInt g7.objs.size) := z9
  refine wpAny_setField_rec z9 (by simp) fun gA zA tA => ?_
  replace zA : IsZip gA (n + 5) (n + 3) (n + 4) (rawInt g7.objs.size) := zA
  have up : ∀ (c : Nat) o, c ≠ n + 5 → g7.get? c = some o → gA.get? c = some o := fun c o d e => tA.extBut _ _ d (t9.extBut _ _ d (Heap.get?_push_of_some _ e))
  have TA : IsTrip gA g7.objs.size x y v := tA.extBut _ _ (Nat.ne_of_gt zlt) (t9.extBut _ _ (Nat.ne_of_gt zlt) (Heap.get?_push_size _ rfl))
  have sA : gA.objs.size = g7.objs.size + 1 := by rw [tA.1, t9.1, Heap.size_push]
  rw [sz] at zA TA sA
  refine wpAny_pure ⟨_, rfl, ?_⟩; show Q (.ref g7.objs.size) _; rw [sz]
  exact hQ gA _ zA (it1.at fun o e => up _ o (adne (by trivial)) e) (it2.at fun o e => up _ o (adne (by trivial)) e) (it3.at fun o e => up _ o (adne (by trivial)) e) TA sA fun c o d1 d2 d3 d4 d5 e => up c o d1 (keep c o d1 d2 d3 d4 d5 e)
theorem zip3Item2 {x y v : Value} {Q : Value → Shared → Prop} (hl : l1 < n ∧ l2 < n ∧ l3 < n)
    (hz : IsZipO s.heap (n + 5) (n + 3) (n + 4) (rawInt T) bb) (hT : s.heap.get? T = some oT) (hTI : IsTrip s.heap (n + 3) (.ref n) (.ref (n + 1)) (.ref (n + 2))) (hh : A.handled = none)
    (h1 : ItK s.heap n l1 k true) (h2 : ItK s.heap (n + 1) l2 k true) (h3 : ItK s.heap (n + 2) l3 k true) (q1 : SqK s.heap l1 xs true) (q2 : SqK s.heap l2 ys true) (q3 : SqK s.heap l3 zs true) (hx : xs[k]? = some x) (hy : ys[k]? = some y) (hv : zs[k]? = some v)
    (hQ : ∀ h' tk, IsZipO h' (n + 5) (n + 3) (n + 4) (rawInt T) true → ItK h' n l1 (k + 1) true → ItK h' (n + 1) l2 (k + 1) true → ItK h' (n + 2) l3 (k + 1) true → IsTrip h' s.heap.objs.size x y v → h'.objs.size = s.heap.objs.size + 1 →
      (∀ (c : Nat) o, c ≠ n + 5 → c ≠ n → c ≠ n + 1 → c ≠ n + 2 → s.heap.get? c = some o → h'.get? c = some o) → Q (.ref s.heap.objs.size) { s with heap := h', toks := tk }) :
    wpAny (model prog w) A (Builtin.«zip.__next__» ⟨[.ref (n + 5)], []⟩) (fun fin s' => ∃ v, fin = .done (.ret v) ∧ Q v s') E s := by
  obtain ⟨m1, m2, m3⟩ := hl
  have kx : k < xs.size := (Array.getElem?_eq_some_iff.mp hx).1
  have ky : k < ys.size := (Array.getElem?_eq_some_iff.mp hy).1
  have kv : k < zs.size := (Array.getElem?_eq_some_iff.mp hv).1
  have D1 := drawsK (prog := prog) (w := w) hh n l1 (adne (by trivial)) xs true
  have D2 := drawsK (prog := prog) (w := w) hh (n + 1) l2 (adne (by trivial)) ys true
  have D3 := drawsK (prog := prog) (w := w) hh (n + 2) l3 (adne (by trivial)) zs true
  show wpAny _ _ (field (.ref (n + 5)) 2 >>= _) _ _ _; refine wpAny_bind (wpAny_field hz rfl (x := .bool false) rfl ?_)
  show wpAny _ _ (field (.ref (n + 5)) 3 >>= _) _ _ _; refine wpAny_bind (wpAny_field hz rfl (x := .ref (n + 3)) rfl (wpAny_bind (wpAny_seqItems hTI rfl ?_)))
  show wpAny _ _ (Builtin.SmallTypes.ownedTupleIsFree (.ref (n + 5)) >>= _) _ _ _
  refine wpAny_bind (notFree hz hT fun g1 z1 t1 => ?_)
  simp only [Bool.false_eq_true, if_false]
  refine wpAny_bind ?_
  rw [← Array.forIn_toList]
  simp only [List.forIn_cons, List.forIn_nil]
  refine wpAny_bind (wpAny_bind (wpAny_holding ?_))
  show wpAny _ _ (Builtin.SmallTypes.nextOf (.ref n) >>= _) _ _ _
  refine wpAny_bind (D1.item k _ _ _ kx ⟨h1.at fun o e => t1.extBut _ _ (adne (by trivial)) e, q1.at fun o e => t1.extBut _ _ (adne (by trivial)) e⟩ fun x' g2 tk2 p1 st1 t2 => wpAny_pure ?_)
  have ex : x = x' := Option.some.inj (hx.symm.trans p1)
  subst ex
  refine wpAny_pure ?_
  refine wpAny_bind (wpAny_bind (wpAny_holding ?_))
  show wpAny _ _ (Builtin.SmallTypes.nextOf (.ref (n + 1)) >>= _) _ _ _
  refine wpAny_bind (D2.item k _ _ _ ky ⟨h2.at fun o e => t2.extBut _ _ (adne (by trivial)) (t1.extBut _ _ (adne (by trivial)) e), q2.at fun o e => t2.extBut _ _ (adne (by trivial)) (t1.extBut _ _ (adne (by trivial)) e)⟩ fun y' g4 tk4 p2 st2 t4 => wpAny_pure ?_)
  have ey : y = y' := Option.some.inj (hy.symm.trans p2)
  subst ey
  refine wpAny_pure ?_
  refine wpAny_bind (wpAny_bind (wpAny_holding ?_))
  show wpAny _ _ (Builtin.SmallTypes.nextOf (.ref (n + 2)) >>= _) _ _ _
  refine wpAny_bind (D3.item k _ _ _ kv ⟨h3.at fun o e => t4.extBut _ _ (adne (by trivial)) (t2.extBut _ _ (adne (by trivial)) (t1.extBut _ _ (adne (by trivial)) e)), q3.at fun o e => t4.extBut _ _ (adne (by trivial)) (t2.extBut _ _ (adne (by trivial)) (t1.extBut _ _ (adne (by trivial)) e))⟩ fun v' g6 tk6 p3 st3 t6 => wpAny_pure ?_)
  have ev : v = v' := Option.some.inj (hv.symm.trans p3)
  subst ev
  refine wpAny_pure (wpAny_pure ?_)
  refine wpAny_bind (wpAny_newTuple ?_ (by show 3 ≤ sizeLine; rw [sizeLine_eq]; decide))
  have sz : g6.objs.size = s.heap.objs.size := by rw [t6.1, t4.1, t2.1, t1.1]
  have z6 : IsZipO g6 (n + 5) (n + 3) (n + 4) (rawInt T) true := t6.extBut _ _ (adne (by trivial)) (t4.extBut _ _ (adne (by trivial)) (t2.extBut _ _ (adne (by trivial)) z1))
  refine wpAny_pure ⟨_, rfl, ?_⟩
  show Q (.ref g6.objs.size) _
  have pu : IsTrip (g6.push { cls := .type "tuple", data := .seq #[x, y, v] }) g6.objs.size x y v := Heap.get?_push_size _ rfl
  have ps : (g6.push { cls := .type "tuple", data := .seq #[x, y, v] }).objs.size = s.heap.objs.size + 1 := by rw [Heap.size_push, sz]
  rw [sz] at pu ⊢
  exact hQ _ _ (Heap.get?_push_of_some _ z6) ((st1.1.at fun o e => t6.extBut _ _ (adne (by trivial)) (t4.extBut _ _ (adne (by trivial)) e)).at fun o e => Heap.get?_push_of_some _ e) ((st2.1.at fun o e => t6.extBut _ _ (adne (by trivial)) e).at fun o e => Heap.get?_push_of_some _ e) (st3.1.at fun o e => Heap.get?_push_of_some _ e) pu ps
    fun c o d1 d3 d4 d5 e => Heap.get?_push_of_some _ (t6.extBut _ _ d5 (t4.extBut _ _ d4 (t2.extBut _ _ d3 (t1.extBut _ _ d1 e))))
theorem zip3End {Q : Fin → Shared → Prop} (hh : A.handled = none) (hl : l1 < n) {f0 : Value} (hz : IsZipO s.heap (n + 5) (n + 3) (n + 4) f0 bb) (hf : (f0 = .none ∧ bb = false) ∨ ∃ T : Nat, f0 = rawInt T ∧ ∃ o, s.heap.get? T = some o) (hTI : IsTrip s.heap (n + 3) (.ref n) (.ref (n + 1)) (.ref (n + 2)))
    (h1 : ItK s.heap n l1 k true) (q1 : SqK s.heap l1 xs true) (hend : xs.size = k)
    (hE : ∀ h' e tk, (∀ (c : Nat) o, c ≠ n + 5 → c ≠ n → s.heap.get? c = some o → h'.get? c = some o) → (∃ o, h'.get? e = some o ∧ o.cls = .type "StopIteration") → E (.ref e) { s with heap := h', toks := tk }) :
    wpAny (model prog w) A (Builtin.«zip.__next__» ⟨[.ref (n + 5)], []⟩) Q E s := by
  have D1 := drawsK (prog := prog) (w := w) hh n l1 (adne (by trivial)) xs true
  show wpAny _ _ (field (.ref (n + 5)) 2 >>= _) _ _ _; refine wpAny_bind (wpAny_field hz rfl (x := .bool false) rfl ?_)
  show wpAny _ _ (field (.ref (n + 5)) 3 >>= _) _ _ _; refine wpAny_bind (wpAny_field hz rfl (x := .ref (n + 3)) rfl (wpAny_bind (wpAny_seqItems hTI rfl ?_)))
  show wpAny _ _ (Builtin.SmallTypes.ownedTupleIsFree (.ref (n + 5)) >>= _) _ _ _
  rcases hf with ⟨rfl, rfl⟩ | ⟨T, rfl, oT, hT⟩
  · refine wpAny_bind ?_; unfold Builtin.SmallTypes.ownedTupleIsFree
    refine wpAny_bind (wpAny_field hz rfl (x := .none) rfl (wpAny_pure ?_)); simp only [if_true]
    refine wpAny_bind (wpAny_rule (wpAny_bind (wpAny_field hz rfl (x := .ref (n + 4)) rfl (wpAny_bind (wpAny_setField_rec hz (by simp) fun g1 z1 t1 => ?_)))))
    replace z1 : IsZip g1 (n + 5) (n + 3) (n + 4) .ellipsis := z1
    refine wpAny_bind ?_; simp only [List.zipIdx_cons, List.zipIdx_nil, List.forIn_cons, List.forIn_nil]; refine wpAny_bind (wpAny_bind (wpAny_onRaise ?_))
    show wpAny _ _ (Builtin.SmallTypes.nextOf (.ref n) >>= _) _ _ _
    have st0 : ItK g1 n l1 k true ∧ SqK g1 l1 xs true := ⟨h1.at fun o e => t1.extBut _ _ (adne (by trivial)) e, q1.at fun o e => t1.extBut _ _ (adne (by trivial)) e⟩
    refine wpAny_bind (D1.done _ _ _ (by rw [hend]; exact st0) fun g2 e t2 he => ?_)
    obtain ⟨oe, e1, e2⟩ := he
    have z2 : IsZip g2 (n + 5) (n + 3) (n + 4) .ellipsis := t2 _ _ (adne (by trivial)) z1
    have ez : e ≠ n + 5 := fun q => by subst q; rw [z2] at e1; cases e1; simp at e2
    exact wpAny_setField_rec z2 (by simp) fun g3 _ t3 => hE g3 e _ (fun c o d1 d3 q => t3.extBut _ _ d1 (t2 _ _ d3 (t1.extBut _ _ d1 q))) ⟨oe, t3.extBut _ _ ez e1, e2⟩
  · refine wpAny_bind (notFree hz hT fun g1 z1 t1 => ?_)
    simp only [Bool.false_eq_true, if_false]
    refine wpAny_bind ?_
    rw [← Array.forIn_toList]
    simp only [List.forIn_cons, List.forIn_nil]
    refine wpAny_bind (wpAny_bind (wpAny_holding ?_))
    show wpAny _ _ (Builtin.SmallTypes.nextOf (.ref n) >>= _) _ _ _
    have st0 : ItK g1 n l1 k true ∧ SqK g1 l1 xs true := ⟨h1.at fun o e => t1.extBut _ _ (adne (by trivial)) e, q1.at fun o e => t1.extBut _ _ (adne (by trivial)) e⟩
    refine wpAny_bind (D1.done _ _ _ (by rw [hend]; exact st0) fun g2 e t2 he => ?_)
    exact hE g2 e _ (fun c o d1 d3 q => t2 _ _ d3 (t1.extBut _ _ d1 q)) he
end
end L2
namespace L2
open PySem PySem.Spec PyProof.Rows
structure Z3 (h : Heap) (n l1 l2 l3 : Nat) (xs ys zs : Array Value) (k : Nat) : Prop where
  z : (IsZip h (n + 5) (n + 3) (n + 4) .none ∧ Ex3 fun a b c => IsTrip h (n + 4) a b c) ∨ Ex3 fun (T : Nat) (o : Obj) (bb : Bool) => IsZipO h (n + 5) (n + 3) (n + 4) (rawInt T) bb ∧ h.get? T = some o ∧ n + 6 < T
  t : IsTrip h (n + 3) (.ref n) (.ref (n + 1)) (.ref (n + 2))
  a : ItK h n l1 k true
  b : ItK h (n + 1) l2 k true
  c : ItK h (n + 2) l3 k true
  d : SqK h l1 xs true
  e : SqK h l2 ys true
  f : SqK h l3 zs true
section
variable {prog : Program} {w : World} {A : Around} {E : Value → Shared → Prop} {s : Shared}
variable {n l1 l2 l3 : Nat} {k : Nat} {xs ys zs : Array Value}
theorem Z3.keep {h h' : Heap} (st : Z3 h n l1 l2 l3 xs ys zs k) (hl : l1 < n ∧ l2 < n ∧ l3 < n) (kp : ∀ (c : Nat) o, c ≠ n + 6 → h.get? c = some o → h'.get? c = some o) : Z3 h' n l1 l2 l3 xs ys zs k := by
  refine ⟨?_, kp _ _ (by trivial) st.t, st.a.at fun o e => kp _ o (by trivial) e, st.b.at fun o e => kp _ o (by trivial) e, st.c.at fun o e => kp _ o (by trivial) e, st.d.at fun o e => kp _ o (by trivial) e, st.e.at fun o e => kp _ o (by trivial) e, st.f.at fun o e => kp _ o (by trivial) e⟩
  rcases st.z with ⟨h1, a, b, c, h2⟩ | ⟨T, o, bb, h1, h2, h3⟩
  · exact .inl ⟨kp _ _ (by trivial) h1, a, b, c, kp _ _ (by trivial) h2⟩
  · exact .inr ⟨T, o, bb, kp _ _ (by trivial) h1, kp _ _ (by trivial) h2, h3⟩
theorem zip3_next {x y v : Value} {Q : Option Value → Shared → Prop} (hl : l1 < n ∧ l2 < n ∧ l3 < n) (hsz : n + 6 < s.heap.objs.size)
    (st : Z3 s.heap n l1 l2 l3 xs ys zs k) (hh : A.handled = none) (hx : xs[k]? = some x) (hy : ys[k]? = some y) (hv : zs[k]? = some v)
    (hQ : ∀ h' tk, Z3 h' n l1 l2 l3 xs ys zs (k + 1) → IsTrip h' s.heap.objs.size x y v → h'.objs.size = s.heap.objs.size + 1 → (∀ (c : Nat) o, c ≠ n + 5 → c ≠ n + 4 → c ≠ n → c ≠ n + 1 → c ≠ n + 2 → s.heap.get? c = some o → h'.get? c = some o) → Q (some (.ref s.heap.objs.size)) { s with heap := h', toks := tk }) :
    wpAny (model prog w) A (pyNext (.ref (n + 5))) Q E s := by
  rcases st.z with ⟨hz, a, b, c, hTO⟩ | ⟨T, o, bb, hz, hT, hn⟩
  · have hT' : s.TypeIs (.ref (n + 5)) "zip" := ⟨_, hz, rfl⟩
    unfold pyNext
    refine wpAny_bind (wpAny_attempt (wpAny_callSpecial?_slot (name := Str.ofString "__next__") hT' F.slot_zip_next (wpAny_call_entry F.slot_zip_next hT' F.entry_zip_next
      (zip3Item hl hz st.t hTO hh st.a st.b st.c st.d st.e st.f hx hy hv fun h' tk zo t1 t2 t3 T' sz keep => wpAny_pure ?_) (F.args_zip_next_1 _))))
    refine hQ h' tk ⟨.inr ⟨s.heap.objs.size, _, false, zo, T', hsz⟩, keep _ _ (by trivial) (by trivial) (by trivial) (by trivial) (by trivial) st.t, t1, t2, t3, st.d.at fun o e => keep _ o (by trivial) (by trivial) (by trivial) (by trivial) (by trivial) e, st.e.at fun o e => keep _ o (by trivial) (by trivial) (by trivial) (by trivial) (by trivial) e, st.f.at fun o e => keep _ o (by trivial) (by trivial) (by trivial) (by trivial) (by trivial) e⟩ T' sz keep
  · have hT' : s.TypeIs (.ref (n + 5)) "zip" := ⟨_, hz, rfl⟩
    unfold pyNext
    refine wpAny_bind (wpAny_attempt (wpAny_callSpecial?_slot (name := Str.ofString "__next__") hT' F.slot_zip_next (wpAny_call_entry F.slot_zip_next hT' F.entry_zip_next
      (zip3Item2 hl hz hT st.t hh st.a st.b st.c st.d st.e st.f hx hy hv fun h' tk zo t1 t2 t3 T' sz keep => wpAny_pure ?_) (F.args_zip_next_1 _))))
    refine hQ h' tk ⟨.inr ⟨T, o, true, zo, keep _ _ (by trivial) (by trivial) (by trivial) (by trivial) hT, hn⟩, keep _ _ (by trivial) (by trivial) (by trivial) (by trivial) st.t, t1, t2, t3, st.d.at fun o e => keep _ o (by trivial) (by trivial) (by trivial) (by trivial) e, st.e.at fun o e => keep _ o (by trivial) (by trivial) (by trivial) (by trivial) e, st.f.at fun o e => keep _ o (by trivial) (by trivial) (by trivial) (by trivial) e⟩ T' sz fun c o d1 _ d3 d4 d5 e => keep c o d1 d3 d4 d5 e
theorem zip3_end {Q : Option Value → Shared → Prop} (hl : l1 < n ∧ l2 < n ∧ l3 < n) (st : Z3 s.heap n l1 l2 l3 xs ys zs k) (hh : A.handled = none) (hend : xs.size = k)
    (hQ : ∀ h' tk, (∀ (c : Nat) o, c ≠ n + 5 → c ≠ n → s.heap.get? c = some o → h'.get? c = some o) → Q none { s with heap := h', toks := tk }) :
    wpAny (model prog w) A (pyNext (.ref (n + 5))) Q E s := by
  obtain ⟨f0, bb, hz, hf⟩ : Ex2 fun f0 bb => IsZipO s.heap (n + 5) (n + 3) (n + 4) f0 bb ∧ ((f0 = .none ∧ bb = false) ∨ ∃ T : Nat, f0 = rawInt T ∧ ∃ o, s.heap.get? T = some o) := by
    rcases st.z with ⟨hz, _⟩ | ⟨T, o, bb, hz, hT, hn⟩
    · exact ⟨_, _, hz, .inl ⟨rfl, rfl⟩⟩
    · exact ⟨_, _, hz, .inr ⟨T, rfl, o, hT⟩⟩
  have hT' : s.TypeIs (.ref (n + 5)) "zip" := ⟨_, hz, rfl⟩
  unfold pyNext
  refine wpAny_bind (wpAny_attempt (wpAny_callSpecial?_slot (name := Str.ofString "__next__") hT' F.slot_zip_next (wpAny_call_entry F.slot_zip_next hT' F.entry_zip_next
    (zip3End hh hl.1 hz hf st.t st.a st.d hend fun h' e tk hk he => ?_) (F.args_zip_next_1 _))))
  obtain ⟨o, ho, hc⟩ := he
  exact wpAny_bind (wpAny_isInstance (T := "StopIteration") (b := true) ⟨o, ho, hc⟩ isSubtype_stop (wpAny_pure (hQ _ tk hk)))
end
section
variable {prog : Program} {w : World} {A : Around} {E : Value → Shared → Prop} {R : Result → Shared → Prop}
variable {n l1 l2 l3 : Nat} {xs ys zs : Array Value}
def Trips (h : Heap) (ts : List Nat) (xs ys zs : Array Value) : Prop := ∀ (i : Nat) t, ts[i]? = some t → Ex3 fun x y v => xs[i]? = some x ∧ ys[i]? = some y ∧ zs[i]? = some v ∧ IsTrip h t x y v
theorem fill_zip3 (hl : l1 < n ∧ l2 < n ∧ l3 < n) (hh : A.handled = none) (ly : ys.size = xs.size) (lz : zs.size = xs.size) (hz : xs.size ≤ 4000) :
    ∀ (r i : Nat) (ts : List Nat) (c : Nat) (s : Shared), xs.size - i = r → i ≤ xs.size → Z3 s.heap n l1 l2 l3 xs ys zs i → n + 6 < s.heap.objs.size → ts.length = i → (∀ t ∈ ts, n + 6 < t) → ts.Nodup → Trips s.heap ts xs ys zs →
      s.heap.get? (n + 6) = some { cls := .type "list", data := .seq (ts.map Value.ref).toArray c } →
      (∀ h' tk ts' c', ts'.length = xs.size → (∀ t ∈ ts', n + 6 < t) → ts'.Nodup → Trips h' ts' xs ys zs → h'.get? (n + 6) = some { cls := .type "list", data := .seq (ts'.map Value.ref).toArray c' } → (∀ (c : Nat) o, c < n → s.heap.get? c = some o → h'.get? c = some o) → (∀ t ∈ ts', t ∉ ts → s.heap.get? t = none) → R (.ok (.ret .none)) { s with heap := h', toks := tk }) →
      codeAny (model prog w) A (.builtin "list.extend.loop" ⟨[.ref (n + 6), .ref (n + 5), .none], []⟩) R s := by
  intro r
  induction r with
  | zero =>
    intro i ts c s hr hi st hs lt ht nd tr hS hR
    have e : i = xs.size := by trivial
    refine codeAny_builtin F.entry_extend_loop ?_
    rw [A.under_plainId F.plain_extend_loop]
    show wpAny _ _ (pyNext (Value.ref (n + 5)) >>= _) _ _ _
    refine wpAny_bind (zip3_end hl st (by simpa using hh) e.symm fun h' tk keep => ?_)
    refine wpAny_pure (hR h' tk ts c (by trivial) ht nd (fun j t hj => ?_) (keep _ _ (by trivial) (by trivial) hS) (fun b o hb q => keep b o (by trivial) (by trivial) q) fun t h1 h2 => absurd h1 h2)
    obtain ⟨x, y, v, a1, a2, a3, a4⟩ := tr j t hj
    have := ht t (List.mem_of_getElem? hj)
    exact ⟨x, y, v, a1, a2, a3, keep _ _ (by trivial) (by trivial) a4⟩
  | succ r ih =>
    intro i ts c s hr hi st hs lt ht nd tr hS hR
    have lt' : i < xs.size := by trivial
    have hx : xs[i]? = some xs[i] := Array.getElem?_eq_getElem (by trivial)
    have hy : ys[i]? = some ys[i] := Array.getElem?_eq_getElem (by trivial)
    have hv : zs[i]? = some zs[i] := Array.getElem?_eq_getElem (by trivial)
    refine codeAny_builtin F.entry_extend_loop ?_
    rw [A.under_plainId F.plain_extend_loop]
    show wpAny _ _ (pyNext (Value.ref (n + 5)) >>= _) _ _ _
    refine wpAny_bind (zip3_next hl hs st (by simpa using hh) hx hy hv fun h' tk st' T' sz keep => ?_)
    have hS' := keep _ _ (by trivial) (by trivial) (by trivial) (by trivial) (by trivial) hS
    show wpAny _ _ (updateSeq (n + 6) (·.push (.ref s.heap.objs.size)) >>= _) _ _ _
    refine wpAny_bind (wpAny_updateSeq (s := { s with heap := h', toks := tk }) hS' rfl ?_)
    have e2 := Heap.get?_update_self (Obj.mapSeq (·.push (Value.ref s.heap.objs.size))) hS' rfl
    obtain ⟨c2, e3⟩ : ∃ c2, (h'.update (n + 6) (Obj.mapSeq (·.push (Value.ref s.heap.objs.size)))).get? (n + 6) = some { cls := .type "list", data := .seq ((ts ++ [s.heap.objs.size]).map Value.ref).toArray c2 } := by
      rw [e2]
      simp only [Obj.mapSeq, List.map_append, List.map_cons, List.map_nil, List.push_toArray]
      exact ⟨_, rfl⟩
    have oth : ∀ (b : Nat) o, b ≠ n + 6 → h'.get? b = some o → (h'.update (n + 6) (Obj.mapSeq (·.push (Value.ref s.heap.objs.size)))).get? b = some o := fun b o hb q => (Heap.get?_update_other _ _ (adne (Ne.symm hb))).trans q
    have fr : s.heap.get? s.heap.objs.size = none := Heap.get?_none_of_le (Nat.le_refl _)
    have old : ∀ t ∈ ts, t < s.heap.objs.size := fun t hm => by
      obtain ⟨j, hj⟩ := List.getElem?_of_mem hm
      obtain ⟨_, _, _, _, _, _, a4⟩ := tr j t hj
      exact Heap.lt_size a4
    refine wpAny_pure ⟨plainId_quiet F.plain_extend_loop _, ih (i + 1) (ts ++ [s.heap.objs.size]) c2 _ (by trivial) (by trivial) (st'.keep hl oth) (by show n + 6 < (h'.update _ _).objs.size; rw [Heap.size_update, sz]; trivial) (by rw [List.length_append, lt]; rfl) (fun t hm => ?_) (List.nodup_append.mpr ⟨nd, by simp, fun a ha b hb e => ?_⟩) (fun j t hj => ?_) e3 fun h3 tk3 ts3 c3 l3' g3 n3 tr3 e4 k3 f3 => hR h3 tk3 ts3 c3 l3' g3 n3 tr3 e4 (fun b o hb q => k3 b o hb (oth b o (by trivial) (keep b o (by trivial) (by trivial) (by trivial) (by trivial) (by trivial) q))) fun t h1 h2 => ?_⟩
    · rcases List.mem_append.mp hm with hm | hm
      · exact ht t hm
      · rw [List.mem_singleton.mp hm]; exact hs
    · rw [List.mem_singleton] at hb
      have := old a ha
      rw [e, hb] at this
      exact absurd this (Nat.lt_irrefl _)
    · by_cases hjl : j < ts.length
      · rw [List.getElem?_append_left hjl] at hj
        obtain ⟨x, y, v, a1, a2, a3, a4⟩ := tr j t hj
        have := ht t (List.mem_of_getElem? hj)
        exact ⟨x, y, v, a1, a2, a3, oth _ _ (by trivial) (keep _ _ (by trivial) (by trivial) (by trivial) (by trivial) (by trivial) a4)⟩
      · have ej : j = i := by
          have := (List.getElem?_eq_some_iff.mp hj).1
          rw [List.length_append] at this
          simp at this
          trivial
        subst ej
        rw [List.getElem?_append_right (by trivial), lt, Nat.sub_self] at hj
        simp at hj
        subst hj
        exact ⟨_, _, _, hx, hy, hv, oth _ _ (by trivial) T'⟩
    · by_cases hm : t = s.heap.objs.size
      · rw [hm]; exact fr
      · have q := f3 t h1 (fun z => by
          rcases List.mem_append.mp z with z | z
          · exact h2 z
          · exact hm (List.mem_singleton.mp z))
        cases e : s.heap.get? t with
        | none => rfl
        | some o =>
          have hlt := Heap.lt_size e
          have g := g3 t h1
          have := oth t o (by trivial) (keep t o (by trivial) (by trivial) (by trivial) (by trivial) (by trivial) e)
          rw [show (h'.update (n + 6) (Obj.mapSeq (·.push (Value.ref s.heap.objs.size)))).get? t = none from q] at this
          cases this
end
theorem zip_len_miss : typeLookup (.type "zip") "__len__" = pure none := am_miss_of_fast (by kernel_rfl)
theorem zip_hint_miss : typeLookup (.type "zip") "__length_hint__" = pure none := am_miss_of_fast (by kernel_rfl)
theorem typeCall_zip_3 (a b c : Value) : checkTypeCall "zip" ⟨[a, b, c], []⟩ = pure () := by kernel_rfl
theorem newCall_zip_3 (a b c : Value) : checkBuiltinCall "zip.__new__" ⟨[.type "zip", a, b, c], []⟩ = pure () := by kernel_rfl
theorem args_object_init_4 (a b c d : Value) : argsOk "object.__init__" ⟨[a, b, c, d], []⟩ := by
  unfold argsOk; rw [signature?_of (id := "object.__init__") (n := ['_', '_', 't', 'i', 'n', 'i', '_', '_']) (o := ['t', 'c', 'e', 'j', 'b', 'o']) (by kernel_rfl) F.owner_object]; kernel_rfl
abbrev y3A (h : Heap) (l1 : Addr) : Heap := h.push { cls := .type "list_iterator", data := .fields #[.ref l1, .int 0 0] }
abbrev y3B (h : Heap) (l1 l2 : Addr) : Heap := (y3A h l1).push { cls := .type "list_iterator", data := .fields #[.ref l2, .int 0 0] }
abbrev y3C (h : Heap) (l1 l2 l3 : Addr) : Heap := (y3B h l1 l2).push { cls := .type "list_iterator", data := .fields #[.ref l3, .int 0 0] }
abbrev y3D (h : Heap) (l1 l2 l3 : Addr) : Heap := (y3C h l1 l2 l3).push { cls := .type "tuple", data := .seq #[.ref h.objs.size, .ref (y3A h l1).objs.size, .ref (y3B h l1 l2).objs.size] }
abbrev y3E (h : Heap) (l1 l2 l3 : Addr) : Heap := (y3D h l1 l2 l3).push { cls := .type "tuple", data := .seq #[.none, .none, .none] }
abbrev y3F (h : Heap) (l1 l2 l3 : Addr) : Heap := (y3E h l1 l2 l3).push { cls := .type "zip", data := .fields #[.none, .bool false, .bool false, .ref (y3C h l1 l2 l3).objs.size, .ref (y3D h l1 l2 l3).objs.size] }
set_option maxHeartbeats 8000000 in
theorem zip3New (l1 l2 l3 : Addr) (xs ys zs : Array Value) :
    Meets (Builtin.«zip.__new__» ⟨[.type "zip", .ref l1, .ref l2, .ref l3], []⟩) (fun _ R s => SqK s.heap l1 xs true ∧ SqK s.heap l2 ys true ∧ SqK s.heap l3 zs true ∧ R (.ok (.ret (.ref (y3E s.heap l1 l2 l3).objs.size))) { s with heap := y3F s.heap l1 l2 l3 }) :=
  .of_wp fun prog w A R s h => by
    obtain ⟨hp, g, d, tk, os⟩ := s; obtain ⟨q1, q2, q3, h⟩ := h
    have hsub := sub_zip
    have L2' : SqK (Shared.heap ⟨y3A hp l1, g, d, tk, os⟩) l2 ys true := SqK.at q2 fun o e => Heap.get?_push_of_some _ e
    have L3' : SqK (Shared.heap ⟨y3B hp l1 l2, g, d, tk, os⟩) l3 zs true := SqK.at q3 fun o e => Heap.get?_push_of_some _ (Heap.get?_push_of_some _ e)
    have g1 : Heap.IsList (Shared.heap ⟨hp, g, d, tk, os⟩) l1 xs := q1
    have g2 : Heap.IsList (Shared.heap ⟨y3A hp l1, g, d, tk, os⟩) l2 ys := L2'
    have g3 : Heap.IsList (Shared.heap ⟨y3B hp l1 l2, g, d, tk, os⟩) l3 zs := L3'
    wp_walk using wpAny_pyIter_list g1, wpAny_pyIter_list g2, wpAny_pyIter_list g3
    exact ⟨_, rfl, h⟩
section
variable {prog : Program} {w : World} {A : Around} {E : Value → Shared → Prop} {s : Shared}
theorem call_zip3 {l1 l2 l3 : Addr} {xs ys zs : Array Value} {Q : Value → Shared → Prop} (q1 : SqK s.heap l1 xs true) (q2 : SqK s.heap l2 ys true) (q3 : SqK s.heap l3 zs true)
    (h : ∀ h', Z3 h' s.heap.objs.size l1 l2 l3 xs ys zs 0 → h'.objs.size = s.heap.objs.size + 6 → (∀ c o, s.heap.get? c = some o → h'.get? c = some o) → IsZip h' (s.heap.objs.size + 5) (s.heap.objs.size + 3) (s.heap.objs.size + 4) .none → Q (.ref (s.heap.objs.size + 5)) { s with heap := h' }) :
    wpAny (model prog w) A (call (.type "zip") [.ref l1, .ref l2, .ref l3]) Q E s := by
  refine callType_new F.called_zip (by decide) (typeCall_zip_3 _ _ _) (newCall_zip_3 _ _ _) (fun obj => args_object_init_4 obj _ _ _) F.entry_zip_new (zip3New l1 l2 l3 xs ys zs) ⟨q1, q2, q3, ?_⟩
  have s1 : (y3A s.heap l1).objs.size = s.heap.objs.size + 1 := Heap.size_push ..
  have s2 : (y3B s.heap l1 l2).objs.size = s.heap.objs.size + 2 := by rw [Heap.size_push, s1]
  have s3 : (y3C s.heap l1 l2 l3).objs.size = s.heap.objs.size + 3 := by rw [Heap.size_push, s2]
  have s4 : (y3D s.heap l1 l2 l3).objs.size = s.heap.objs.size + 4 := by rw [Heap.size_push, s3]
  have s5 : (y3E s.heap l1 l2 l3).objs.size = s.heap.objs.size + 5 := by rw [Heap.size_push, s4]
  have s6 : (y3F s.heap l1 l2 l3).objs.size = s.heap.objs.size + 6 := by rw [Heap.size_push, s5]
  have g6 : (y3F s.heap l1 l2 l3).get? (y3E s.heap l1 l2 l3).objs.size = some _ := Heap.get?_push_size _ rfl
  have g5 : (y3F s.heap l1 l2 l3).get? (y3D s.heap l1 l2 l3).objs.size = some _ := Heap.get?_push_of_some _ (Heap.get?_push_size _ rfl)
  have g4 : (y3F s.heap l1 l2 l3).get? (y3C s.heap l1 l2 l3).objs.size = some _ := Heap.get?_push_of_some _ (Heap.get?_push_of_some _ (Heap.get?_push_size _ rfl))
  have g3 : (y3F s.heap l1 l2 l3).get? (y3B s.heap l1 l2).objs.size = some _ := Heap.get?_push_of_some _ (Heap.get?_push_of_some _ (Heap.get?_push_of_some _ (Heap.get?_push_size _ rfl)))
  have g2 : (y3F s.heap l1 l2 l3).get? (y3A s.heap l1).objs.size = some _ := Heap.get?_push_of_some _ (Heap.get?_push_of_some _ (Heap.get?_push_of_some _ (Heap.get?_push_of_some _ (Heap.get?_push_size _ rfl))))
  have g1 : (y3F s.heap l1 l2 l3).get? s.heap.objs.size = some _ := Heap.get?_push_of_some _ (Heap.get?_push_of_some _ (Heap.get?_push_of_some _ (Heap.get?_push_of_some _ (Heap.get?_push_of_some _ (Heap.get?_push_size _ rfl)))))
  have up : ∀ c o, s.heap.get? c = some o → (y3F s.heap l1 l2 l3).get? c = some o := fun c o x => Heap.get?_push_of_some _ (Heap.get?_push_of_some _ (Heap.get?_push_of_some _ (Heap.get?_push_of_some _ (Heap.get?_push_of_some _ (Heap.get?_push_of_some _ x)))))
  show _ ∧ _
  rw [s3, s4, s5] at g6
  rw [s1, s2, s3] at g4
  rw [s4] at g5
  rw [s2] at g3
  rw [s1] at g2
  rw [s5]
  exact ⟨⟨_, g6, rfl⟩, h _ ⟨.inl ⟨g6, _, _, _, g5⟩, g4, ⟨_, g1, rfl, rfl⟩, ⟨_, g2, rfl, rfl⟩, ⟨_, g3, rfl, rfl⟩, q1.at fun o e => up _ o e, q2.at fun o e => up _ o e, q3.at fun o e => up _ o e⟩ s6 up g6⟩
set_option maxHeartbeats 1000000 in
theorem call_listZip3 {n l1 l2 l3 : Nat} {xs ys zs : Array Value} {Q : Value → Shared → Prop} (hl : l1 < n ∧ l2 < n ∧ l3 < n) (st : Z3 s.heap n l1 l2 l3 xs ys zs 0) (hz : IsZip s.heap (n + 5) (n + 3) (n + 4) .none) (hs : s.heap.objs.size = n + 6) (hh : A.handled = none) (ly : ys.size = xs.size) (lz : zs.size = xs.size) (h4 : xs.size ≤ 4000)
    (h : ∀ h' tk ts' c', ts'.length = xs.size → (∀ t ∈ ts', n + 6 < t) → ts'.Nodup → Trips h' ts' xs ys zs → h'.get? (n + 6) = some { cls := .type "list", data := .seq (ts'.map Value.ref).toArray c' } → (∀ (c : Nat) o, c < n → s.heap.get? c = some o → h'.get? c = some o) → Q (.ref (n + 6)) { s with heap := h', toks := tk }) :
    wpAny (model prog w) A (call (.type "list") [.ref (n + 5)]) Q E s := by
  refine callType_codes (Q₁ := fun obj s₁ => obj = .ref s.heap.objs.size ∧ s₁ = { s with heap := s.heap.push { cls := .type "list", data := .seq #[] } }) F.called_list (F.typeCall_list_1 _) F.entry_list_init (code_list_new _ ⟨rfl, rfl⟩) fun obj s₁ h₁ => ?_
  obtain ⟨rfl, rfl⟩ := h₁
  have hS : (s.heap.push { cls := .type "list", data := .seq #[] }).get? (n + 6) = some { cls := .type "list", data := .seq #[] } := by rw [← hs]; exact Heap.get?_push_size _ rfl
  rw [hs]
  refine ⟨⟨_, hS, rfl⟩, F.args_list_init_2 _ _, ?_⟩
  have st1 : Z3 (s.heap.push { cls := .type "list", data := .seq #[] }) n l1 l2 l3 xs ys zs 0 := st.keep hl fun c o _ e => Heap.get?_push_of_some _ e
  show wpAny _ _ (do let old ← Builtin.List.listItems (.ref (n + 6)); Builtin.List.listUpdate (.ref (n + 6)) (fun _ => #[]); letGo old.toList.reverse; Builtin.List.listExtendWith (.ref (n + 6)) (.ref (n + 5)) .none) _ _ _
  refine wpAny_bind ?_
  unfold Builtin.List.listItems
  refine wpAny_bind (wpAny_seqItems hS rfl (wpAny_pure ?_))
  show wpAny _ _ (updateSeq (n + 6) (fun _ => #[]) >>= fun _ => letGo (#[] : Array Value).toList.reverse >>= fun _ => Builtin.List.listExtendWith (.ref (n + 6)) (.ref (n + 5)) .none) _ _ _
  refine wpAny_bind (wpAny_updateSeq hS rfl ?_)
  have hS₂ := Heap.get?_update_self (Obj.mapSeq (fun _ => (#[] : Array Value))) hS rfl
  have oth : ∀ (b : Nat) o, b ≠ n + 6 → (s.heap.push { cls := .type "list", data := .seq #[] }).get? b = some o → ((s.heap.push { cls := .type "list", data := .seq #[] }).update (n + 6) (Obj.mapSeq (fun _ => (#[] : Array Value)))).get? b = some o :=
    fun b o hb e => (Heap.get?_update_other _ _ (adne (Ne.symm hb))).trans e
  refine wpAny_bind (wpAny_letGo ?_)
  have st2 := st1.keep hl oth
  have hz2 := oth _ _ (by trivial) (Heap.get?_push_of_some { cls := .type "list", data := .seq #[] } hz)
  unfold Builtin.List.listExtendWith
  refine wpAny_bind (wpAny_typeOf (T := "zip") ⟨_, hz2, rfl⟩ ?_)
  have h1 : Builtin.List.listSameRef (.ref (n + 6)) (.ref (n + 5)) = false := by simp [Builtin.List.listSameRef]
  have h2 : (Value.type "zip" == Value.type "list") = false := by decide
  have h3 : (Value.type "zip" == Value.type "tuple") = false := by decide
  simp only [h1, h2, h3, Bool.or_false, Bool.false_eq_true, if_false]
  refine wpAny_bind (wpAny_pyIter_zip hz2 ?_)
  refine wpAny_bind (wpAny_holding ?_)
  unfold Builtin.List.listLengthHint
  refine wpAny_bind (wpAny_specialOf (T := "zip") ⟨_, hz2, rfl⟩ zip_len_miss ?_)
  refine wpAny_ite_split (fun hab => absurd hab (by decide)) (fun _ => ?_)
  refine wpAny_ite_split (fun hab => absurd hab (by decide)) (fun _ => ?_)
  refine wpAny_bind (wpAny_specialOf (T := "zip") ⟨_, hz2, rfl⟩ zip_hint_miss ?_)
  refine wpAny_pure ?_
  simp only [Bool.true_or, if_true]
  refine wpAny_bind (wpAny_rule ?_)
  refine wpAny_bind ?_
  show wpAny _ _ (updateSeq (n + 6) (·.push .none) >>= fun _ => updateSeq (n + 6) (·.pop)) _ _ _
  refine wpAny_bind (wpAny_updateSeq hS₂ rfl ?_)
  have hS₃ := Heap.get?_update_self (Obj.mapSeq (·.push Value.none)) hS₂ rfl
  refine wpAny_updateSeq (hz := by seq_fits) hS₃ rfl ?_
  have hS₄ := Heap.get?_update_self (Obj.mapSeq (·.pop)) hS₃ rfl
  obtain ⟨c4, e4⟩ : ∃ c4, ((((s.heap.push { cls := .type "list", data := .seq #[] }).update (n + 6) (Obj.mapSeq (fun _ => (#[] : Array Value)))).update (n + 6) (Obj.mapSeq (·.push Value.none))).update (n + 6) (Obj.mapSeq (·.pop))).get? (n + 6) = some { cls := .type "list", data := .seq (([] : List Nat).map Value.ref).toArray c4 } := by
    rw [hS₄]
    simp only [Obj.mapSeq, List.map_nil]
    exact ⟨_, rfl⟩
  have oth4 : ∀ (b : Nat) o, b ≠ n + 6 → (s.heap.push { cls := .type "list", data := .seq #[] }).get? b = some o → ((((s.heap.push { cls := .type "list", data := .seq #[] }).update (n + 6) (Obj.mapSeq (fun _ => (#[] : Array Value)))).update (n + 6) (Obj.mapSeq (·.push Value.none))).update (n + 6) (Obj.mapSeq (·.pop))).get? b = some o :=
    fun b o hb e => (Heap.get?_update_other _ _ (adne (Ne.symm hb))).trans ((Heap.get?_update_other _ _ (adne (Ne.symm hb))).trans (oth b o hb e))
  refine wpAny_pure ⟨plainId_quiet F.plain_extend_loop _, ?_⟩
  refine fill_zip3 hl (by simpa using hh) ly lz h4 xs.size 0 [] c4 _ rfl (Nat.zero_le _) (st1.keep hl oth4) (by show n + 6 < Array.size _; rw [Heap.size_update, Heap.size_update, Heap.size_update, Heap.size_push, hs]; trivial) rfl (fun t ht => (by cases ht)) List.nodup_nil (fun j t hj => (by simp at hj)) e4 fun h' tk ts' c' l g nd tr e k f => ?_
  exact ⟨rfl, h h' tk ts' c' l g nd tr e fun c o hc q => k c o hc (oth4 c o (by trivial) (Heap.get?_push_of_some _ q))⟩
end
def ovl (H : Hp) (N : Addr → Option HO) : Hp := fun b => match N b with | some o => some o | none => H b
theorem ovl_some {H : Hp} {N : Addr → Option HO} {b : Addr} {o : HO} (h : N b = some o) : ovl H N b = some o := by unfold ovl; rw [h]
theorem ovl_none {H : Hp} {N : Addr → Option HO} {b : Addr} (h : N b = none) : ovl H N b = H b := by unfold ovl; rw [h]
section
variable {X : Cx} {pins : List (Addr × Obj)} {σ : St} {H : Hp} {s : Shared} {h' : Heap}
theorem Inv.many {t' : Nat} {N : Addr → Option HO} (I : Inv X pins σ H s) (k : ∀ b u, s.heap.get? b = some u → h'.get? b = some u)
    (hN : ∀ b o, N b = some o → s.heap.objs.size ≤ b) (new : ∀ b o, N b = some o → ObjOk X.prog X.w (ovl H N) h' b o) : Inv X pins σ (ovl H N) { s with heap := h', toks := t' } := by
  have old : ∀ b, b < s.heap.objs.size → N b = none := fun b hb => by
    cases e : N b with
    | none => rfl
    | some o => exact absurd (Nat.lt_of_lt_of_le hb (hN b o e)) (Nat.lt_irrefl _)
  have hs : ∀ b u, H b = some u → ovl H N b = some u := fun b u e => by rw [ovl_none (old b (I.hok.lt e))]; exact e
  refine I.step (g' := s.gens) (d' := s.drawn) (ch := []) (fun b hb => (by cases hb)) (fun b o _ _ _ e _ => k b o e) (fun b o _ _ _ e _ => ⟨o.slots, k b o e⟩) (fun b o _ e n => ?_)
    (fun b o _ e => ⟨o, k b o e⟩) (fun b xs e => hs b _ e) (fun b o u e => hs b _ e) (fun b ps e => ⟨#[], by rw [hs b _ e]; simp⟩) (fun m hm => ?_) (fun b u e => ?_) I.bare
  · rw [ovl_none (old b (Heap.lt_size e))]; exact n
  · obtain ⟨o, es, ep, ho, r⟩ := hm
    exact ⟨o, es, ep, k _ o ho, r⟩
  · cases hb : N b with
    | some o =>
      rw [ovl_some hb] at e
      cases e
      exact new b _ hb
    | none =>
      rw [ovl_none hb] at e
      exact (I.hok b u e).stay (fun c v hc q => k c v q) (fun c q => hs c _ q) fun c xs q => hs c _ q
end
def tListZ3 (K : PySem.W.Frag) (ta : TA) : TE := fun σ H Q => ta σ H fun vs H1 => Ex6 fun (a1 a2 a3 : Addr) (xs ys zs : List V) => vs = [.ref a1, .ref a2, .ref a3] ∧ SqL K H1 a1 xs ∧ SqL K H1 a2 ys ∧ SqL K H1 a3 zs ∧ ys.length = xs.length ∧ zs.length = xs.length ∧ xs.length ≤ 4000 ∧
  ∀ (l : Addr) (ts : List Addr) (H' : Hp), Same H1 H' → H1 l = none → H' l = some (.lst (ts.map V.ref)) → ts.length = xs.length → (∀ (i : Nat) t, ts[i]? = some t → Ex3 fun x y z => xs[i]? = some x ∧ ys[i]? = some y ∧ zs[i]? = some z ∧ H' t = some (.tup [x, y, z])) → Q (.ref l) H'
section
variable {X : Cx} {K : PySem.W.Frag} {a b c : Expr} {ta : TA} {p1 p2 p3 p4 : Pos}
theorem pe_listZ3 (hc : X.calm = true) (hg1 : Gl X "list") (hm1 : X.mg "list" = none) (hg2 : Gl X "zip") (hm2 : X.mg "zip" = none) (ha : PA X [a, b, c] ta) (ek : X.K = K := by rfl) (hs : starEach [a, b, c] X.env = [(false, eval a X.env), (false, eval b X.env), (false, eval c X.env)] := by rfl) (hs2 : starEach [b, c] X.env = [(false, eval b X.env), (false, eval c X.env)] := by rfl)
    (hs3 : starEach [Expr.Call (.Name "zip" p2) [a, b, c] [] p3] X.env = [(false, eval (Expr.Call (.Name "zip" p2) [a, b, c] [] p3) X.env)] := by rfl) :
    PE X (.Call (.Name "list" p1) [.Call (.Name "zip" p2) [a, b, c] [] p3] [] p4) (tListZ3 K ta) := by
  subst ek
  intro pins s σ H Q I h
  refine wpAny_Call_Name_kw (ld_blt I hg1 hm1 boot_ty_list ?_ (by decide) (by decide))
  refine PyProof.Rows.callWith_type1 ?_ hs3 rfl
  rw [hs3]
  show wpAny _ _ (spliced ((false, eval (Expr.Call (.Name "zip" p2) [a, b, c] [] p3) X.env) :: [])) _ _ s
  refine Calls.spliced_cons ?_
  refine Call_ (ld_blt I hg2 hm2 boot_zip (PyProof.Rows.callWith_type1 (thn (ha p3 pins s σ H _ I h) fun us s1 ⟨vs, H1, I1, r1, q1⟩ => ?_) (by rw [hs, hs2]) (by rw [hs2]; rfl)))
  obtain ⟨a1, a2, a3, xs, ys, zs, rfl, p1, p2, p3, ly, lz, h4, q⟩ := q1
  obtain ⟨u1, u2, u3, rfl, ru1, ru2, ru3⟩ : Ex3 fun u1 u2 u3 => us = [u1, u2, u3] ∧ RelV (.ref a1) u1 ∧ RelV (.ref a2) u2 ∧ RelV (.ref a3) u3 := by
    cases r1 with
    | cons r1 r =>
    cases r with
    | cons r2 r =>
    cases r with
    | cons r3 r =>
    cases r
    exact ⟨_, _, _, rfl, r1, r2, r3⟩
  obtain rfl : u1 = .ref a1 := ru1
  obtain rfl : u2 = .ref a2 := ru2
  obtain rfl : u3 = .ref a3 := ru3
  obtain ⟨its1, rv1, k1⟩ := I1.seqC (c := true) p1
  obtain ⟨its2, rv2, k2⟩ := I1.seqC (c := true) p2
  obtain ⟨its3, rv3, k3⟩ := I1.seqC (c := true) p3
  have d1 := k1.lt
  have d2 := k2.lt
  have d3 := k3.lt
  have l1 := rv1.length
  have l2 := rv2.length
  have l3 := rv3.length
  refine call_zip3 k1 k2 k3 fun h' st sz hk hz => Calls.spliced_nil ?_
  refine call_listZip3 (s := { s1 with heap := h' }) ⟨d1, d2, d3⟩ st hz sz (I1.ok.hd hc) (by simp; trivial) (by simp; trivial) (by simp; trivial) fun h2 tk ts c' lt gt nd tr hL kp => ?_
  have lts : ts.length = xs.length := by rw [lt]; simp [l1]
  let N : Addr → Option HO := fun b => if b = s1.heap.objs.size + 6 then some (.lst (ts.map V.ref)) else if b ∈ ts then some (.tup [xs.getD (ts.idxOf b) .non, ys.getD (ts.idxOf b) .non, zs.getD (ts.idxOf b) .non]) else none
  have N6 : N (s1.heap.objs.size + 6) = some (.lst (ts.map V.ref)) := if_pos rfl
  have Nt : ∀ (i : Nat) t, ts[i]? = some t → N t = some (.tup [xs.getD i .non, ys.getD i .non, zs.getD i .non]) := fun i t hi => by
    have hm := List.mem_of_getElem? hi
    have hix : ts.idxOf t = i := by
      obtain ⟨hj, e⟩ := List.getElem?_eq_some_iff.mp hi
      have h1 : ts.idxOf t < ts.length := List.idxOf_lt_length_of_mem hm
      exact nodup_inj nd h1 hj (by rw [List.getElem_idxOf h1, e])
    show (if _ then _ else _) = _
    rw [if_neg (fun z => absurd (gt t hm) (by rw [z]; exact Nat.lt_irrefl _)), if_pos hm, hix]
  have k9 : ∀ b u, s1.heap.get? b = some u → h2.get? b = some u := fun b u e => kp b u (Heap.lt_size e) (hk b u e)
  have vals : ∀ ts : List Nat, Vals (ts.map V.ref) (ts.map Value.ref) := fun ts => by
    induction ts with
    | nil => exact .nil
    | cons t r ih => exact .cons rfl ih
  have get' : ∀ {xs : List V} {i : Nat}, i < xs.length → xs[i]? = some (xs.getD i .non) := fun {xs i} hi => by simp [List.getElem?_eq_getElem hi]
  have I3 := I1.many (h' := h2) (t' := tk) (N := N) k9 (fun b o e => ?_) (fun b o e => ?_)
  · refine ⟨.ref (s1.heap.objs.size + 6), ovl H1 N, I3, rfl, q _ ts _ (fun b u e => ?_) (I1.hok.fresh (Nat.le_add_right _ _)) (ovl_some N6) lts fun i t hi => ?_⟩
    · rw [ovl_none]
      · exact e
      · have := I1.hok.lt e
        show (if _ then _ else _) = _
        rw [if_neg (fun z => absurd this (by rw [z]; exact Nat.not_lt.mpr (Nat.le_add_right _ _))), if_neg fun hm => ?_]
        exact absurd this (Nat.not_lt.mpr (Nat.le_trans (Nat.le_add_right _ _) (Nat.le_of_lt (gt b hm))))
    · have hi' : i < xs.length := by rw [← lts]; exact (List.getElem?_eq_some_iff.mp hi).1
      exact ⟨_, _, _, get' hi', get' (by trivial), get' (by trivial), ovl_some (Nt i t hi)⟩
  · by_cases h6 : b = s1.heap.objs.size + 6
    · rw [h6]; exact Nat.le_add_right _ _
    · have e' : (if b ∈ ts then some (HO.tup [xs.getD (ts.idxOf b) .non, ys.getD (ts.idxOf b) .non, zs.getD (ts.idxOf b) .non]) else none) = some o := by rw [← e]; exact (if_neg h6).symm
      by_cases hm : b ∈ ts
      · exact Nat.le_trans (Nat.le_add_right _ _) (Nat.le_of_lt (gt b hm))
      · rw [if_neg hm] at e'; cases e'
  · by_cases h6 : b = s1.heap.objs.size + 6
    · subst h6
      rw [N6] at e
      cases e
      exact ⟨by rw [List.length_map, lts, sizeLine_eq]; trivial, ts.map Value.ref, c', vals ts, hL⟩
    · have e' : (if b ∈ ts then some (HO.tup [xs.getD (ts.idxOf b) .non, ys.getD (ts.idxOf b) .non, zs.getD (ts.idxOf b) .non]) else none) = some o := by rw [← e]; exact (if_neg h6).symm
      by_cases hm : b ∈ ts
      · rw [if_pos hm] at e'
        cases e'
        have h1 : ts.idxOf b < ts.length := List.idxOf_lt_length_of_mem hm
        obtain ⟨x, y, v, a1, a2, a3, a4⟩ := tr (ts.idxOf b) b (by rw [List.getElem?_eq_getElem h1, List.getElem_idxOf h1])
        obtain ⟨x', ex, rx⟩ := rv1.get (get' (xs := xs) (i := ts.idxOf b) (by trivial))
        obtain ⟨y', ey, ry⟩ := rv2.get (get' (xs := ys) (i := ts.idxOf b) (by trivial))
        obtain ⟨v', ev, rv⟩ := rv3.get (get' (xs := zs) (i := ts.idxOf b) (by trivial))
        have b1 : x' = x := Option.some.inj (ex.symm.trans (by simpa using a1))
        have b2 : y' = y := Option.some.inj (ey.symm.trans (by simpa using a2))
        have b3 : v' = v := Option.some.inj (ev.symm.trans (by simpa using a3))
        subst b1 b2 b3
        exact ⟨by show 3 ≤ sizeLine; rw [sizeLine_eq]; decide, [x', y', v'], .cons rx (.cons ry (.cons rv .nil)), ⟨_, a4, rfl, _, rfl⟩, _, a4, rfl⟩
      · rw [if_neg hm] at e'; cases e'
end
end L2
namespace L2
open PySem PySem.Spec PyProof.Rows
theorem list_keys_miss : typeLookup (.type "list") "keys" = pure none := am_miss_of_fast (by kernel_rfl)
section
variable {prog : Program} {w : World} {A : Around} {E : Value → Shared → Prop} {s : Shared}
theorem getAttr_list_miss {a : Addr} {xs : Array Value} {k : Nat} {name : Str} {Q : Option Value → Shared → Prop} (hmiss : typeLookup (.type "list") name = pure none) (hname : (["__module__", "__name__", "__qualname__", "__doc__", "__annotations__"] : List Str).contains name = false) (hsz : name.length + 100 ≤ sizeLine)
    (hx : s.heap.get? a = some { cls := .type "list", dict := none, data := .seq xs k, slots := #[] }) (hA : A.handled = none)
    (h : ∀ h' tk, (∀ b o, s.heap.get? b = some o → h'.get? b = some o) → Q none { s with heap := h', toks := tk }) :
    wpAny (model prog w) A (getAttr? (.ref a) name) Q E s := by
  obtain ⟨hp, g, d, tk, os⟩ := s
  have hT : ∀ tk', (⟨hp, g, d, tk', os⟩ : Shared).TypeIs (.ref a) "list" := fun _ => ⟨_, hx, rfl⟩
  have f1 := sub_AttributeError
  have f3 := F.slot_list_getattribute.lookup
  have f4 := F.slot_list_getattribute.bind (.ref a)
  have f5 := am_list_getattr_none
  unfold getAttr? getAttrBy? getAttrBy
  repeat (any_goals (first | assumption | exact hT _ | ((with_reducible show wpAny _ _ (call (Value.builtin "list.__getattribute__") _ _) _ _ _); refine call_meets F.slot_list_getattribute (hT _) am_entry_list_getattribute (F.args_list_getattribute_2 _ _) (meets_getattribute_miss_list a xs k #[] name _ hmiss hname hsz) ⟨hx, hA, fun h' tk' e hx' => ?_⟩) | wp_step))
  obtain ⟨t', u', he⟩ := hx'.there
  show wpAny _ _ (getattributeRaised _ _ _ _ _ _ _) _ _ _
  unfold getattributeRaised
  repeat (any_goals (first | assumption | wp_step))
  exact h _ _ hx'.keeps
end
section
variable {prog : Program} {w : World} {A : Around} {E : Value → Shared → Prop} {R : Result → Shared → Prop}
variable {l it d : Nat} {vs : Array Value} {ks : List Key} {us : List Value}
def Prs (h : Heap) (vs : Array Value) (ks : List Key) (us : List Value) (it d : Nat) : Prop := ∀ (i : Nat), i < ks.length → Ex6 fun (T : Nat) (x y : Value) (c : Nat) (sl : Array (Option Value)) (dd : Option Addr) => vs[i]? = some (.ref T) ∧ h.get? T = some ⟨.type "tuple", dd, .seq #[x, y] c, sl⟩ ∧ us[i]? = some y ∧ (∀ k, ks[i]? = some k → keyIs k x = true) ∧ T ≠ it ∧ T ≠ d
theorem fill_dictL (n1 : l ≠ it ∧ l ≠ d ∧ it ≠ d) (hh : A.handled = none) (lv : vs.size = ks.length) (lu : us.length = ks.length) (nd : ks.Nodup) (hz : ks.length ≤ 4000) :
    ∀ (r i : Nat) (tk0 : Tok) (s : Shared), ks.length - i = r → i ≤ ks.length → s.heap.IsListIter it l i → s.heap.IsList l vs → Prs s.heap vs ks us it d → s.heap.DictOf (mixKind prog w) d ((ks.zip us).take i) →
      (∀ h' tk, h'.DictOf (mixKind prog w) d (ks.zip us) → (∀ (c : Nat) o, c ≠ it → c ≠ d → s.heap.get? c = some o → h'.get? c = some o) → R (.ok (.ret .none)) { s with heap := h', toks := tk }) →
      codeAny (model prog w) A (.builtin "dict.update.loop" ⟨[.ref d, .ref it, .int (i : Nat) tk0, .none], []⟩) R s := by
  have W := (Walks.list (prog := prog) (w := w) (A := A.in1) hh it l n1.1 vs)
  intro r
  induction r with
  | zero =>
    intro i tk0 s hr hi st hl pr hD hR
    have e : i = ks.length := by trivial
    have lz : (ks.zip us).length = ks.length := by simp [lu]
    rw [e, ← lz, List.take_length] at hD
    refine codeAny_builtin entry_dict_update_loop ?_
    rw [A.under_plainId plain_dict_update_loop]
    show wpAny _ _ (pyNext (Value.ref it) >>= _) _ _ _
    refine wpAny_bind (W.done s _ _ (by rw [lv, ← e]; exact ⟨st, hl⟩) fun h' tk keep => ?_)
    show wpAny _ _ (Builtin.Dict.addKeywords d [] >>= _) _ _ _
    refine wpAny_bind (wpAny_pure (wpAny_pure ?_))
    obtain ⟨o, es, ep, ho, q⟩ := hD
    have kp : ∀ (c : Nat) o, c ≠ it → s.heap.get? c = some o → h'.get? c = some o := fun c o hc e => keep c o (by simpa using hc) e
    exact hR h' tk ⟨o, es, ep, kp d o (Ne.symm n1.2.2) ho, q⟩ fun c o d1 _ e => kp c o d1 e
  | succ r ih =>
    intro i tk0 s hr hi st hl pr hD hR
    have lt : i < ks.length := by trivial
    obtain ⟨T, x, y, c, sl, dd, e1, e2, e3, e4, e5, e6⟩ := pr i lt
    have kv := e4 ks[i] (List.getElem?_eq_getElem lt)
    refine codeAny_builtin entry_dict_update_loop ?_
    rw [A.under_plainId plain_dict_update_loop]
    show wpAny _ _ (pyNext (Value.ref it) >>= _) _ _ _
    refine wpAny_bind (W.item i s _ _ (by trivial) ⟨st, hl⟩ fun v h' tk pv st' keep => ?_)
    obtain rfl : v = .ref T := Option.some.inj ((show vs[i]? = some v from pv).symm.trans e1)
    have kp : ∀ (c : Nat) o, c ≠ it → s.heap.get? c = some o → h'.get? c = some o := fun c o hc e => keep c o (by simpa using hc) e
    have hD' : h'.DictOf (mixKind prog w) d ((ks.zip us).take i) := let ⟨o, es, ep, ho, q⟩ := hD; ⟨o, es, ep, kp d o (Ne.symm n1.2.2) ho, q⟩
    have T' := kp T _ e5 e2
    refine wpAny_bind (wpAny_holding (wpAny_bind (wpAny_tryCatch ?_)))
    unfold Builtin.Dict.pairItems
    refine wpAny_bind (wpAny_typeOf (show Shared.TypeIs { s with heap := h', toks := tk } (.ref T) "tuple" from ⟨_, T', rfl⟩) ?_)
    rw [if_pos (by decide)]
    refine wpAny_bind (wpAny_seqItems T' rfl (wpAny_pure ?_))
    show wpAny _ _ (holding [x, y] (dictSet d x y)) _ _ _
    have hu : us[i]'(by trivial) = y := (List.getElem?_eq_some_iff.mp e3).2
    have nk : ks[i] ∉ ((ks.zip us).take i).map (·.1) := by
      rw [List.map_take, keys_zip (by simp [lu])]
      intro q
      obtain ⟨j, hj, e⟩ := List.getElem_of_mem q
      rw [List.length_take] at hj
      rw [List.getElem_take] at e
      have := nodup_inj nd (by trivial) lt e
      trivial
    have lz : ((ks.zip us).take i).length ≤ sizeLine := by rw [List.length_take, sizeLine_eq]; simp; trivial
    refine wpAny_holding (wpAny_dictSet_pairs (k := ks[i]) kv hD' (hsz := lz) fun h2 hD2 sb => ?_)
    rw [stored_new nk] at hD2
    have nx : h2.DictOf (mixKind prog w) d ((ks.zip us).take (i + 1)) := by
      rw [List.take_succ_eq_append_getElem (by simp [lu]; trivial)]
      simpa [hu] using hD2
    have k2 : ∀ (c : Nat) o, c ≠ d → h'.get? c = some o → h2.get? c = some o := fun c o hc e => (sb.2 c hc).trans e
    refine wpAny_pure ⟨plainId_quiet plain_dict_update_loop _, ?_⟩
    have e9 : ((i : Nat) : Int) + 1 = ((i + 1 : Nat) : Int) := by trivial
    show codeAny _ _ (.builtin "dict.update.loop" ⟨[.ref d, .ref it, .int ((i : Nat) + 1) 0, .none], []⟩) _ _
    rw [e9]
    refine ih (i + 1) 0 _ (by trivial) lt ?_ ?_ (fun j hj => ?_) nx fun h3 tk3 hD3 k3 => hR h3 tk3 hD3 fun c o a1 a2 e => k3 c o a1 a2 (k2 c o a2 (kp c o a1 e))
    · obtain ⟨o, ho, q⟩ := st'.1
      exact ⟨o, k2 _ _ n1.2.2 ho, q⟩
    · obtain ⟨o, ho, q⟩ := st'.2
      exact ⟨o, k2 _ _ n1.2.1 ho, q⟩
    · obtain ⟨T, x, y, c, sl, dd, e1, e2, e3, e4, e5, e6⟩ := pr j hj
      exact ⟨T, x, y, c, sl, dd, e1, k2 _ _ e6 (kp _ _ e5 e2), e3, e4, e5, e6⟩
set_option maxHeartbeats 1000000 in
theorem call_dictOfL {s : Shared} {Q : Value → Shared → Prop} {c0 : Nat} (hl : s.heap.get? l = some { cls := .type "list", dict := none, data := .seq vs c0, slots := #[] })
    (hh : A.handled = none) (lv : vs.size = ks.length) (lu : us.length = ks.length) (nd : ks.Nodup) (hz : ks.length ≤ 4000)
    (pr : ∀ (i : Nat), i < ks.length → Ex6 fun (T : Nat) (x y : Value) (c : Nat) (sl : Array (Option Value)) (dd : Option Addr) => vs[i]? = some (.ref T) ∧ s.heap.get? T = some ⟨.type "tuple", dd, .seq #[x, y] c, sl⟩ ∧ us[i]? = some y ∧ (∀ k, ks[i]? = some k → keyIs k x = true))
    (h : ∀ h' tk, h'.DictOf (mixKind prog w) s.heap.objs.size (ks.zip us) → (∀ c o, s.heap.get? c = some o → h'.get? c = some o) → Q (.ref s.heap.objs.size) { s with heap := h', toks := tk }) :
    wpAny (model prog w) A (call (.type "dict") [.ref l]) Q E s := by
  refine callType_codes (Q₁ := fun obj s₁ => obj = .ref s.heap.objs.size ∧ s₁ = { s with heap := s.heap.push { cls := .type "dict", data := .dict #[] } }) F.kt_called_dict (F.kt_typeCall_dict_1 _) F.entry_dict_init (kt_code_dict_new _ ⟨rfl, rfl⟩) ?_
  rintro obj s₁ ⟨rfl, rfl⟩
  have hnew : (s.heap.push { cls := .type "dict", data := .dict #[] }).DictOf (mixKind prog w) s.heap.objs.size [] := Heap.DictOf.new s.heap
  have up : ∀ c o, s.heap.get? c = some o → (s.heap.push { cls := .type "dict", data := .dict #[] }).get? c = some o := fun c o e => Heap.get?_push_of_some _ e
  have ne : ∀ c o, s.heap.get? c = some o → c ≠ s.heap.objs.size := fun c o e => Nat.ne_of_lt (Heap.lt_size e)
  have hl' := up _ _ hl
  refine ⟨hnew.typeIs, F.args_dict_init_2 _ _, ?_⟩
  unfold Builtin.«dict.__init__»
  refine wpAny_bind ?_
  unfold Builtin.Dict.selfAndRest
  refine wpAny_bind (wpAny_notOrdered_dict hnew.typeIs ?_)
  show wpAny _ _ (pure (s.heap.objs.size, [Value.ref l])) _ _ _
  refine wpAny_pure ?_
  show wpAny _ _ (Builtin.Dict.updateFrom "dict.__init__" s.heap.objs.size (.ref l) [] .none) _ _ _
  unfold Builtin.Dict.updateFrom
  refine wpAny_bind (wpAny_typeOf (T := "list") ⟨_, hl', rfl⟩ ?_)
  rw [if_pos (by decide)]
  refine wpAny_bind (getAttr_list_miss list_keys_miss (by decide +kernel) (by rw [sizeLine_eq]; decide) hl' (by simpa using hh) fun g1 tk1 k1 => ?_)
  simp only [Option.isNone_none, if_true]
  refine wpAny_bind (wpAny_rule ?_)
  have l1 : g1.IsList l vs := ⟨_, k1 _ _ hl', rfl, _, rfl⟩
  refine wpAny_bind (wpAny_pyIter_list l1 ?_)
  have kk : ∀ c o, s.heap.get? c = some o → g1.get? c = some o := fun c o e => k1 _ _ (up _ _ e)
  have pu : ∀ (ob : Obj) c o, g1.get? c = some o → (g1.push ob).get? c = some o := fun ob c o e => Heap.get?_push_of_some _ e
  obtain ⟨on, es, ep, hon, qn⟩ := hnew
  have hon1 := k1 _ _ hon
  have dlt : s.heap.objs.size < g1.objs.size := Heap.lt_size hon1
  have llt : l < s.heap.objs.size := Heap.lt_size hl
  refine wpAny_pure ⟨plainId_quiet plain_dict_update_loop _, ?_⟩
  refine fill_dictL (ks := ks) (us := us) (vs := vs) (l := l) (it := g1.objs.size) (d := s.heap.objs.size) ⟨Nat.ne_of_lt (Nat.lt_trans llt dlt), Nat.ne_of_lt llt, Nat.ne_of_gt dlt⟩ (by simpa using hh) lv lu nd hz ks.length 0 0 _ rfl (Nat.zero_le _) ⟨_, Heap.get?_push_size _ rfl, rfl, rfl⟩ (l1.push _) (fun i hi => ?_) ⟨on, es, ep, pu _ _ _ hon1, qn⟩ fun h' tk hD keep => ?_
  · obtain ⟨T, x, y, c, sl, dd, e1, e2, e3, e4⟩ := pr i hi
    have tlt := Heap.lt_size e2
    exact ⟨T, x, y, c, sl, dd, e1, pu _ _ _ (kk _ _ e2), e3, e4, Nat.ne_of_lt (Nat.lt_trans tlt dlt), Nat.ne_of_lt tlt⟩
  · exact ⟨rfl, h h' tk hD fun c o e => keep c o (Nat.ne_of_lt (Nat.lt_trans (Heap.lt_size e) dlt)) (ne _ _ e) (pu _ _ _ (kk _ _ e))⟩
end
section
variable {X : Cx}
inductive rDictL_ (vs : List V) (H : Hp) (Q : VK) : Prop
  | mk (l : Addr) (ts : List Addr) (ks : List Key) (ys : List V) (h0 : vs = [.ref l]) (h1 : H l = some (.lst (ts.map V.ref))) (h2 : ts.length = ks.length) (h3 : ys.length = ks.length) (h4 : ks.Nodup) (h5 : ks.length ≤ 4000) (h6 : (∀ (i : Nat) t, ts[i]? = some t → Ex2 fun k y => ks[i]? = some k ∧ ys[i]? = some y ∧ H t = some (.tup [keyV k, y]))) (h7 : ∀ p H', Nw H p (.dK (ks.zip ys)) H' → Q (.ref p) H')
def rDictL : List V → Hp → VK → Prop := fun vs H Q => rDictL_  vs H Q
theorem obj_pair_inj {k k' : Value} {d d' : Option Addr} {x y x' y' : Value} {n n' : Nat} {s s' : Array (Option Value)} (h : (⟨k, d, .seq #[x, y] n, s⟩ : Obj) = ⟨k', d', .seq #[x', y'] n', s'⟩) : y = y' := by
  simp only [Obj.mk.injEq, Data.seq.injEq] at h
  have a := h.2.2.1.1
  simp at a
  exact a.2
theorem list_of {α : Type} {p : Nat → α → Prop} : ∀ n, (∀ i, i < n → ∃ a, p i a) → ∃ as : List α, as.length = n ∧ ∀ (i : Nat) a, as[i]? = some a → p i a
  | 0, _ => ⟨[], rfl, fun i a h => by simp at h⟩
  | n + 1, h => by
    obtain ⟨as, l, q⟩ := list_of n fun i hi => h i (by trivial)
    obtain ⟨a, ha⟩ := h n (by trivial)
    refine ⟨as ++ [a], by rw [List.length_append, l]; rfl, fun i b hb => ?_⟩
    by_cases c : i < n
    · rw [List.getElem?_append_left (by trivial)] at hb
      exact q i b hb
    · have hlt := (List.getElem?_eq_some_iff.mp hb).1
      rw [List.length_append] at hlt
      simp at hlt
      obtain rfl : i = n := by trivial
      rw [List.getElem?_append_right (by trivial), l, Nat.sub_self] at hb
      obtain rfl : a = b := Option.some.inj hb
      exact ha
theorem call_dictL (hc : X.calm = true) : CallR X (.type "dict") rDictL := by
  intro pins s σ H xs us Q I r h
  obtain ⟨l, ts, ks, ys, rfl, hl, lt, ly, nd, h4, hp, q⟩ := h
  obtain ⟨u, rfl, ru⟩ := r.one
  obtain rfl : u = .ref l := ru
  obtain ⟨z, its, n, rv, hlen, e⟩ := I.lstM hl
  rw [List.length_map] at hlen
  have isT : ∀ (i : Nat) t, ts[i]? = some t → its[i]? = some (.ref t) := fun i t hi => by
    obtain ⟨w, hw, rw'⟩ := rv.get (show (ts.map V.ref)[i]? = some (V.ref t) by rw [List.getElem?_map, hi]; rfl)
    obtain rfl : w = .ref t := rw'
    exact hw
  have per : ∀ i, i < ks.length → Ex6 fun (T : Nat) (x y : Value) (c : Nat) (sl : Array (Option Value)) (dd : Option Addr) => its[i]? = some (.ref T) ∧ s.heap.get? T = some ⟨.type "tuple", dd, .seq #[x, y] c, sl⟩ ∧ (∃ yv, ys[i]? = some yv ∧ RelV yv y) ∧ (∀ k, ks[i]? = some k → keyIs k x = true) := fun i hi => by
    have ht := List.getElem?_eq_getElem (show i < ts.length by trivial)
    obtain ⟨k, y, hk, hy, hT⟩ := hp i _ ht
    obtain ⟨_, us, rus, ⟨ob, g1, g2, c, g3⟩, _⟩ := (show ObjOk X.prog X.w H s.heap ts[i] (.tup [keyV k, y]) from I.hok _ _ hT)
    obtain ⟨a, b, rfl, ra, rb⟩ := rus.two
    obtain ⟨oc, od, oo, osl⟩ := ob
    simp only at g2 g3
    subst g2 g3
    exact ⟨ts[i], a, b, c, osl, od, isT i _ ht, g1, ⟨y, hy, rb⟩, fun k' hk' => by rw [hk] at hk'; cases hk'; exact (keyV_is ra).1⟩
  have vals : ∃ us' : List Value, us'.length = ks.length ∧ Vals ys us' ∧ ∀ i (hi : i < ks.length) (T : Nat) (x y : Value) (c : Nat) (sl : Array (Option Value)) (dd : Option Addr), its[i]? = some (.ref T) → s.heap.get? T = some ⟨.type "tuple", dd, .seq #[x, y] c, sl⟩ → us'[i]? = some y := by
    obtain ⟨us', l1, h1⟩ := list_of (p := fun i y => ∀ (T : Nat) (x y' : Value) (c : Nat) (sl : Array (Option Value)) (dd : Option Addr), its[i]? = some (.ref T) → s.heap.get? T = some ⟨.type "tuple", dd, .seq #[x, y'] c, sl⟩ → y' = y ∧ ∃ yv, ys[i]? = some yv ∧ RelV yv y') ks.length fun i hi => by
      obtain ⟨T, x, y, c, sl, dd, e1, e2, e3, e4⟩ := per i hi
      refine ⟨y, fun T' x' y' c' sl' dd' f1 f2 => ?_⟩
      have eT := Option.some.inj (e1.symm.trans f1)
      injection eT with eT
      have f3 : s.heap.get? T = _ := (congrArg s.heap.get? eT).trans f2
      have ey := obj_pair_inj (Option.some.inj (e2.symm.trans f3))
      subst ey
      exact ⟨rfl, e3⟩
    refine ⟨us', l1, ?_, fun i hi T x y c sl dd e1 e2 => ?_⟩
    · refine vals_get (by trivial) fun i yv u e1 e2 => ?_
      have hi : i < ks.length := by rw [← l1]; exact (List.getElem?_eq_some_iff.mp e2).1
      obtain ⟨T, x, y, c, sl, dd, g1, g2, g3, g4⟩ := per i hi
      obtain ⟨q1, yv', q2, q3⟩ := h1 i u e2 T x y c sl dd g1 g2
      rw [e1] at q2
      cases q2
      rw [← q1]
      exact q3
    · obtain ⟨u, hu⟩ : ∃ u, us'[i]? = some u := ⟨_, List.getElem?_eq_getElem (by trivial)⟩
      rw [hu, (h1 i u hu T x y c sl dd e1 e2).1]
  obtain ⟨us', lu, rus, hus⟩ := vals
  refine call_dictOfL (E := X.xe) (ks := ks) (us := us') (vs := its.toArray) (l := l) e (I.ok.hd hc) (by simp; trivial) lu nd h4 (fun i hi => ?_) fun h' tk hD kp => ?_
  · obtain ⟨T, x, y, c, sl, dd, e1, e2, _, e4⟩ := per i hi
    exact ⟨T, x, y, c, sl, dd, by simpa using e1, e2, hus i hi T x y c sl dd e1 e2, e4⟩
  · have big : sysModules < s.heap.objs.size := by
      have e : mainGlobals < s.heap.objs.size := (I.mod.glob.keeps I.bk).lt
      exact Nat.lt_trans (by decide) e
    exact ⟨.ref _, _, I.laid (t' := tk) kp (Nat.le_refl _) (show ObjOk X.prog X.w _ h' _ (.dK (ks.zip ys)) from ⟨by rw [sizeLine_eq]; simp; trivial, beq_eq_false_iff_ne.mpr (Ne.symm (Nat.ne_of_lt big)), ks.zip us', kv_zip rus, hD⟩), rfl, q _ _ (.mk' (I.hok.fresh (Nat.le_refl _)))⟩
end
end L2
namespace L2
open PySem PySem.Spec PyProof.Rows
section
variable {X : Cx}
inductive rNeNil_ (x : V) (y : V) (H : Hp) (Q : VK) : Prop
  | mk (a c : Addr) (xs : List V) (h0 : x = .ref a) (h1 : y = .ref c) (h2 : H a = some (.lst xs)) (h3 : H c = some (.lst [])) (h4 : Q (.bl (!xs.isEmpty)) H)
def rNeNil : R2 := fun x y H Q => rNeNil_  x y H Q
theorem op_neNil (hu : X.A.units + 64 < cLine) : OpR X (compareOp .NotEq) rNeNil := by
  intro pins s σ H x y v u Q I rx ry h
  obtain ⟨a, c, xs, rfl, rfl, ha, hc, q⟩ := h
  cases rx
  cases ry
  obtain ⟨z, its, n, r, hl, e⟩ := I.lstM ha
  obtain ⟨z2, its2, n2, r2, hl2, e2⟩ := I.lstM hc
  have h0 : its2 = [] := List.eq_nil_of_length_eq_zero hl2.symm
  subst h0
  have l1 : s.heap.IsList a its.toArray := ⟨_, e, rfl, _, rfl⟩
  have l2 : s.heap.IsList c (#[] : Array Value) := ⟨_, e2, rfl, _, rfl⟩
  have hu' : X.A.units < cLine := by trivial
  cases xs with
  | nil =>
    have : its = [] := List.eq_nil_of_length_eq_zero hl.symm
    subst this
    refine (PySem.SeqAt.RcNeAt.lists (e := fun _ => true) l1 l2 rfl hu' (fun j j1 j2 => absurd j1 (by simp))) X.prog X.w X.xe _ ?_
    exact ⟨.bl _, H, I, rfl, q⟩
  | cons y ys =>
    refine (PySem.SeqAt.RcNeAt.lists_lengths l1 l2 (by simp at hl ⊢; exact fun z => by rw [z] at hl; simp at hl) hu') X.prog X.w X.xe _ ?_
    exact ⟨.bl _, H, I, rfl, q⟩
inductive rExtA_ (x : V) (vs : List V) (H : Hp) (Q : VK) : Prop
  | mk (l : _) (b : _) (xs : _) (zs : _) (h0 : x = .ref l) (h1 : vs = [.ref b]) (h2 : H l = some (.lst xs)) (h3 : H b = some (.lst zs)) (h4 : xs.length + zs.length ≤ 10000) (h5 : ∀ H', Ch H l (xs ++ zs) H' → Q .non H')
def rExtA : V → List V → Hp → VK → Prop := fun x vs H Q => rExtA_  x vs H Q
theorem mt_extendA : MtM X "list.extend" rExtA := fun pins s σ H x vs v us Q I rx rv ⟨l, b, xs, zs, e1, e2, h, h', hz, q⟩ => mt_extend pins s σ H x vs v us Q I rx rv ⟨l, b, xs, zs, e1, e2, h, h', (by rw [sizeLine_eq]; trivial), q _ .mk'⟩
end
theorem len5 {α : Type} {P : List α → Prop} (h : ∀ a b c d e, P [a, b, c, d, e]) : ∀ us : List α, us.length = 5 → P us := fun us hl => by
  cases us with
  | nil => cases hl
  | cons a r => exact len4 (P := fun r => P (a :: r)) (fun b c d e => h a b c d e) r (by simpa using hl)
structure Gb (a b : Nat) (p : KM.Fra) : Prop where
  n : Sz a p.1
  d : Sz b p.2
  pos : 1 ≤ p.2
theorem Gb.mono {a b a' b' : Nat} {p : KM.Fra} (h : Gb a b p) (ha : a ≤ a') (hb : b ≤ b') : Gb a' b' p := ⟨h.n.mono ha, h.d.mono hb, h.pos⟩
theorem gb_low {a b : Nat} {n d : Int} (hn : Sz a n) (hd : Sz b d) (h0 : 0 < d) : Gb a b (KM.low n d) := by
  have := KM.low_spec n d (by trivial)
  exact ⟨hn.le this.2.2.2.1, hd.le this.2.2.2.2, this.1⟩
def lMin (p q : KM.Fra) : KM.Fra := KM.low (p.1 * q.2 - q.1 * p.2) (p.2 * q.2)
def lOvr (p q : KM.Fra) : KM.Fra := KM.low (p.1 * q.2) (p.2 * q.1)
theorem Gb.add {a b c d e f : Nat} {p q : KM.Fra} (h : Gb a b p) (k : Gb c d q) (h1 : a + d < e) (h2 : c + b < e) (h3 : b + d ≤ f) : Gb e f (KM.ladd p q) := by
  obtain ⟨e', rfl⟩ : ∃ e', e = e' + 1 := ⟨e - 1, by trivial⟩
  exact gb_low (((h.n.mul k.d).mono (by trivial)).add ((k.n.mul h.d).mono (by trivial))) ((h.d.mul k.d).mono h3) (Int.mul_pos (by have := h.pos; trivial) (by have := k.pos; trivial))
theorem Gb.min {a b c d e f : Nat} {p q : KM.Fra} (h : Gb a b p) (k : Gb c d q) (h1 : a + d < e) (h2 : c + b < e) (h3 : b + d ≤ f) : Gb e f (lMin p q) := by
  obtain ⟨e', rfl⟩ : ∃ e', e = e' + 1 := ⟨e - 1, by trivial⟩
  exact gb_low (((h.n.mul k.d).mono (by trivial)).sub ((k.n.mul h.d).mono (by trivial))) ((h.d.mul k.d).mono h3) (Int.mul_pos (by have := h.pos; trivial) (by have := k.pos; trivial))
theorem Gb.tim {a b c d e f : Nat} {p q : KM.Fra} (h : Gb a b p) (k : Gb c d q) (h1 : a + c ≤ e) (h3 : b + d ≤ f) : Gb e f (KM.lTim p q) :=
  gb_low ((h.n.mul k.n).mono h1) ((h.d.mul k.d).mono h3) (Int.mul_pos (by have := h.pos; trivial) (by have := k.pos; trivial))
theorem Gb.ovr {a b c d e f : Nat} {p q : KM.Fra} (h : Gb a b p) (k : Gb c d q) (hq : 1 ≤ q.1) (h1 : a + d ≤ e) (h3 : b + c ≤ f) : Gb e f (lOvr p q) :=
  gb_low ((h.n.mul k.d).mono h1) ((h.d.mul k.n).mono h3) (Int.mul_pos (by have := h.pos; trivial) (by trivial))
theorem tim_pos {p q : KM.Fra} (h : 1 ≤ p.1) (h' : 1 ≤ p.2) (k : 1 ≤ q.1) (k' : 1 ≤ q.2) : 1 ≤ (KM.lTim p q).1 := (KM.low_sgn (Int.mul_pos (by trivial) (by trivial))).1.mpr (Int.mul_pos (by trivial) (by trivial))
theorem ovr_pos {p q : KM.Fra} (h : 1 ≤ p.1) (h' : 1 ≤ p.2) (k : 1 ≤ q.1) (k' : 1 ≤ q.2) : 1 ≤ (lOvr p q).1 := (KM.low_sgn (Int.mul_pos (by trivial) (by trivial))).1.mpr (Int.mul_pos (by trivial) (by trivial))
end L2
set_option maxHeartbeats 4000000
namespace K16
open PySem L2
def top (i : Nat) : Stmt := PySem.Challenge.pw_gainroads_k16_steps_that_are_left.main.body.getD i (.Pass ⟨0, 0, 0, 0⟩)
abbrev s_common_divisor : Stmt := top 1
abbrev s_fraction : Stmt := top 2
abbrev s_taken : Stmt := top 3
abbrev s_times : Stmt := top 4
abbrev s_over : Stmt := top 5
abbrev s_compared : Stmt := top 6
abbrev s_steps_of : Stmt := top 8
abbrev s_left_steps : Stmt := top 9
abbrev s_l_box : Stmt := top 11
abbrev s_l_take : Stmt := top 12
abbrev s_l_folded : Stmt := top 13
abbrev s_l_frac : Stmt := top 14
abbrev s_l_sum : Stmt := top 15
abbrev s_l_product : Stmt := top 16
abbrev s_l_minus : Stmt := top 17
abbrev s_l_over : Stmt := top 18
abbrev s_l_above : Stmt := top 19
abbrev s_l_names_by : Stmt := top 20
abbrev s_l_any_gain : Stmt := top 21
abbrev s_l_any_much : Stmt := top 22
abbrev s_l_any_price : Stmt := top 23
abbrev s_l_planted : Stmt := top 24
abbrev s_l_net_by : Stmt := top 25
abbrev s_l_steps_of : Stmt := top 26
abbrev s_l_course_by : Stmt := top 27
abbrev s_l_parts_on : Stmt := top 28
abbrev s_l_put : Stmt := top 29
abbrev s_l_much_along : Stmt := top 30
abbrev s_l_stream_by : Stmt := top 31
abbrev s_l_ends_by : Stmt := top 32
abbrev s_l_same : Stmt := top 33
abbrev s_l_any_stream : Stmt := top 34
abbrev s_law : Stmt := top 35
theorem sc_common_divisor : FnScope ["n", "d"] ["n", "d"] (defScope s_common_divisor) := ⟨rfl, rfl, rfl, by decide +kernel, rfl, by decide +kernel, by decide +kernel⟩
theorem sc_fraction : FnScope ["n", "d", "divisor"] ["n", "d"] (defScope s_fraction) := ⟨rfl, rfl, rfl, by decide +kernel, rfl, by decide +kernel, by decide +kernel⟩
theorem sc_taken : FnScope ["one", "other"] ["one", "other"] (defScope s_taken) := ⟨rfl, rfl, rfl, by decide +kernel, rfl, by decide +kernel, by decide +kernel⟩
theorem sc_times : FnScope ["one", "other"] ["one", "other"] (defScope s_times) := ⟨rfl, rfl, rfl, by decide +kernel, rfl, by decide +kernel, by decide +kernel⟩
theorem sc_over : FnScope ["one", "other"] ["one", "other"] (defScope s_over) := ⟨rfl, rfl, rfl, by decide +kernel, rfl, by decide +kernel, by decide +kernel⟩
theorem sc_compared : FnScope ["one", "other", "left", "right"] ["one", "other"] (defScope s_compared) := ⟨rfl, rfl, rfl, by decide +kernel, rfl, by decide +kernel, by decide +kernel⟩
theorem sc_steps_of : FnScope ["number", "tie", "much", "begin", "end", "most", "gain", "price", "steps"] ["number", "tie", "much"] (defScope s_steps_of) := ⟨rfl, rfl, rfl, by decide +kernel, rfl, by decide +kernel, by decide +kernel⟩
theorem sc_left_steps : FnScope ["net", "stream", "steps", "number", "tie"] ["net", "stream"] (defScope s_left_steps) := ⟨rfl, rfl, rfl, by decide +kernel, rfl, by decide +kernel, by decide +kernel⟩
theorem sc_l_box : FnScope ["_law_script", "_law_k", "_law_cell"] ["_law_script", "_law_k"] (defScope s_l_box) := ⟨rfl, rfl, rfl, by decide +kernel, rfl, by decide +kernel, by decide +kernel⟩
theorem sc_l_take : FnScope ["_law_box_here", "_law_many", "_law_found", "_law_once"] ["_law_box_here", "_law_many"] (defScope s_l_take) := ⟨rfl, rfl, rfl, by decide +kernel, rfl, by decide +kernel, by decide +kernel⟩
theorem sc_l_folded : FnScope ["_law_script", "_law_many", "_law_cells", "_law_k", "_law_cell"] ["_law_script", "_law_many"] (defScope s_l_folded) := ⟨rfl, rfl, rfl, by decide +kernel, rfl, by decide +kernel, by decide +kernel⟩
theorem sc_l_frac : FnScope ["_law_n", "_law_d", "_law_one", "_law_other"] ["_law_n", "_law_d"] (defScope s_l_frac) := ⟨rfl, rfl, rfl, by decide +kernel, rfl, by decide +kernel, by decide +kernel⟩
theorem sc_l_sum : FnScope ["_law_one", "_law_other"] ["_law_one", "_law_other"] (defScope s_l_sum) := ⟨rfl, rfl, rfl, by decide +kernel, rfl, by decide +kernel, by decide +kernel⟩
theorem sc_l_product : FnScope ["_law_one", "_law_other"] ["_law_one", "_law_other"] (defScope s_l_product) := ⟨rfl, rfl, rfl, by decide +kernel, rfl, by decide +kernel, by decide +kernel⟩
theorem sc_l_minus : FnScope ["_law_one", "_law_other"] ["_law_one", "_law_other"] (defScope s_l_minus) := ⟨rfl, rfl, rfl, by decide +kernel, rfl, by decide +kernel, by decide +kernel⟩
theorem sc_l_over : FnScope ["_law_one", "_law_other"] ["_law_one", "_law_other"] (defScope s_l_over) := ⟨rfl, rfl, rfl, by decide +kernel, rfl, by decide +kernel, by decide +kernel⟩
theorem sc_l_above : FnScope ["_law_one", "_law_other"] ["_law_one", "_law_other"] (defScope s_l_above) := ⟨rfl, rfl, rfl, by decide +kernel, rfl, by decide +kernel, by decide +kernel⟩
theorem sc_l_names_by : FnScope ["_law_box_here", "_law_many", "_law_letters", "_law_first", "_law_rest", "_law_behind", "_law_sign", "_law_other"] ["_law_box_here", "_law_many"] (defScope s_l_names_by) := ⟨rfl, rfl, rfl, by decide +kernel, rfl, by decide +kernel, by decide +kernel⟩
theorem sc_l_any_gain : FnScope ["_law_box_here", "_law_way", "_law_top"] ["_law_box_here"] (defScope s_l_any_gain) := ⟨rfl, rfl, rfl, by decide +kernel, rfl, by decide +kernel, by decide +kernel⟩
theorem sc_l_any_much : FnScope ["_law_box_here", "_law_way"] ["_law_box_here"] (defScope s_l_any_much) := ⟨rfl, rfl, rfl, by decide +kernel, rfl, by decide +kernel, by decide +kernel⟩
theorem sc_l_any_price : FnScope ["_law_box_here", "_law_way"] ["_law_box_here"] (defScope s_l_any_price) := ⟨rfl, rfl, rfl, by decide +kernel, rfl, by decide +kernel, by decide +kernel⟩
theorem sc_l_planted : FnScope ["_law_box_here", "_law_places", "_law_many", "_law_first", "_law_a", "_law_b", "_law_more", "_law_gains", "_law_spots"] ["_law_box_here", "_law_places"] (defScope s_l_planted) := ⟨rfl, rfl, rfl, by decide +kernel, rfl, by decide +kernel, by decide +kernel⟩
theorem sc_l_net_by : FnScope ["_law_box_here", "_law_most_places", "_law_most_ties", "_law_way", "_law_great", "_law_places", "_law_many", "_law_some", "_law_worths", "_law_ends", "_law_turn", "_law_at", "_law_begin", "_law_end", "_law_gain", "_law_less", "_law_ties", "_law_top"] ["_law_box_here", "_law_most_places", "_law_most_ties"] (defScope s_l_net_by) := ⟨rfl, rfl, rfl, by decide +kernel, rfl, by decide +kernel, by decide +kernel⟩
theorem sc_l_steps_of : FnScope ["_law_net", "_law_stream", "_law_found", "_law_number", "_law_begin", "_law_end", "_law_top", "_law_gain", "_law_price", "_law_goes"] ["_law_net", "_law_stream"] (defScope s_l_steps_of) := ⟨rfl, rfl, rfl, by decide +kernel, rfl, by decide +kernel, by decide +kernel⟩
theorem sc_l_course_by : FnScope ["_law_box_here", "_law_steps", "_law_first", "_law_end", "_law_barred", "_law_rows", "_law_met", "_law_course", "_law_here"] ["_law_box_here", "_law_steps", "_law_first", "_law_end", "_law_barred"] (defScope s_l_course_by) := ⟨rfl, rfl, rfl, by decide +kernel, rfl, by decide +kernel, by decide +kernel⟩
theorem sc_l_parts_on : FnScope ["_law_steps", "_law_part", "_law_found", "_law_step"] ["_law_steps", "_law_part"] (defScope s_l_parts_on) := ⟨rfl, rfl, rfl, by decide +kernel, rfl, by decide +kernel, by decide +kernel⟩
theorem sc_l_put : FnScope ["_law_stream", "_law_parts", "_law_much", "_law_made", "_law_step", "_law_part", "_law_goes"] ["_law_stream", "_law_parts", "_law_much"] (defScope s_l_put) := ⟨rfl, rfl, rfl, by decide +kernel, rfl, by decide +kernel, by decide +kernel⟩
theorem sc_l_much_along : FnScope ["_law_parts", "_law_found", "_law_step", "_law_part", "_law_one"] ["_law_parts"] (defScope s_l_much_along) := ⟨rfl, rfl, rfl, by decide +kernel, rfl, by decide +kernel, by decide +kernel⟩
theorem sc_l_stream_by : FnScope ["_law_box_here", "_law_net", "_law_begin", "_law_end", "_law_stream", "_law_turn", "_law_course", "_law_parts", "_law_share"] ["_law_box_here", "_law_net", "_law_begin", "_law_end"] (defScope s_l_stream_by) := ⟨rfl, rfl, rfl, by decide +kernel, rfl, by decide +kernel, by decide +kernel⟩
theorem sc_l_ends_by : FnScope ["_law_box_here", "_law_net", "_law_at"] ["_law_box_here", "_law_net"] (defScope s_l_ends_by) := ⟨rfl, rfl, rfl, by decide +kernel, rfl, by decide +kernel, by decide +kernel⟩
theorem sc_l_same : FnScope ["_law_found", "_law_due"] ["_law_found", "_law_due"] (defScope s_l_same) := ⟨rfl, rfl, rfl, by decide +kernel, rfl, by decide +kernel, by decide +kernel⟩
theorem sc_l_any_stream : FnScope ["_law_box_here", "_law_net", "_law_shares"] ["_law_box_here", "_law_net"] (defScope s_l_any_stream) := ⟨rfl, rfl, rfl, by decide +kernel, rfl, by decide +kernel, by decide +kernel⟩
theorem sc_law : FnScope ["_law_script", "_law_cells", "_law_k", "_law_box_here", "_law_turn", "_law_net", "_law_begin", "_law_end", "_law_stream", "_law_due", "_law_written", "_law_again", "_law_found"] ["_law_script"] (defScope s_law) := ⟨rfl, rfl, rfl, by decide +kernel, rfl, by decide +kernel, by decide +kernel⟩
end K16
namespace K16
open PySem L2
set_option genInjectivity false in
set_option genSizeOf false in
structure Txt (K : PySem.W.Frag) (mg : Str → Option Value) where
  b_abs : mg "abs" = none
  b_all : mg "all" = none
  b_bool : mg "bool" = none
  b_dict : mg "dict" = none
  b_divmod : mg "divmod" = none
  b_enumerate : mg "enumerate" = none
  b_int : mg "int" = none
  b_isinstance : mg "isinstance" = none
  b_len : mg "len" = none
  b_list : mg "list" = none
  b_max : mg "max" = none
  b_min : mg "min" = none
  b_range : mg "range" = none
  b_str : mg "str" = none
  b_tuple : mg "tuple" = none
  b_zip : mg "zip" = none
  f_common_divisor : Addr
  d_common_divisor : FuncData
  m_common_divisor : mg "common_divisor" = some (.ref f_common_divisor)
  F_common_divisor : Fun K "common_divisor" "common_divisor" s_common_divisor f_common_divisor d_common_divisor
  B_common_divisor : Binds K d_common_divisor ["n", "d"] []
  f_fraction : Addr
  d_fraction : FuncData
  m_fraction : mg "fraction" = some (.ref f_fraction)
  F_fraction : Fun K "fraction" "fraction" s_fraction f_fraction d_fraction
  B_fraction : Binds K d_fraction ["n", "d"] []
  f_taken : Addr
  d_taken : FuncData
  m_taken : mg "taken" = some (.ref f_taken)
  F_taken : Fun K "taken" "taken" s_taken f_taken d_taken
  B_taken : Binds K d_taken ["one", "other"] []
  f_times : Addr
  d_times : FuncData
  m_times : mg "times" = some (.ref f_times)
  F_times : Fun K "times" "times" s_times f_times d_times
  B_times : Binds K d_times ["one", "other"] []
  f_over : Addr
  d_over : FuncData
  m_over : mg "over" = some (.ref f_over)
  F_over : Fun K "over" "over" s_over f_over d_over
  B_over : Binds K d_over ["one", "other"] []
  f_compared : Addr
  d_compared : FuncData
  m_compared : mg "compared" = some (.ref f_compared)
  F_compared : Fun K "compared" "compared" s_compared f_compared d_compared
  B_compared : Binds K d_compared ["one", "other"] []
  f_steps_of : Addr
  d_steps_of : FuncData
  m_steps_of : mg "steps_of" = some (.ref f_steps_of)
  F_steps_of : Fun K "steps_of" "steps_of" s_steps_of f_steps_of d_steps_of
  B_steps_of : Binds K d_steps_of ["number", "tie", "much"] []
  f_left_steps : Addr
  d_left_steps : FuncData
  m_left_steps : mg "left_steps" = some (.ref f_left_steps)
  F_left_steps : Fun K "left_steps" "left_steps" s_left_steps f_left_steps d_left_steps
  B_left_steps : Binds K d_left_steps ["net", "stream"] []
  f_l_box : Addr
  d_l_box : FuncData
  m_l_box : mg "_law_box" = some (.ref f_l_box)
  F_l_box : Fun K "_law_box" "_law_box" s_l_box f_l_box d_l_box
  B_l_box : Binds K d_l_box ["_law_script", "_law_k"] []
  f_l_take : Addr
  d_l_take : FuncData
  m_l_take : mg "_law_take" = some (.ref f_l_take)
  F_l_take : Fun K "_law_take" "_law_take" s_l_take f_l_take d_l_take
  B_l_take : Binds K d_l_take ["_law_box_here", "_law_many"] []
  f_l_folded : Addr
  d_l_folded : FuncData
  m_l_folded : mg "_law_folded" = some (.ref f_l_folded)
  F_l_folded : Fun K "_law_folded" "_law_folded" s_l_folded f_l_folded d_l_folded
  B_l_folded : Binds K d_l_folded ["_law_script", "_law_many"] []
  f_l_frac : Addr
  d_l_frac : FuncData
  m_l_frac : mg "_law_frac" = some (.ref f_l_frac)
  F_l_frac : Fun K "_law_frac" "_law_frac" s_l_frac f_l_frac d_l_frac
  B_l_frac : Binds K d_l_frac ["_law_n", "_law_d"] []
  f_l_sum : Addr
  d_l_sum : FuncData
  m_l_sum : mg "_law_sum" = some (.ref f_l_sum)
  F_l_sum : Fun K "_law_sum" "_law_sum" s_l_sum f_l_sum d_l_sum
  B_l_sum : Binds K d_l_sum ["_law_one", "_law_other"] []
  f_l_product : Addr
  d_l_product : FuncData
  m_l_product : mg "_law_product" = some (.ref f_l_product)
  F_l_product : Fun K "_law_product" "_law_product" s_l_product f_l_product d_l_product
  B_l_product : Binds K d_l_product ["_law_one", "_law_other"] []
  f_l_minus : Addr
  d_l_minus : FuncData
  m_l_minus : mg "_law_minus" = some (.ref f_l_minus)
  F_l_minus : Fun K "_law_minus" "_law_minus" s_l_minus f_l_minus d_l_minus
  B_l_minus : Binds K d_l_minus ["_law_one", "_law_other"] []
  f_l_over : Addr
  d_l_over : FuncData
  m_l_over : mg "_law_over" = some (.ref f_l_over)
  F_l_over : Fun K "_law_over" "_law_over" s_l_over f_l_over d_l_over
  B_l_over : Binds K d_l_over ["_law_one", "_law_other"] []
  f_l_above : Addr
  d_l_above : FuncData
  m_l_above : mg "_law_above" = some (.ref f_l_above)
  F_l_above : Fun K "_law_above" "_law_above" s_l_above f_l_above d_l_above
  B_l_above : Binds K d_l_above ["_law_one", "_law_other"] []
  f_l_names_by : Addr
  d_l_names_by : FuncData
  m_l_names_by : mg "_law_names_by" = some (.ref f_l_names_by)
  F_l_names_by : Fun K "_law_names_by" "_law_names_by" s_l_names_by f_l_names_by d_l_names_by
  B_l_names_by : Binds K d_l_names_by ["_law_box_here", "_law_many"] []
  f_l_any_gain : Addr
  d_l_any_gain : FuncData
  m_l_any_gain : mg "_law_any_gain" = some (.ref f_l_any_gain)
  F_l_any_gain : Fun K "_law_any_gain" "_law_any_gain" s_l_any_gain f_l_any_gain d_l_any_gain
  B_l_any_gain : Binds K d_l_any_gain ["_law_box_here"] []
  f_l_any_much : Addr
  d_l_any_much : FuncData
  m_l_any_much : mg "_law_any_much" = some (.ref f_l_any_much)
  F_l_any_much : Fun K "_law_any_much" "_law_any_much" s_l_any_much f_l_any_much d_l_any_much
  B_l_any_much : Binds K d_l_any_much ["_law_box_here"] []
  f_l_any_price : Addr
  d_l_any_price : FuncData
  m_l_any_price : mg "_law_any_price" = some (.ref f_l_any_price)
  F_l_any_price : Fun K "_law_any_price" "_law_any_price" s_l_any_price f_l_any_price d_l_any_price
  B_l_any_price : Binds K d_l_any_price ["_law_box_here"] []
  f_l_planted : Addr
  d_l_planted : FuncData
  m_l_planted : mg "_law_planted" = some (.ref f_l_planted)
  F_l_planted : Fun K "_law_planted" "_law_planted" s_l_planted f_l_planted d_l_planted
  B_l_planted : Binds K d_l_planted ["_law_box_here", "_law_places"] []
  f_l_net_by : Addr
  d_l_net_by : FuncData
  m_l_net_by : mg "_law_net_by" = some (.ref f_l_net_by)
  F_l_net_by : Fun K "_law_net_by" "_law_net_by" s_l_net_by f_l_net_by d_l_net_by
  B_l_net_by : Binds K d_l_net_by ["_law_box_here", "_law_most_places", "_law_most_ties"] []
  f_l_steps_of : Addr
  d_l_steps_of : FuncData
  m_l_steps_of : mg "_law_steps_of" = some (.ref f_l_steps_of)
  F_l_steps_of : Fun K "_law_steps_of" "_law_steps_of" s_l_steps_of f_l_steps_of d_l_steps_of
  B_l_steps_of : Binds K d_l_steps_of ["_law_net", "_law_stream"] []
  f_l_course_by : Addr
  d_l_course_by : FuncData
  m_l_course_by : mg "_law_course_by" = some (.ref f_l_course_by)
  F_l_course_by : Fun K "_law_course_by" "_law_course_by" s_l_course_by f_l_course_by d_l_course_by
  B_l_course_by : Binds K d_l_course_by ["_law_box_here", "_law_steps", "_law_first", "_law_end", "_law_barred"] []
  f_l_parts_on : Addr
  d_l_parts_on : FuncData
  m_l_parts_on : mg "_law_parts_on" = some (.ref f_l_parts_on)
  F_l_parts_on : Fun K "_law_parts_on" "_law_parts_on" s_l_parts_on f_l_parts_on d_l_parts_on
  B_l_parts_on : Binds K d_l_parts_on ["_law_steps", "_law_part"] []
  f_l_put : Addr
  d_l_put : FuncData
  m_l_put : mg "_law_put" = some (.ref f_l_put)
  F_l_put : Fun K "_law_put" "_law_put" s_l_put f_l_put d_l_put
  B_l_put : Binds K d_l_put ["_law_stream", "_law_parts", "_law_much"] []
  f_l_much_along : Addr
  d_l_much_along : FuncData
  m_l_much_along : mg "_law_much_along" = some (.ref f_l_much_along)
  F_l_much_along : Fun K "_law_much_along" "_law_much_along" s_l_much_along f_l_much_along d_l_much_along
  B_l_much_along : Binds K d_l_much_along ["_law_parts"] []
  f_l_stream_by : Addr
  d_l_stream_by : FuncData
  m_l_stream_by : mg "_law_stream_by" = some (.ref f_l_stream_by)
  F_l_stream_by : Fun K "_law_stream_by" "_law_stream_by" s_l_stream_by f_l_stream_by d_l_stream_by
  B_l_stream_by : Binds K d_l_stream_by ["_law_box_here", "_law_net", "_law_begin", "_law_end"] []
  f_l_ends_by : Addr
  d_l_ends_by : FuncData
  m_l_ends_by : mg "_law_ends_by" = some (.ref f_l_ends_by)
  F_l_ends_by : Fun K "_law_ends_by" "_law_ends_by" s_l_ends_by f_l_ends_by d_l_ends_by
  B_l_ends_by : Binds K d_l_ends_by ["_law_box_here", "_law_net"] []
  f_l_same : Addr
  d_l_same : FuncData
  m_l_same : mg "_law_same" = some (.ref f_l_same)
  F_l_same : Fun K "_law_same" "_law_same" s_l_same f_l_same d_l_same
  B_l_same : Binds K d_l_same ["_law_found", "_law_due"] []
  f_l_any_stream : Addr
  d_l_any_stream : FuncData
  m_l_any_stream : mg "_law_any_stream" = some (.ref f_l_any_stream)
  F_l_any_stream : Fun K "_law_any_stream" "_law_any_stream" s_l_any_stream f_l_any_stream d_l_any_stream
  B_l_any_stream : Binds K d_l_any_stream ["_law_box_here", "_law_net"] []
  f_law : Addr
  d_law : FuncData
  m_law : mg "law" = some (.ref f_law)
  F_law : Fun K "law" "law" s_law f_law d_law
  B_law : Binds K d_law ["_law_script"] []
theorem txt_mk {K : PySem.W.Frag} {h : Heap} {mg : Str → Option Value} (X : K.In h) (G : h.Ns mainGlobals mg)
    {f0 f1 f2 f3 f4 f5 f6 f7 f8 f9 f10 f11 f12 f13 f14 f15 f16 f17 f18 f19 f20 f21 f22 f23 f24 f25 f26 f27 f28 f29 f30 f31 f32 : Addr} {od0 an0 od1 an1 od2 an2 od3 an3 od4 an4 od5 an5 od6 an6 od7 an7 od8 an8 od9 an9 od10 an10 od11 an11 od12 an12 od13 an13 od14 an14 od15 an15 od16 an16 od17 an17 od18 an18 od19 an19 od20 an20 od21 an21 od22 an22 od23 an23 od24 an24 od25 an25 od26 an26 od27 an27 od28 an28 od29 an29 od30 an30 od31 an31 od32 an32 : Option Addr} {sl0 sl1 sl2 sl3 sl4 sl5 sl6 sl7 sl8 sl9 sl10 sl11 sl12 sl13 sl14 sl15 sl16 sl17 sl18 sl19 sl20 sl21 sl22 sl23 sl24 sl25 sl26 sl27 sl28 sl29 sl30 sl31 sl32 : Array (Option Value)} {oc0 kV0 dc0 pm0 cd0 ct0 oc1 kV1 dc1 pm1 cd1 ct1 oc2 kV2 dc2 pm2 cd2 ct2 oc3 kV3 dc3 pm3 cd3 ct3 oc4 kV4 dc4 pm4 cd4 ct4 oc5 kV5 dc5 pm5 cd5 ct5 oc6 kV6 dc6 pm6 cd6 ct6 oc7 kV7 dc7 pm7 cd7 ct7 oc8 kV8 dc8 pm8 cd8 ct8 oc9 kV9 dc9 pm9 cd9 ct9 oc10 kV10 dc10 pm10 cd10 ct10 oc11 kV11 dc11 pm11 cd11 ct11 oc12 kV12 dc12 pm12 cd12 ct12 oc13 kV13 dc13 pm13 cd13 ct13 oc14 kV14 dc14 pm14 cd14 ct14 oc15 kV15 dc15 pm15 cd15 ct15 oc16 kV16 dc16 pm16 cd16 ct16 oc17 kV17 dc17 pm17 cd17 ct17 oc18 kV18 dc18 pm18 cd18 ct18 oc19 kV19 dc19 pm19 cd19 ct19 oc20 kV20 dc20 pm20 cd20 ct20 oc21 kV21 dc21 pm21 cd21 ct21 oc22 kV22 dc22 pm22 cd22 ct22 oc23 kV23 dc23 pm23 cd23 ct23 oc24 kV24 dc24 pm24 cd24 ct24 oc25 kV25 dc25 pm25 cd25 ct25 oc26 kV26 dc26 pm26 cd26 ct26 oc27 kV27 dc27 pm27 cd27 ct27 oc28 kV28 dc28 pm28 cd28 ct28 oc29 kV29 dc29 pm29 cd29 ct29 oc30 kV30 dc30 pm30 cd30 ct30 oc31 kV31 dc31 pm31 cd31 ct31 oc32 kV32 dc32 pm32 cd32 ct32 : Value}
    (a0 : PySem.W.nsIn K mainGlobals "common_divisor" = some (some (.ref f0))) (l0 : K.lookup f0 = some ⟨oc0, od0, .func (PySem.W.fnOf "common_divisor" "common_divisor" (defArgs s_common_divisor) (defBody s_common_divisor) (defScope s_common_divisor) .none kV0 dc0 pm0 an0 cd0 ct0), sl0⟩) (c0 : PySem.W.codeIn K cd0 "common_divisor" = true) (k0 : PySem.W.keepIn K (.ref f0) = true)
    (a1 : PySem.W.nsIn K mainGlobals "fraction" = some (some (.ref f1))) (l1 : K.lookup f1 = some ⟨oc1, od1, .func (PySem.W.fnOf "fraction" "fraction" (defArgs s_fraction) (defBody s_fraction) (defScope s_fraction) .none kV1 dc1 pm1 an1 cd1 ct1), sl1⟩) (c1 : PySem.W.codeIn K cd1 "fraction" = true) (k1 : PySem.W.keepIn K (.ref f1) = true)
    (a2 : PySem.W.nsIn K mainGlobals "taken" = some (some (.ref f2))) (l2 : K.lookup f2 = some ⟨oc2, od2, .func (PySem.W.fnOf "taken" "taken" (defArgs s_taken) (defBody s_taken) (defScope s_taken) .none kV2 dc2 pm2 an2 cd2 ct2), sl2⟩) (c2 : PySem.W.codeIn K cd2 "taken" = true) (k2 : PySem.W.keepIn K (.ref f2) = true)
    (a3 : PySem.W.nsIn K mainGlobals "times" = some (some (.ref f3))) (l3 : K.lookup f3 = some ⟨oc3, od3, .func (PySem.W.fnOf "times" "times" (defArgs s_times) (defBody s_times) (defScope s_times) .none kV3 dc3 pm3 an3 cd3 ct3), sl3⟩) (c3 : PySem.W.codeIn K cd3 "times" = true) (k3 : PySem.W.keepIn K (.ref f3) = true)
    (a4 : PySem.W.nsIn K mainGlobals "over" = some (some (.ref f4))) (l4 : K.lookup f4 = some ⟨oc4, od4, .func (PySem.W.fnOf "over" "over" (defArgs s_over) (defBody s_over) (defScope s_over) .none kV4 dc4 pm4 an4 cd4 ct4), sl4⟩) (c4 : PySem.W.codeIn K cd4 "over" = true) (k4 : PySem.W.keepIn K (.ref f4) = true)
    (a5 : PySem.W.nsIn K mainGlobals "compared" = some (some (.ref f5))) (l5 : K.lookup f5 = some ⟨oc5, od5, .func (PySem.W.fnOf "compared" "compared" (defArgs s_compared) (defBody s_compared) (defScope s_compared) .none kV5 dc5 pm5 an5 cd5 ct5), sl5⟩) (c5 : PySem.W.codeIn K cd5 "compared" = true) (k5 : PySem.W.keepIn K (.ref f5) = true)
    (a6 : PySem.W.nsIn K mainGlobals "steps_of" = some (some (.ref f6))) (l6 : K.lookup f6 = some ⟨oc6, od6, .func (PySem.W.fnOf "steps_of" "steps_of" (defArgs s_steps_of) (defBody s_steps_of) (defScope s_steps_of) .none kV6 dc6 pm6 an6 cd6 ct6), sl6⟩) (c6 : PySem.W.codeIn K cd6 "steps_of" = true) (k6 : PySem.W.keepIn K (.ref f6) = true)
    (a7 : PySem.W.nsIn K mainGlobals "left_steps" = some (some (.ref f7))) (l7 : K.lookup f7 = some ⟨oc7, od7, .func (PySem.W.fnOf "left_steps" "left_steps" (defArgs s_left_steps) (defBody s_left_steps) (defScope s_left_steps) .none kV7 dc7 pm7 an7 cd7 ct7), sl7⟩) (c7 : PySem.W.codeIn K cd7 "left_steps" = true) (k7 : PySem.W.keepIn K (.ref f7) = true)
    (a8 : PySem.W.nsIn K mainGlobals "_law_box" = some (some (.ref f8))) (l8 : K.lookup f8 = some ⟨oc8, od8, .func (PySem.W.fnOf "_law_box" "_law_box" (defArgs s_l_box) (defBody s_l_box) (defScope s_l_box) .none kV8 dc8 pm8 an8 cd8 ct8), sl8⟩) (c8 : PySem.W.codeIn K cd8 "_law_box" = true) (k8 : PySem.W.keepIn K (.ref f8) = true)
    (a9 : PySem.W.nsIn K mainGlobals "_law_take" = some (some (.ref f9))) (l9 : K.lookup f9 = some ⟨oc9, od9, .func (PySem.W.fnOf "_law_take" "_law_take" (defArgs s_l_take) (defBody s_l_take) (defScope s_l_take) .none kV9 dc9 pm9 an9 cd9 ct9), sl9⟩) (c9 : PySem.W.codeIn K cd9 "_law_take" = true) (k9 : PySem.W.keepIn K (.ref f9) = true)
    (a10 : PySem.W.nsIn K mainGlobals "_law_folded" = some (some (.ref f10))) (l10 : K.lookup f10 = some ⟨oc10, od10, .func (PySem.W.fnOf "_law_folded" "_law_folded" (defArgs s_l_folded) (defBody s_l_folded) (defScope s_l_folded) .none kV10 dc10 pm10 an10 cd10 ct10), sl10⟩) (c10 : PySem.W.codeIn K cd10 "_law_folded" = true) (k10 : PySem.W.keepIn K (.ref f10) = true)
    (a11 : PySem.W.nsIn K mainGlobals "_law_frac" = some (some (.ref f11))) (l11 : K.lookup f11 = some ⟨oc11, od11, .func (PySem.W.fnOf "_law_frac" "_law_frac" (defArgs s_l_frac) (defBody s_l_frac) (defScope s_l_frac) .none kV11 dc11 pm11 an11 cd11 ct11), sl11⟩) (c11 : PySem.W.codeIn K cd11 "_law_frac" = true) (k11 : PySem.W.keepIn K (.ref f11) = true)
    (a12 : PySem.W.nsIn K mainGlobals "_law_sum" = some (some (.ref f12))) (l12 : K.lookup f12 = some ⟨oc12, od12, .func (PySem.W.fnOf "_law_sum" "_law_sum" (defArgs s_l_sum) (defBody s_l_sum) (defScope s_l_sum) .none kV12 dc12 pm12 an12 cd12 ct12), sl12⟩) (c12 : PySem.W.codeIn K cd12 "_law_sum" = true) (k12 : PySem.W.keepIn K (.ref f12) = true)
    (a13 : PySem.W.nsIn K mainGlobals "_law_product" = some (some (.ref f13))) (l13 : K.lookup f13 = some ⟨oc13, od13, .func (PySem.W.fnOf "_law_product" "_law_product" (defArgs s_l_product) (defBody s_l_product) (defScope s_l_product) .none kV13 dc13 pm13 an13 cd13 ct13), sl13⟩) (c13 : PySem.W.codeIn K cd13 "_law_product" = true) (k13 : PySem.W.keepIn K (.ref f13) = true)
    (a14 : PySem.W.nsIn K mainGlobals "_law_minus" = some (some (.ref f14))) (l14 : K.lookup f14 = some ⟨oc14, od14, .func (PySem.W.fnOf "_law_minus" "_law_minus" (defArgs s_l_minus) (defBody s_l_minus) (defScope s_l_minus) .none kV14 dc14 pm14 an14 cd14 ct14), sl14⟩) (c14 : PySem.W.codeIn K cd14 "_law_minus" = true) (k14 : PySem.W.keepIn K (.ref f14) = true)
    (a15 : PySem.W.nsIn K mainGlobals "_law_over" = some (some (.ref f15))) (l15 : K.lookup f15 = some ⟨oc15, od15, .func (PySem.W.fnOf "_law_over" "_law_over" (defArgs s_l_over) (defBody s_l_over) (defScope s_l_over) .none kV15 dc15 pm15 an15 cd15 ct15), sl15⟩) (c15 : PySem.W.codeIn K cd15 "_law_over" = true) (k15 : PySem.W.keepIn K (.ref f15) = true)
    (a16 : PySem.W.nsIn K mainGlobals "_law_above" = some (some (.ref f16))) (l16 : K.lookup f16 = some ⟨oc16, od16, .func (PySem.W.fnOf "_law_above" "_law_above" (defArgs s_l_above) (defBody s_l_above) (defScope s_l_above) .none kV16 dc16 pm16 an16 cd16 ct16), sl16⟩) (c16 : PySem.W.codeIn K cd16 "_law_above" = true) (k16 : PySem.W.keepIn K (.ref f16) = true)
    (a17 : PySem.W.nsIn K mainGlobals "_law_names_by" = some (some (.ref f17))) (l17 : K.lookup f17 = some ⟨oc17, od17, .func (PySem.W.fnOf "_law_names_by" "_law_names_by" (defArgs s_l_names_by) (defBody s_l_names_by) (defScope s_l_names_by) .none kV17 dc17 pm17 an17 cd17 ct17), sl17⟩) (c17 : PySem.W.codeIn K cd17 "_law_names_by" = true) (k17 : PySem.W.keepIn K (.ref f17) = true)
    (a18 : PySem.W.nsIn K mainGlobals "_law_any_gain" = some (some (.ref f18))) (l18 : K.lookup f18 = some ⟨oc18, od18, .func (PySem.W.fnOf "_law_any_gain" "_law_any_gain" (defArgs s_l_any_gain) (defBody s_l_any_gain) (defScope s_l_any_gain) .none kV18 dc18 pm18 an18 cd18 ct18), sl18⟩) (c18 : PySem.W.codeIn K cd18 "_law_any_gain" = true) (k18 : PySem.W.keepIn K (.ref f18) = true)
    (a19 : PySem.W.nsIn K mainGlobals "_law_any_much" = some (some (.ref f19))) (l19 : K.lookup f19 = some ⟨oc19, od19, .func (PySem.W.fnOf "_law_any_much" "_law_any_much" (defArgs s_l_any_much) (defBody s_l_any_much) (defScope s_l_any_much) .none kV19 dc19 pm19 an19 cd19 ct19), sl19⟩) (c19 : PySem.W.codeIn K cd19 "_law_any_much" = true) (k19 : PySem.W.keepIn K (.ref f19) = true)
    (a20 : PySem.W.nsIn K mainGlobals "_law_any_price" = some (some (.ref f20))) (l20 : K.lookup f20 = some ⟨oc20, od20, .func (PySem.W.fnOf "_law_any_price" "_law_any_price" (defArgs s_l_any_price) (defBody s_l_any_price) (defScope s_l_any_price) .none kV20 dc20 pm20 an20 cd20 ct20), sl20⟩) (c20 : PySem.W.codeIn K cd20 "_law_any_price" = true) (k20 : PySem.W.keepIn K (.ref f20) = true)
    (a21 : PySem.W.nsIn K mainGlobals "_law_planted" = some (some (.ref f21))) (l21 : K.lookup f21 = some ⟨oc21, od21, .func (PySem.W.fnOf "_law_planted" "_law_planted" (defArgs s_l_planted) (defBody s_l_planted) (defScope s_l_planted) .none kV21 dc21 pm21 an21 cd21 ct21), sl21⟩) (c21 : PySem.W.codeIn K cd21 "_law_planted" = true) (k21 : PySem.W.keepIn K (.ref f21) = true)
    (a22 : PySem.W.nsIn K mainGlobals "_law_net_by" = some (some (.ref f22))) (l22 : K.lookup f22 = some ⟨oc22, od22, .func (PySem.W.fnOf "_law_net_by" "_law_net_by" (defArgs s_l_net_by) (defBody s_l_net_by) (defScope s_l_net_by) .none kV22 dc22 pm22 an22 cd22 ct22), sl22⟩) (c22 : PySem.W.codeIn K cd22 "_law_net_by" = true) (k22 : PySem.W.keepIn K (.ref f22) = true)
    (a23 : PySem.W.nsIn K mainGlobals "_law_steps_of" = some (some (.ref f23))) (l23 : K.lookup f23 = some ⟨oc23, od23, .func (PySem.W.fnOf "_law_steps_of" "_law_steps_of" (defArgs s_l_steps_of) (defBody s_l_steps_of) (defScope s_l_steps_of) .none kV23 dc23 pm23 an23 cd23 ct23), sl23⟩) (c23 : PySem.W.codeIn K cd23 "_law_steps_of" = true) (k23 : PySem.W.keepIn K (.ref f23) = true)
    (a24 : PySem.W.nsIn K mainGlobals "_law_course_by" = some (some (.ref f24))) (l24 : K.lookup f24 = some ⟨oc24, od24, .func (PySem.W.fnOf "_law_course_by" "_law_course_by" (defArgs s_l_course_by) (defBody s_l_course_by) (defScope s_l_course_by) .none kV24 dc24 pm24 an24 cd24 ct24), sl24⟩) (c24 : PySem.W.codeIn K cd24 "_law_course_by" = true) (k24 : PySem.W.keepIn K (.ref f24) = true)
    (a25 : PySem.W.nsIn K mainGlobals "_law_parts_on" = some (some (.ref f25))) (l25 : K.lookup f25 = some ⟨oc25, od25, .func (PySem.W.fnOf "_law_parts_on" "_law_parts_on" (defArgs s_l_parts_on) (defBody s_l_parts_on) (defScope s_l_parts_on) .none kV25 dc25 pm25 an25 cd25 ct25), sl25⟩) (c25 : PySem.W.codeIn K cd25 "_law_parts_on" = true) (k25 : PySem.W.keepIn K (.ref f25) = true)
    (a26 : PySem.W.nsIn K mainGlobals "_law_put" = some (some (.ref f26))) (l26 : K.lookup f26 = some ⟨oc26, od26, .func (PySem.W.fnOf "_law_put" "_law_put" (defArgs s_l_put) (defBody s_l_put) (defScope s_l_put) .none kV26 dc26 pm26 an26 cd26 ct26), sl26⟩) (c26 : PySem.W.codeIn K cd26 "_law_put" = true) (k26 : PySem.W.keepIn K (.ref f26) = true)
    (a27 : PySem.W.nsIn K mainGlobals "_law_much_along" = some (some (.ref f27))) (l27 : K.lookup f27 = some ⟨oc27, od27, .func (PySem.W.fnOf "_law_much_along" "_law_much_along" (defArgs s_l_much_along) (defBody s_l_much_along) (defScope s_l_much_along) .none kV27 dc27 pm27 an27 cd27 ct27), sl27⟩) (c27 : PySem.W.codeIn K cd27 "_law_much_along" = true) (k27 : PySem.W.keepIn K (.ref f27) = true)
    (a28 : PySem.W.nsIn K mainGlobals "_law_stream_by" = some (some (.ref f28))) (l28 : K.lookup f28 = some ⟨oc28, od28, .func (PySem.W.fnOf "_law_stream_by" "_law_stream_by" (defArgs s_l_stream_by) (defBody s_l_stream_by) (defScope s_l_stream_by) .none kV28 dc28 pm28 an28 cd28 ct28), sl28⟩) (c28 : PySem.W.codeIn K cd28 "_law_stream_by" = true) (k28 : PySem.W.keepIn K (.ref f28) = true)
    (a29 : PySem.W.nsIn K mainGlobals "_law_ends_by" = some (some (.ref f29))) (l29 : K.lookup f29 = some ⟨oc29, od29, .func (PySem.W.fnOf "_law_ends_by" "_law_ends_by" (defArgs s_l_ends_by) (defBody s_l_ends_by) (defScope s_l_ends_by) .none kV29 dc29 pm29 an29 cd29 ct29), sl29⟩) (c29 : PySem.W.codeIn K cd29 "_law_ends_by" = true) (k29 : PySem.W.keepIn K (.ref f29) = true)
    (a30 : PySem.W.nsIn K mainGlobals "_law_same" = some (some (.ref f30))) (l30 : K.lookup f30 = some ⟨oc30, od30, .func (PySem.W.fnOf "_law_same" "_law_same" (defArgs s_l_same) (defBody s_l_same) (defScope s_l_same) .none kV30 dc30 pm30 an30 cd30 ct30), sl30⟩) (c30 : PySem.W.codeIn K cd30 "_law_same" = true) (k30 : PySem.W.keepIn K (.ref f30) = true)
    (a31 : PySem.W.nsIn K mainGlobals "_law_any_stream" = some (some (.ref f31))) (l31 : K.lookup f31 = some ⟨oc31, od31, .func (PySem.W.fnOf "_law_any_stream" "_law_any_stream" (defArgs s_l_any_stream) (defBody s_l_any_stream) (defScope s_l_any_stream) .none kV31 dc31 pm31 an31 cd31 ct31), sl31⟩) (c31 : PySem.W.codeIn K cd31 "_law_any_stream" = true) (k31 : PySem.W.keepIn K (.ref f31) = true)
    (a32 : PySem.W.nsIn K mainGlobals "law" = some (some (.ref f32))) (l32 : K.lookup f32 = some ⟨oc32, od32, .func (PySem.W.fnOf "law" "law" (defArgs s_law) (defBody s_law) (defScope s_law) .none kV32 dc32 pm32 an32 cd32 ct32), sl32⟩) (c32 : PySem.W.codeIn K cd32 "law" = true) (k32 : PySem.W.keepIn K (.ref f32) = true)
    (z0 : PySem.W.nsIn K mainGlobals "abs" = some none)
    (z1 : PySem.W.nsIn K mainGlobals "all" = some none)
    (z2 : PySem.W.nsIn K mainGlobals "bool" = some none)
    (z3 : PySem.W.nsIn K mainGlobals "dict" = some none)
    (z4 : PySem.W.nsIn K mainGlobals "divmod" = some none)
    (z5 : PySem.W.nsIn K mainGlobals "enumerate" = some none)
    (z6 : PySem.W.nsIn K mainGlobals "int" = some none)
    (z7 : PySem.W.nsIn K mainGlobals "isinstance" = some none)
    (z8 : PySem.W.nsIn K mainGlobals "len" = some none)
    (z9 : PySem.W.nsIn K mainGlobals "list" = some none)
    (z10 : PySem.W.nsIn K mainGlobals "max" = some none)
    (z11 : PySem.W.nsIn K mainGlobals "min" = some none)
    (z12 : PySem.W.nsIn K mainGlobals "range" = some none)
    (z13 : PySem.W.nsIn K mainGlobals "str" = some none)
    (z14 : PySem.W.nsIn K mainGlobals "tuple" = some none)
    (z15 : PySem.W.nsIn K mainGlobals "zip" = some none)
    : ∃ T : Txt K mg, T.f_law = f32 ∧ (∀ (s : Shared) (u : Value), BindsTo s T.d_law ⟨[u], []⟩ [("_law_script", u)]) := by
  refine ⟨{
    b_abs := PySem.W.mg_none_of X G z0,
    b_all := PySem.W.mg_none_of X G z1,
    b_bool := PySem.W.mg_none_of X G z2,
    b_dict := PySem.W.mg_none_of X G z3,
    b_divmod := PySem.W.mg_none_of X G z4,
    b_enumerate := PySem.W.mg_none_of X G z5,
    b_int := PySem.W.mg_none_of X G z6,
    b_isinstance := PySem.W.mg_none_of X G z7,
    b_len := PySem.W.mg_none_of X G z8,
    b_list := PySem.W.mg_none_of X G z9,
    b_max := PySem.W.mg_none_of X G z10,
    b_min := PySem.W.mg_none_of X G z11,
    b_range := PySem.W.mg_none_of X G z12,
    b_str := PySem.W.mg_none_of X G z13,
    b_tuple := PySem.W.mg_none_of X G z14,
    b_zip := PySem.W.mg_none_of X G z15,
    f_common_divisor := f0, d_common_divisor := _, m_common_divisor := PySem.W.mg_of X G a0, F_common_divisor := fun_mk (st := s_common_divisor) l0 c0 k0, B_common_divisor := (fun_mk (st := s_common_divisor) l0 c0 k0).binds (ps := ["n", "d"]) fun _ _ _ _ _ _ => len2 (fun _ _ => rfl),
    f_fraction := f1, d_fraction := _, m_fraction := PySem.W.mg_of X G a1, F_fraction := fun_mk (st := s_fraction) l1 c1 k1, B_fraction := (fun_mk (st := s_fraction) l1 c1 k1).binds (ps := ["n", "d"]) fun _ _ _ _ _ _ => len2 (fun _ _ => rfl),
    f_taken := f2, d_taken := _, m_taken := PySem.W.mg_of X G a2, F_taken := fun_mk (st := s_taken) l2 c2 k2, B_taken := (fun_mk (st := s_taken) l2 c2 k2).binds (ps := ["one", "other"]) fun _ _ _ _ _ _ => len2 (fun _ _ => rfl),
    f_times := f3, d_times := _, m_times := PySem.W.mg_of X G a3, F_times := fun_mk (st := s_times) l3 c3 k3, B_times := (fun_mk (st := s_times) l3 c3 k3).binds (ps := ["one", "other"]) fun _ _ _ _ _ _ => len2 (fun _ _ => rfl),
    f_over := f4, d_over := _, m_over := PySem.W.mg_of X G a4, F_over := fun_mk (st := s_over) l4 c4 k4, B_over := (fun_mk (st := s_over) l4 c4 k4).binds (ps := ["one", "other"]) fun _ _ _ _ _ _ => len2 (fun _ _ => rfl),
    f_compared := f5, d_compared := _, m_compared := PySem.W.mg_of X G a5, F_compared := fun_mk (st := s_compared) l5 c5 k5, B_compared := (fun_mk (st := s_compared) l5 c5 k5).binds (ps := ["one", "other"]) fun _ _ _ _ _ _ => len2 (fun _ _ => rfl),
    f_steps_of := f6, d_steps_of := _, m_steps_of := PySem.W.mg_of X G a6, F_steps_of := fun_mk (st := s_steps_of) l6 c6 k6, B_steps_of := (fun_mk (st := s_steps_of) l6 c6 k6).binds (ps := ["number", "tie", "much"]) fun _ _ _ _ _ _ => len3 (fun _ _ _ => rfl),
    f_left_steps := f7, d_left_steps := _, m_left_steps := PySem.W.mg_of X G a7, F_left_steps := fun_mk (st := s_left_steps) l7 c7 k7, B_left_steps := (fun_mk (st := s_left_steps) l7 c7 k7).binds (ps := ["net", "stream"]) fun _ _ _ _ _ _ => len2 (fun _ _ => rfl),
    f_l_box := f8, d_l_box := _, m_l_box := PySem.W.mg_of X G a8, F_l_box := fun_mk (st := s_l_box) l8 c8 k8, B_l_box := (fun_mk (st := s_l_box) l8 c8 k8).binds (ps := ["_law_script", "_law_k"]) fun _ _ _ _ _ _ => len2 (fun _ _ => rfl),
    f_l_take := f9, d_l_take := _, m_l_take := PySem.W.mg_of X G a9, F_l_take := fun_mk (st := s_l_take) l9 c9 k9, B_l_take := (fun_mk (st := s_l_take) l9 c9 k9).binds (ps := ["_law_box_here", "_law_many"]) fun _ _ _ _ _ _ => len2 (fun _ _ => rfl),
    f_l_folded := f10, d_l_folded := _, m_l_folded := PySem.W.mg_of X G a10, F_l_folded := fun_mk (st := s_l_folded) l10 c10 k10, B_l_folded := (fun_mk (st := s_l_folded) l10 c10 k10).binds (ps := ["_law_script", "_law_many"]) fun _ _ _ _ _ _ => len2 (fun _ _ => rfl),
    f_l_frac := f11, d_l_frac := _, m_l_frac := PySem.W.mg_of X G a11, F_l_frac := fun_mk (st := s_l_frac) l11 c11 k11, B_l_frac := (fun_mk (st := s_l_frac) l11 c11 k11).binds (ps := ["_law_n", "_law_d"]) fun _ _ _ _ _ _ => len2 (fun _ _ => rfl),
    f_l_sum := f12, d_l_sum := _, m_l_sum := PySem.W.mg_of X G a12, F_l_sum := fun_mk (st := s_l_sum) l12 c12 k12, B_l_sum := (fun_mk (st := s_l_sum) l12 c12 k12).binds (ps := ["_law_one", "_law_other"]) fun _ _ _ _ _ _ => len2 (fun _ _ => rfl),
    f_l_product := f13, d_l_product := _, m_l_product := PySem.W.mg_of X G a13, F_l_product := fun_mk (st := s_l_product) l13 c13 k13, B_l_product := (fun_mk (st := s_l_product) l13 c13 k13).binds (ps := ["_law_one", "_law_other"]) fun _ _ _ _ _ _ => len2 (fun _ _ => rfl),
    f_l_minus := f14, d_l_minus := _, m_l_minus := PySem.W.mg_of X G a14, F_l_minus := fun_mk (st := s_l_minus) l14 c14 k14, B_l_minus := (fun_mk (st := s_l_minus) l14 c14 k14).binds (ps := ["_law_one", "_law_other"]) fun _ _ _ _ _ _ => len2 (fun _ _ => rfl),
    f_l_over := f15, d_l_over := _, m_l_over := PySem.W.mg_of X G a15, F_l_over := fun_mk (st := s_l_over) l15 c15 k15, B_l_over := (fun_mk (st := s_l_over) l15 c15 k15).binds (ps := ["_law_one", "_law_other"]) fun _ _ _ _ _ _ => len2 (fun _ _ => rfl),
    f_l_above := f16, d_l_above := _, m_l_above := PySem.W.mg_of X G a16, F_l_above := fun_mk (st := s_l_above) l16 c16 k16, B_l_above := (fun_mk (st := s_l_above) l16 c16 k16).binds (ps := ["_law_one", "_law_other"]) fun _ _ _ _ _ _ => len2 (fun _ _ => rfl),
    f_l_names_by := f17, d_l_names_by := _, m_l_names_by := PySem.W.mg_of X G a17, F_l_names_by := fun_mk (st := s_l_names_by) l17 c17 k17, B_l_names_by := (fun_mk (st := s_l_names_by) l17 c17 k17).binds (ps := ["_law_box_here", "_law_many"]) fun _ _ _ _ _ _ => len2 (fun _ _ => rfl),
    f_l_any_gain := f18, d_l_any_gain := _, m_l_any_gain := PySem.W.mg_of X G a18, F_l_any_gain := fun_mk (st := s_l_any_gain) l18 c18 k18, B_l_any_gain := (fun_mk (st := s_l_any_gain) l18 c18 k18).binds (ps := ["_law_box_here"]) fun _ _ _ _ _ _ => len1 (fun _ => rfl),
    f_l_any_much := f19, d_l_any_much := _, m_l_any_much := PySem.W.mg_of X G a19, F_l_any_much := fun_mk (st := s_l_any_much) l19 c19 k19, B_l_any_much := (fun_mk (st := s_l_any_much) l19 c19 k19).binds (ps := ["_law_box_here"]) fun _ _ _ _ _ _ => len1 (fun _ => rfl),
    f_l_any_price := f20, d_l_any_price := _, m_l_any_price := PySem.W.mg_of X G a20, F_l_any_price := fun_mk (st := s_l_any_price) l20 c20 k20, B_l_any_price := (fun_mk (st := s_l_any_price) l20 c20 k20).binds (ps := ["_law_box_here"]) fun _ _ _ _ _ _ => len1 (fun _ => rfl),
    f_l_planted := f21, d_l_planted := _, m_l_planted := PySem.W.mg_of X G a21, F_l_planted := fun_mk (st := s_l_planted) l21 c21 k21, B_l_planted := (fun_mk (st := s_l_planted) l21 c21 k21).binds (ps := ["_law_box_here", "_law_places"]) fun _ _ _ _ _ _ => len2 (fun _ _ => rfl),
    f_l_net_by := f22, d_l_net_by := _, m_l_net_by := PySem.W.mg_of X G a22, F_l_net_by := fun_mk (st := s_l_net_by) l22 c22 k22, B_l_net_by := (fun_mk (st := s_l_net_by) l22 c22 k22).binds (ps := ["_law_box_here", "_law_most_places", "_law_most_ties"]) fun _ _ _ _ _ _ => len3 (fun _ _ _ => rfl),
    f_l_steps_of := f23, d_l_steps_of := _, m_l_steps_of := PySem.W.mg_of X G a23, F_l_steps_of := fun_mk (st := s_l_steps_of) l23 c23 k23, B_l_steps_of := (fun_mk (st := s_l_steps_of) l23 c23 k23).binds (ps := ["_law_net", "_law_stream"]) fun _ _ _ _ _ _ => len2 (fun _ _ => rfl),
    f_l_course_by := f24, d_l_course_by := _, m_l_course_by := PySem.W.mg_of X G a24, F_l_course_by := fun_mk (st := s_l_course_by) l24 c24 k24, B_l_course_by := (fun_mk (st := s_l_course_by) l24 c24 k24).binds (ps := ["_law_box_here", "_law_steps", "_law_first", "_law_end", "_law_barred"]) fun _ _ _ _ _ _ => len5 (fun _ _ _ _ _ => rfl),
    f_l_parts_on := f25, d_l_parts_on := _, m_l_parts_on := PySem.W.mg_of X G a25, F_l_parts_on := fun_mk (st := s_l_parts_on) l25 c25 k25, B_l_parts_on := (fun_mk (st := s_l_parts_on) l25 c25 k25).binds (ps := ["_law_steps", "_law_part"]) fun _ _ _ _ _ _ => len2 (fun _ _ => rfl),
    f_l_put := f26, d_l_put := _, m_l_put := PySem.W.mg_of X G a26, F_l_put := fun_mk (st := s_l_put) l26 c26 k26, B_l_put := (fun_mk (st := s_l_put) l26 c26 k26).binds (ps := ["_law_stream", "_law_parts", "_law_much"]) fun _ _ _ _ _ _ => len3 (fun _ _ _ => rfl),
    f_l_much_along := f27, d_l_much_along := _, m_l_much_along := PySem.W.mg_of X G a27, F_l_much_along := fun_mk (st := s_l_much_along) l27 c27 k27, B_l_much_along := (fun_mk (st := s_l_much_along) l27 c27 k27).binds (ps := ["_law_parts"]) fun _ _ _ _ _ _ => len1 (fun _ => rfl),
    f_l_stream_by := f28, d_l_stream_by := _, m_l_stream_by := PySem.W.mg_of X G a28, F_l_stream_by := fun_mk (st := s_l_stream_by) l28 c28 k28, B_l_stream_by := (fun_mk (st := s_l_stream_by) l28 c28 k28).binds (ps := ["_law_box_here", "_law_net", "_law_begin", "_law_end"]) fun _ _ _ _ _ _ => len4 (fun _ _ _ _ => rfl),
    f_l_ends_by := f29, d_l_ends_by := _, m_l_ends_by := PySem.W.mg_of X G a29, F_l_ends_by := fun_mk (st := s_l_ends_by) l29 c29 k29, B_l_ends_by := (fun_mk (st := s_l_ends_by) l29 c29 k29).binds (ps := ["_law_box_here", "_law_net"]) fun _ _ _ _ _ _ => len2 (fun _ _ => rfl),
    f_l_same := f30, d_l_same := _, m_l_same := PySem.W.mg_of X G a30, F_l_same := fun_mk (st := s_l_same) l30 c30 k30, B_l_same := (fun_mk (st := s_l_same) l30 c30 k30).binds (ps := ["_law_found", "_law_due"]) fun _ _ _ _ _ _ => len2 (fun _ _ => rfl),
    f_l_any_stream := f31, d_l_any_stream := _, m_l_any_stream := PySem.W.mg_of X G a31, F_l_any_stream := fun_mk (st := s_l_any_stream) l31 c31 k31, B_l_any_stream := (fun_mk (st := s_l_any_stream) l31 c31 k31).binds (ps := ["_law_box_here", "_law_net"]) fun _ _ _ _ _ _ => len2 (fun _ _ => rfl),
    f_law := f32, d_law := _, m_law := PySem.W.mg_of X G a32, F_law := fun_mk (st := s_law) l32 c32 k32, B_law := (fun_mk (st := s_law) l32 c32 k32).binds (ps := ["_law_script"]) fun _ _ _ _ _ _ => len1 (fun _ => rfl) }, rfl, fun s v => .of_eq rfl⟩
end K16
namespace K16
open PySem L2
theorem k_fraction_n : (defScope s_fraction).names.lookup ("n" : Str) = some NameKind.local := by decide +kernel
theorem k_fraction_d : (defScope s_fraction).names.lookup ("d" : Str) = some NameKind.local := by decide +kernel
theorem k_fraction_divisor : (defScope s_fraction).names.lookup ("divisor" : Str) = some NameKind.local := by decide +kernel
theorem k_fraction_common_divisor : (defScope s_fraction).names.lookup ("common_divisor" : Str) = some NameKind.globalImplicit := by decide +kernel
theorem k_taken_one : (defScope s_taken).names.lookup ("one" : Str) = some NameKind.local := by decide +kernel
theorem k_taken_other : (defScope s_taken).names.lookup ("other" : Str) = some NameKind.local := by decide +kernel
theorem k_taken_fraction : (defScope s_taken).names.lookup ("fraction" : Str) = some NameKind.globalImplicit := by decide +kernel
theorem k_times_one : (defScope s_times).names.lookup ("one" : Str) = some NameKind.local := by decide +kernel
theorem k_times_other : (defScope s_times).names.lookup ("other" : Str) = some NameKind.local := by decide +kernel
theorem k_times_fraction : (defScope s_times).names.lookup ("fraction" : Str) = some NameKind.globalImplicit := by decide +kernel
theorem k_over_one : (defScope s_over).names.lookup ("one" : Str) = some NameKind.local := by decide +kernel
theorem k_over_other : (defScope s_over).names.lookup ("other" : Str) = some NameKind.local := by decide +kernel
theorem k_over_fraction : (defScope s_over).names.lookup ("fraction" : Str) = some NameKind.globalImplicit := by decide +kernel
theorem k_compared_one : (defScope s_compared).names.lookup ("one" : Str) = some NameKind.local := by decide +kernel
theorem k_compared_other : (defScope s_compared).names.lookup ("other" : Str) = some NameKind.local := by decide +kernel
theorem k_compared_left : (defScope s_compared).names.lookup ("left" : Str) = some NameKind.local := by decide +kernel
theorem k_compared_right : (defScope s_compared).names.lookup ("right" : Str) = some NameKind.local := by decide +kernel
theorem k_steps_of_number : (defScope s_steps_of).names.lookup ("number" : Str) = some NameKind.local := by decide +kernel
theorem k_steps_of_tie : (defScope s_steps_of).names.lookup ("tie" : Str) = some NameKind.local := by decide +kernel
theorem k_steps_of_much : (defScope s_steps_of).names.lookup ("much" : Str) = some NameKind.local := by decide +kernel
theorem k_steps_of_begin : (defScope s_steps_of).names.lookup ("begin" : Str) = some NameKind.local := by decide +kernel
theorem k_steps_of_end : (defScope s_steps_of).names.lookup ("end" : Str) = some NameKind.local := by decide +kernel
theorem k_steps_of_most : (defScope s_steps_of).names.lookup ("most" : Str) = some NameKind.local := by decide +kernel
theorem k_steps_of_gain : (defScope s_steps_of).names.lookup ("gain" : Str) = some NameKind.local := by decide +kernel
theorem k_steps_of_price : (defScope s_steps_of).names.lookup ("price" : Str) = some NameKind.local := by decide +kernel
theorem k_steps_of_steps : (defScope s_steps_of).names.lookup ("steps" : Str) = some NameKind.local := by decide +kernel
theorem k_steps_of_compared : (defScope s_steps_of).names.lookup ("compared" : Str) = some NameKind.globalImplicit := by decide +kernel
theorem k_steps_of_taken : (defScope s_steps_of).names.lookup ("taken" : Str) = some NameKind.globalImplicit := by decide +kernel
theorem k_steps_of_times : (defScope s_steps_of).names.lookup ("times" : Str) = some NameKind.globalImplicit := by decide +kernel
theorem k_steps_of_over : (defScope s_steps_of).names.lookup ("over" : Str) = some NameKind.globalImplicit := by decide +kernel
theorem k_left_steps_net : (defScope s_left_steps).names.lookup ("net" : Str) = some NameKind.local := by decide +kernel
theorem k_left_steps_stream : (defScope s_left_steps).names.lookup ("stream" : Str) = some NameKind.local := by decide +kernel
theorem k_left_steps_steps : (defScope s_left_steps).names.lookup ("steps" : Str) = some NameKind.local := by decide +kernel
theorem k_left_steps_number : (defScope s_left_steps).names.lookup ("number" : Str) = some NameKind.local := by decide +kernel
theorem k_left_steps_tie : (defScope s_left_steps).names.lookup ("tie" : Str) = some NameKind.local := by decide +kernel
theorem k_left_steps_enumerate : (defScope s_left_steps).names.lookup ("enumerate" : Str) = some NameKind.globalImplicit := by decide +kernel
theorem k_left_steps_steps_of : (defScope s_left_steps).names.lookup ("steps_of" : Str) = some NameKind.globalImplicit := by decide +kernel
theorem k_l_frac_l_n : (defScope s_l_frac).names.lookup ("_law_n" : Str) = some NameKind.local := by decide +kernel
theorem k_l_frac_l_d : (defScope s_l_frac).names.lookup ("_law_d" : Str) = some NameKind.local := by decide +kernel
theorem k_l_frac_l_one : (defScope s_l_frac).names.lookup ("_law_one" : Str) = some NameKind.local := by decide +kernel
theorem k_l_frac_l_other : (defScope s_l_frac).names.lookup ("_law_other" : Str) = some NameKind.local := by decide +kernel
theorem k_l_frac_abs : (defScope s_l_frac).names.lookup ("abs" : Str) = some NameKind.globalImplicit := by decide +kernel
theorem k_l_sum_l_one : (defScope s_l_sum).names.lookup ("_law_one" : Str) = some NameKind.local := by decide +kernel
theorem k_l_sum_l_other : (defScope s_l_sum).names.lookup ("_law_other" : Str) = some NameKind.local := by decide +kernel
theorem k_l_sum_l_frac : (defScope s_l_sum).names.lookup ("_law_frac" : Str) = some NameKind.globalImplicit := by decide +kernel
theorem k_l_product_l_one : (defScope s_l_product).names.lookup ("_law_one" : Str) = some NameKind.local := by decide +kernel
theorem k_l_product_l_other : (defScope s_l_product).names.lookup ("_law_other" : Str) = some NameKind.local := by decide +kernel
theorem k_l_product_l_frac : (defScope s_l_product).names.lookup ("_law_frac" : Str) = some NameKind.globalImplicit := by decide +kernel
theorem k_l_minus_l_one : (defScope s_l_minus).names.lookup ("_law_one" : Str) = some NameKind.local := by decide +kernel
theorem k_l_minus_l_other : (defScope s_l_minus).names.lookup ("_law_other" : Str) = some NameKind.local := by decide +kernel
theorem k_l_minus_l_frac : (defScope s_l_minus).names.lookup ("_law_frac" : Str) = some NameKind.globalImplicit := by decide +kernel
theorem k_l_over_l_one : (defScope s_l_over).names.lookup ("_law_one" : Str) = some NameKind.local := by decide +kernel
theorem k_l_over_l_other : (defScope s_l_over).names.lookup ("_law_other" : Str) = some NameKind.local := by decide +kernel
theorem k_l_over_l_frac : (defScope s_l_over).names.lookup ("_law_frac" : Str) = some NameKind.globalImplicit := by decide +kernel
theorem k_l_above_l_one : (defScope s_l_above).names.lookup ("_law_one" : Str) = some NameKind.local := by decide +kernel
theorem k_l_above_l_other : (defScope s_l_above).names.lookup ("_law_other" : Str) = some NameKind.local := by decide +kernel
theorem k_l_names_by_l_box_here : (defScope s_l_names_by).names.lookup ("_law_box_here" : Str) = some NameKind.cell := by decide +kernel
theorem k_l_names_by_l_many : (defScope s_l_names_by).names.lookup ("_law_many" : Str) = some NameKind.local := by decide +kernel
theorem k_l_names_by_l_letters : (defScope s_l_names_by).names.lookup ("_law_letters" : Str) = some NameKind.cell := by decide +kernel
theorem k_l_names_by_l_first : (defScope s_l_names_by).names.lookup ("_law_first" : Str) = some NameKind.cell := by decide +kernel
theorem k_l_names_by_l_rest : (defScope s_l_names_by).names.lookup ("_law_rest" : Str) = some NameKind.local := by decide +kernel
theorem k_l_names_by_l_behind : (defScope s_l_names_by).names.lookup ("_law_behind" : Str) = some NameKind.cell := by decide +kernel
theorem k_l_names_by_l_sign : (defScope s_l_names_by).names.lookup ("_law_sign" : Str) = some NameKind.cell := by decide +kernel
theorem k_l_names_by_l_other : (defScope s_l_names_by).names.lookup ("_law_other" : Str) = some NameKind.cell := by decide +kernel
theorem k_l_names_by_l_take : (defScope s_l_names_by).names.lookup ("_law_take" : Str) = some NameKind.globalImplicit := by decide +kernel
theorem k_l_names_by_range : (defScope s_l_names_by).names.lookup ("range" : Str) = some NameKind.globalImplicit := by decide +kernel
theorem k_l_names_by_int : (defScope s_l_names_by).names.lookup ("int" : Str) = some NameKind.globalImplicit := by decide +kernel
theorem k_l_names_by_tuple : (defScope s_l_names_by).names.lookup ("tuple" : Str) = some NameKind.globalImplicit := by decide +kernel
theorem k_l_any_gain_l_box_here : (defScope s_l_any_gain).names.lookup ("_law_box_here" : Str) = some NameKind.local := by decide +kernel
theorem k_l_any_gain_l_way : (defScope s_l_any_gain).names.lookup ("_law_way" : Str) = some NameKind.local := by decide +kernel
theorem k_l_any_gain_l_top : (defScope s_l_any_gain).names.lookup ("_law_top" : Str) = some NameKind.local := by decide +kernel
theorem k_l_any_gain_l_take : (defScope s_l_any_gain).names.lookup ("_law_take" : Str) = some NameKind.globalImplicit := by decide +kernel
theorem k_l_any_gain_l_frac : (defScope s_l_any_gain).names.lookup ("_law_frac" : Str) = some NameKind.globalImplicit := by decide +kernel
theorem k_l_any_much_l_box_here : (defScope s_l_any_much).names.lookup ("_law_box_here" : Str) = some NameKind.local := by decide +kernel
theorem k_l_any_much_l_way : (defScope s_l_any_much).names.lookup ("_law_way" : Str) = some NameKind.local := by decide +kernel
theorem k_l_any_much_l_take : (defScope s_l_any_much).names.lookup ("_law_take" : Str) = some NameKind.globalImplicit := by decide +kernel
theorem k_l_any_much_l_frac : (defScope s_l_any_much).names.lookup ("_law_frac" : Str) = some NameKind.globalImplicit := by decide +kernel
theorem k_l_any_price_l_box_here : (defScope s_l_any_price).names.lookup ("_law_box_here" : Str) = some NameKind.local := by decide +kernel
theorem k_l_any_price_l_way : (defScope s_l_any_price).names.lookup ("_law_way" : Str) = some NameKind.local := by decide +kernel
theorem k_l_any_price_l_take : (defScope s_l_any_price).names.lookup ("_law_take" : Str) = some NameKind.globalImplicit := by decide +kernel
theorem k_l_any_price_l_frac : (defScope s_l_any_price).names.lookup ("_law_frac" : Str) = some NameKind.globalImplicit := by decide +kernel
theorem k_l_planted_l_box_here : (defScope s_l_planted).names.lookup ("_law_box_here" : Str) = some NameKind.local := by decide +kernel
theorem k_l_planted_l_places : (defScope s_l_planted).names.lookup ("_law_places" : Str) = some NameKind.cell := by decide +kernel
theorem k_l_planted_l_many : (defScope s_l_planted).names.lookup ("_law_many" : Str) = some NameKind.local := by decide +kernel
theorem k_l_planted_l_first : (defScope s_l_planted).names.lookup ("_law_first" : Str) = some NameKind.cell := by decide +kernel
theorem k_l_planted_l_a : (defScope s_l_planted).names.lookup ("_law_a" : Str) = some NameKind.local := by decide +kernel
theorem k_l_planted_l_b : (defScope s_l_planted).names.lookup ("_law_b" : Str) = some NameKind.local := by decide +kernel
theorem k_l_planted_l_more : (defScope s_l_planted).names.lookup ("_law_more" : Str) = some NameKind.local := by decide +kernel
theorem k_l_planted_l_gains : (defScope s_l_planted).names.lookup ("_law_gains" : Str) = some NameKind.local := by decide +kernel
theorem k_l_planted_l_spots : (defScope s_l_planted).names.lookup ("_law_spots" : Str) = some NameKind.local := by decide +kernel
theorem k_l_planted_l_take : (defScope s_l_planted).names.lookup ("_law_take" : Str) = some NameKind.globalImplicit := by decide +kernel
theorem k_l_planted_len : (defScope s_l_planted).names.lookup ("len" : Str) = some NameKind.globalImplicit := by decide +kernel
theorem k_l_planted_l_frac : (defScope s_l_planted).names.lookup ("_law_frac" : Str) = some NameKind.globalImplicit := by decide +kernel
theorem k_l_planted_range : (defScope s_l_planted).names.lookup ("range" : Str) = some NameKind.globalImplicit := by decide +kernel
theorem k_l_planted_list : (defScope s_l_planted).names.lookup ("list" : Str) = some NameKind.globalImplicit := by decide +kernel
theorem k_l_planted_zip : (defScope s_l_planted).names.lookup ("zip" : Str) = some NameKind.globalImplicit := by decide +kernel
theorem k_l_net_by_l_box_here : (defScope s_l_net_by).names.lookup ("_law_box_here" : Str) = some NameKind.cell := by decide +kernel
theorem k_l_net_by_l_most_places : (defScope s_l_net_by).names.lookup ("_law_most_places" : Str) = some NameKind.local := by decide +kernel
theorem k_l_net_by_l_most_ties : (defScope s_l_net_by).names.lookup ("_law_most_ties" : Str) = some NameKind.local := by decide +kernel
theorem k_l_net_by_l_way : (defScope s_l_net_by).names.lookup ("_law_way" : Str) = some NameKind.local := by decide +kernel
theorem k_l_net_by_l_great : (defScope s_l_net_by).names.lookup ("_law_great" : Str) = some NameKind.local := by decide +kernel
theorem k_l_net_by_l_places : (defScope s_l_net_by).names.lookup ("_law_places" : Str) = some NameKind.local := by decide +kernel
theorem k_l_net_by_l_many : (defScope s_l_net_by).names.lookup ("_law_many" : Str) = some NameKind.local := by decide +kernel
theorem k_l_net_by_l_some : (defScope s_l_net_by).names.lookup ("_law_some" : Str) = some NameKind.cell := by decide +kernel
theorem k_l_net_by_l_worths : (defScope s_l_net_by).names.lookup ("_law_worths" : Str) = some NameKind.local := by decide +kernel
theorem k_l_net_by_l_ends : (defScope s_l_net_by).names.lookup ("_law_ends" : Str) = some NameKind.local := by decide +kernel
theorem k_l_net_by_l_turn : (defScope s_l_net_by).names.lookup ("_law_turn" : Str) = some NameKind.local := by decide +kernel
theorem k_l_net_by_l_at : (defScope s_l_net_by).names.lookup ("_law_at" : Str) = some NameKind.local := by decide +kernel
theorem k_l_net_by_l_begin : (defScope s_l_net_by).names.lookup ("_law_begin" : Str) = some NameKind.local := by decide +kernel
theorem k_l_net_by_l_end : (defScope s_l_net_by).names.lookup ("_law_end" : Str) = some NameKind.local := by decide +kernel
theorem k_l_net_by_l_gain : (defScope s_l_net_by).names.lookup ("_law_gain" : Str) = some NameKind.local := by decide +kernel
theorem k_l_net_by_l_less : (defScope s_l_net_by).names.lookup ("_law_less" : Str) = some NameKind.local := by decide +kernel
theorem k_l_net_by_l_ties : (defScope s_l_net_by).names.lookup ("_law_ties" : Str) = some NameKind.local := by decide +kernel
theorem k_l_net_by_l_top : (defScope s_l_net_by).names.lookup ("_law_top" : Str) = some NameKind.local := by decide +kernel
theorem k_l_net_by_l_take : (defScope s_l_net_by).names.lookup ("_law_take" : Str) = some NameKind.globalImplicit := by decide +kernel
theorem k_l_net_by_l_names_by : (defScope s_l_net_by).names.lookup ("_law_names_by" : Str) = some NameKind.globalImplicit := by decide +kernel
theorem k_l_net_by_dict : (defScope s_l_net_by).names.lookup ("dict" : Str) = some NameKind.globalImplicit := by decide +kernel
theorem k_l_net_by_l_planted : (defScope s_l_net_by).names.lookup ("_law_planted" : Str) = some NameKind.globalImplicit := by decide +kernel
theorem k_l_net_by_range : (defScope s_l_net_by).names.lookup ("range" : Str) = some NameKind.globalImplicit := by decide +kernel
theorem k_l_net_by_len : (defScope s_l_net_by).names.lookup ("len" : Str) = some NameKind.globalImplicit := by decide +kernel
theorem k_l_net_by_l_any_gain : (defScope s_l_net_by).names.lookup ("_law_any_gain" : Str) = some NameKind.globalImplicit := by decide +kernel
theorem k_l_net_by_l_product : (defScope s_l_net_by).names.lookup ("_law_product" : Str) = some NameKind.globalImplicit := by decide +kernel
theorem k_l_net_by_l_over : (defScope s_l_net_by).names.lookup ("_law_over" : Str) = some NameKind.globalImplicit := by decide +kernel
theorem k_l_net_by_l_any_much : (defScope s_l_net_by).names.lookup ("_law_any_much" : Str) = some NameKind.globalImplicit := by decide +kernel
theorem k_l_net_by_l_any_price : (defScope s_l_net_by).names.lookup ("_law_any_price" : Str) = some NameKind.globalImplicit := by decide +kernel
theorem k_l_net_by_tuple : (defScope s_l_net_by).names.lookup ("tuple" : Str) = some NameKind.globalImplicit := by decide +kernel
theorem k_l_steps_of_l_net : (defScope s_l_steps_of).names.lookup ("_law_net" : Str) = some NameKind.local := by decide +kernel
theorem k_l_steps_of_l_stream : (defScope s_l_steps_of).names.lookup ("_law_stream" : Str) = some NameKind.local := by decide +kernel
theorem k_l_steps_of_l_found : (defScope s_l_steps_of).names.lookup ("_law_found" : Str) = some NameKind.local := by decide +kernel
theorem k_l_steps_of_l_number : (defScope s_l_steps_of).names.lookup ("_law_number" : Str) = some NameKind.local := by decide +kernel
theorem k_l_steps_of_l_begin : (defScope s_l_steps_of).names.lookup ("_law_begin" : Str) = some NameKind.local := by decide +kernel
theorem k_l_steps_of_l_end : (defScope s_l_steps_of).names.lookup ("_law_end" : Str) = some NameKind.local := by decide +kernel
theorem k_l_steps_of_l_top : (defScope s_l_steps_of).names.lookup ("_law_top" : Str) = some NameKind.local := by decide +kernel
theorem k_l_steps_of_l_gain : (defScope s_l_steps_of).names.lookup ("_law_gain" : Str) = some NameKind.local := by decide +kernel
theorem k_l_steps_of_l_price : (defScope s_l_steps_of).names.lookup ("_law_price" : Str) = some NameKind.local := by decide +kernel
theorem k_l_steps_of_l_goes : (defScope s_l_steps_of).names.lookup ("_law_goes" : Str) = some NameKind.local := by decide +kernel
theorem k_l_steps_of_enumerate : (defScope s_l_steps_of).names.lookup ("enumerate" : Str) = some NameKind.globalImplicit := by decide +kernel
theorem k_l_steps_of_l_above : (defScope s_l_steps_of).names.lookup ("_law_above" : Str) = some NameKind.globalImplicit := by decide +kernel
theorem k_l_steps_of_l_minus : (defScope s_l_steps_of).names.lookup ("_law_minus" : Str) = some NameKind.globalImplicit := by decide +kernel
theorem k_l_steps_of_l_product : (defScope s_l_steps_of).names.lookup ("_law_product" : Str) = some NameKind.globalImplicit := by decide +kernel
theorem k_l_steps_of_l_over : (defScope s_l_steps_of).names.lookup ("_law_over" : Str) = some NameKind.globalImplicit := by decide +kernel
theorem k_l_course_by_l_box_here : (defScope s_l_course_by).names.lookup ("_law_box_here" : Str) = some NameKind.local := by decide +kernel
theorem k_l_course_by_l_steps : (defScope s_l_course_by).names.lookup ("_law_steps" : Str) = some NameKind.local := by decide +kernel
theorem k_l_course_by_l_first : (defScope s_l_course_by).names.lookup ("_law_first" : Str) = some NameKind.local := by decide +kernel
theorem k_l_course_by_l_end : (defScope s_l_course_by).names.lookup ("_law_end" : Str) = some NameKind.local := by decide +kernel
theorem k_l_course_by_l_barred : (defScope s_l_course_by).names.lookup ("_law_barred" : Str) = some NameKind.local := by decide +kernel
theorem k_l_course_by_l_rows : (defScope s_l_course_by).names.lookup ("_law_rows" : Str) = some NameKind.local := by decide +kernel
theorem k_l_course_by_l_met : (defScope s_l_course_by).names.lookup ("_law_met" : Str) = some NameKind.cell := by decide +kernel
theorem k_l_course_by_l_course : (defScope s_l_course_by).names.lookup ("_law_course" : Str) = some NameKind.cell := by decide +kernel
theorem k_l_course_by_l_here : (defScope s_l_course_by).names.lookup ("_law_here" : Str) = some NameKind.cell := by decide +kernel
theorem k_l_course_by_list : (defScope s_l_course_by).names.lookup ("list" : Str) = some NameKind.globalImplicit := by decide +kernel
theorem k_l_course_by_len : (defScope s_l_course_by).names.lookup ("len" : Str) = some NameKind.globalImplicit := by decide +kernel
theorem k_l_course_by_l_take : (defScope s_l_course_by).names.lookup ("_law_take" : Str) = some NameKind.globalImplicit := by decide +kernel
theorem k_l_course_by_min : (defScope s_l_course_by).names.lookup ("min" : Str) = some NameKind.globalImplicit := by decide +kernel
theorem k_l_parts_on_l_steps : (defScope s_l_parts_on).names.lookup ("_law_steps" : Str) = some NameKind.local := by decide +kernel
theorem k_l_parts_on_l_part : (defScope s_l_parts_on).names.lookup ("_law_part" : Str) = some NameKind.local := by decide +kernel
theorem k_l_parts_on_l_found : (defScope s_l_parts_on).names.lookup ("_law_found" : Str) = some NameKind.local := by decide +kernel
theorem k_l_parts_on_l_step : (defScope s_l_parts_on).names.lookup ("_law_step" : Str) = some NameKind.local := by decide +kernel
theorem k_l_parts_on_l_product : (defScope s_l_parts_on).names.lookup ("_law_product" : Str) = some NameKind.globalImplicit := by decide +kernel
theorem k_l_put_l_stream : (defScope s_l_put).names.lookup ("_law_stream" : Str) = some NameKind.local := by decide +kernel
theorem k_l_put_l_parts : (defScope s_l_put).names.lookup ("_law_parts" : Str) = some NameKind.local := by decide +kernel
theorem k_l_put_l_much : (defScope s_l_put).names.lookup ("_law_much" : Str) = some NameKind.local := by decide +kernel
theorem k_l_put_l_made : (defScope s_l_put).names.lookup ("_law_made" : Str) = some NameKind.local := by decide +kernel
theorem k_l_put_l_step : (defScope s_l_put).names.lookup ("_law_step" : Str) = some NameKind.local := by decide +kernel
theorem k_l_put_l_part : (defScope s_l_put).names.lookup ("_law_part" : Str) = some NameKind.local := by decide +kernel
theorem k_l_put_l_goes : (defScope s_l_put).names.lookup ("_law_goes" : Str) = some NameKind.local := by decide +kernel
theorem k_l_put_list : (defScope s_l_put).names.lookup ("list" : Str) = some NameKind.globalImplicit := by decide +kernel
theorem k_l_put_l_product : (defScope s_l_put).names.lookup ("_law_product" : Str) = some NameKind.globalImplicit := by decide +kernel
theorem k_l_put_l_minus : (defScope s_l_put).names.lookup ("_law_minus" : Str) = some NameKind.globalImplicit := by decide +kernel
theorem k_l_put_l_sum : (defScope s_l_put).names.lookup ("_law_sum" : Str) = some NameKind.globalImplicit := by decide +kernel
theorem k_l_much_along_l_parts : (defScope s_l_much_along).names.lookup ("_law_parts" : Str) = some NameKind.local := by decide +kernel
theorem k_l_much_along_l_found : (defScope s_l_much_along).names.lookup ("_law_found" : Str) = some NameKind.local := by decide +kernel
theorem k_l_much_along_l_step : (defScope s_l_much_along).names.lookup ("_law_step" : Str) = some NameKind.local := by decide +kernel
theorem k_l_much_along_l_part : (defScope s_l_much_along).names.lookup ("_law_part" : Str) = some NameKind.local := by decide +kernel
theorem k_l_much_along_l_one : (defScope s_l_much_along).names.lookup ("_law_one" : Str) = some NameKind.local := by decide +kernel
theorem k_l_much_along_l_over : (defScope s_l_much_along).names.lookup ("_law_over" : Str) = some NameKind.globalImplicit := by decide +kernel
theorem k_l_much_along_l_above : (defScope s_l_much_along).names.lookup ("_law_above" : Str) = some NameKind.globalImplicit := by decide +kernel
theorem k_l_stream_by_l_box_here : (defScope s_l_stream_by).names.lookup ("_law_box_here" : Str) = some NameKind.local := by decide +kernel
theorem k_l_stream_by_l_net : (defScope s_l_stream_by).names.lookup ("_law_net" : Str) = some NameKind.local := by decide +kernel
theorem k_l_stream_by_l_begin : (defScope s_l_stream_by).names.lookup ("_law_begin" : Str) = some NameKind.local := by decide +kernel
theorem k_l_stream_by_l_end : (defScope s_l_stream_by).names.lookup ("_law_end" : Str) = some NameKind.local := by decide +kernel
theorem k_l_stream_by_l_stream : (defScope s_l_stream_by).names.lookup ("_law_stream" : Str) = some NameKind.local := by decide +kernel
theorem k_l_stream_by_l_turn : (defScope s_l_stream_by).names.lookup ("_law_turn" : Str) = some NameKind.local := by decide +kernel
theorem k_l_stream_by_l_course : (defScope s_l_stream_by).names.lookup ("_law_course" : Str) = some NameKind.local := by decide +kernel
theorem k_l_stream_by_l_parts : (defScope s_l_stream_by).names.lookup ("_law_parts" : Str) = some NameKind.local := by decide +kernel
theorem k_l_stream_by_l_share : (defScope s_l_stream_by).names.lookup ("_law_share" : Str) = some NameKind.local := by decide +kernel
theorem k_l_stream_by_len : (defScope s_l_stream_by).names.lookup ("len" : Str) = some NameKind.globalImplicit := by decide +kernel
theorem k_l_stream_by_range : (defScope s_l_stream_by).names.lookup ("range" : Str) = some NameKind.globalImplicit := by decide +kernel
theorem k_l_stream_by_l_take : (defScope s_l_stream_by).names.lookup ("_law_take" : Str) = some NameKind.globalImplicit := by decide +kernel
theorem k_l_stream_by_l_course_by : (defScope s_l_stream_by).names.lookup ("_law_course_by" : Str) = some NameKind.globalImplicit := by decide +kernel
theorem k_l_stream_by_l_steps_of : (defScope s_l_stream_by).names.lookup ("_law_steps_of" : Str) = some NameKind.globalImplicit := by decide +kernel
theorem k_l_stream_by_l_parts_on : (defScope s_l_stream_by).names.lookup ("_law_parts_on" : Str) = some NameKind.globalImplicit := by decide +kernel
theorem k_l_stream_by_l_put : (defScope s_l_stream_by).names.lookup ("_law_put" : Str) = some NameKind.globalImplicit := by decide +kernel
theorem k_l_stream_by_l_product : (defScope s_l_stream_by).names.lookup ("_law_product" : Str) = some NameKind.globalImplicit := by decide +kernel
theorem k_l_stream_by_l_much_along : (defScope s_l_stream_by).names.lookup ("_law_much_along" : Str) = some NameKind.globalImplicit := by decide +kernel
theorem k_l_ends_by_l_box_here : (defScope s_l_ends_by).names.lookup ("_law_box_here" : Str) = some NameKind.local := by decide +kernel
theorem k_l_ends_by_l_net : (defScope s_l_ends_by).names.lookup ("_law_net" : Str) = some NameKind.local := by decide +kernel
theorem k_l_ends_by_l_at : (defScope s_l_ends_by).names.lookup ("_law_at" : Str) = some NameKind.local := by decide +kernel
theorem k_l_ends_by_l_take : (defScope s_l_ends_by).names.lookup ("_law_take" : Str) = some NameKind.globalImplicit := by decide +kernel
theorem k_l_ends_by_len : (defScope s_l_ends_by).names.lookup ("len" : Str) = some NameKind.globalImplicit := by decide +kernel
theorem k_l_same_l_found : (defScope s_l_same).names.lookup ("_law_found" : Str) = some NameKind.local := by decide +kernel
theorem k_l_same_l_due : (defScope s_l_same).names.lookup ("_law_due" : Str) = some NameKind.local := by decide +kernel
theorem k_l_same_isinstance : (defScope s_l_same).names.lookup ("isinstance" : Str) = some NameKind.globalImplicit := by decide +kernel
theorem k_l_same_list : (defScope s_l_same).names.lookup ("list" : Str) = some NameKind.globalImplicit := by decide +kernel
theorem k_l_same_tuple : (defScope s_l_same).names.lookup ("tuple" : Str) = some NameKind.globalImplicit := by decide +kernel
theorem k_l_same_len : (defScope s_l_same).names.lookup ("len" : Str) = some NameKind.globalImplicit := by decide +kernel
theorem k_l_same_all : (defScope s_l_same).names.lookup ("all" : Str) = some NameKind.globalImplicit := by decide +kernel
theorem k_l_same_zip : (defScope s_l_same).names.lookup ("zip" : Str) = some NameKind.globalImplicit := by decide +kernel
theorem k_l_same_str : (defScope s_l_same).names.lookup ("str" : Str) = some NameKind.globalImplicit := by decide +kernel
theorem k_l_same_bool : (defScope s_l_same).names.lookup ("bool" : Str) = some NameKind.globalImplicit := by decide +kernel
theorem k_l_same_int : (defScope s_l_same).names.lookup ("int" : Str) = some NameKind.globalImplicit := by decide +kernel
theorem k_l_any_stream_l_net : (defScope s_l_any_stream).names.lookup ("_law_net" : Str) = some NameKind.local := by decide +kernel
theorem k_l_any_stream_l_shares : (defScope s_l_any_stream).names.lookup ("_law_shares" : Str) = some NameKind.cell := by decide +kernel
theorem k_law_l_script : (defScope s_law).names.lookup ("_law_script" : Str) = some NameKind.local := by decide +kernel
theorem k_law_l_cells : (defScope s_law).names.lookup ("_law_cells" : Str) = some NameKind.local := by decide +kernel
theorem k_law_l_k : (defScope s_law).names.lookup ("_law_k" : Str) = some NameKind.local := by decide +kernel
theorem k_law_l_box_here : (defScope s_law).names.lookup ("_law_box_here" : Str) = some NameKind.local := by decide +kernel
theorem k_law_l_turn : (defScope s_law).names.lookup ("_law_turn" : Str) = some NameKind.local := by decide +kernel
theorem k_law_l_net : (defScope s_law).names.lookup ("_law_net" : Str) = some NameKind.local := by decide +kernel
theorem k_law_l_begin : (defScope s_law).names.lookup ("_law_begin" : Str) = some NameKind.local := by decide +kernel
theorem k_law_l_end : (defScope s_law).names.lookup ("_law_end" : Str) = some NameKind.local := by decide +kernel
theorem k_law_l_stream : (defScope s_law).names.lookup ("_law_stream" : Str) = some NameKind.local := by decide +kernel
theorem k_law_l_due : (defScope s_law).names.lookup ("_law_due" : Str) = some NameKind.local := by decide +kernel
theorem k_law_l_written : (defScope s_law).names.lookup ("_law_written" : Str) = some NameKind.local := by decide +kernel
theorem k_law_l_again : (defScope s_law).names.lookup ("_law_again" : Str) = some NameKind.local := by decide +kernel
theorem k_law_l_found : (defScope s_law).names.lookup ("_law_found" : Str) = some NameKind.local := by decide +kernel
theorem k_law_l_folded : (defScope s_law).names.lookup ("_law_folded" : Str) = some NameKind.globalImplicit := by decide +kernel
theorem k_law_range : (defScope s_law).names.lookup ("range" : Str) = some NameKind.globalImplicit := by decide +kernel
theorem k_law_max : (defScope s_law).names.lookup ("max" : Str) = some NameKind.globalImplicit := by decide +kernel
theorem k_law_len : (defScope s_law).names.lookup ("len" : Str) = some NameKind.globalImplicit := by decide +kernel
theorem k_law_l_box : (defScope s_law).names.lookup ("_law_box" : Str) = some NameKind.globalImplicit := by decide +kernel
theorem k_law_l_net_by : (defScope s_law).names.lookup ("_law_net_by" : Str) = some NameKind.globalImplicit := by decide +kernel
theorem k_law_l_ends_by : (defScope s_law).names.lookup ("_law_ends_by" : Str) = some NameKind.globalImplicit := by decide +kernel
theorem k_law_l_stream_by : (defScope s_law).names.lookup ("_law_stream_by" : Str) = some NameKind.globalImplicit := by decide +kernel
theorem k_law_l_any_stream : (defScope s_law).names.lookup ("_law_any_stream" : Str) = some NameKind.globalImplicit := by decide +kernel
theorem k_law_l_steps_of : (defScope s_law).names.lookup ("_law_steps_of" : Str) = some NameKind.globalImplicit := by decide +kernel
theorem k_law_str : (defScope s_law).names.lookup ("str" : Str) = some NameKind.globalImplicit := by decide +kernel
theorem k_law_left_steps : (defScope s_law).names.lookup ("left_steps" : Str) = some NameKind.globalImplicit := by decide +kernel
theorem k_law_l_same : (defScope s_law).names.lookup ("_law_same" : Str) = some NameKind.globalImplicit := by decide +kernel
end K16
namespace K16
open PySem L2
section
variable {P : Program} {w : World} {K : PySem.W.Frag} {mg : Str → Option Value} {base : Heap}
inductive spGcd_ (vs : List V) (H : Hp) (Q : VK) : Prop
  | mk (n d : Int) (h0 : vs = [.int n, .int d]) (h1 : Q (.int (Int.gcd n d : Nat)) H)
def spGcd : Sp := fun vs H Q _ => spGcd_  vs H Q
theorem ok_common_divisor (T : Txt K mg) : FnOk P w K mg base CX0 1 T.f_common_divisor T.d_common_divisor ["n", "d"] spGcd := by
  refine T.F_common_divisor.ok sc_common_divisor (fun vs H Q E h => ?_) (fun cdv A outer s H vs Q E hr h => ?_)
  · obtain ⟨n, d, rfl, _⟩ := h
    rfl
  · obtain ⟨n, d, rfl, k⟩ := h
    refine ⟨_, (pss_cons (ps_while PassesOwn.never (pt_cmpR op_ne (pv 1) pe_int (nomark _)) (pss_one (ps_par (i := 0) (j := 1) rfl sc_common_divisor.nd rfl rfl (by decide) rfl rfl (pa_cons (pv 1) (pa_cons (pe_op op_modN (pv 0) (pv 1)) pa_nil)) rfl)))
      (pss_one (ps_ret (pe_callB call_abs (by rfl) T.b_abs boot_b_abs (pa_cons (pv 0) pa_nil))))), ?_⟩
    refine ⟨fun m σ H' => ∃ a b : Int, σ = [some (.int a), some (.int b)] ∧ H' = H ∧ Int.gcd a b = Int.gcd n d ∧ m = b.natAbs, ⟨_, n, d, rfl, rfl, rfl, rfl⟩, ?_⟩
    rintro m σ H' ⟨a, b, rfl, rfl, hg, rfl⟩
    refine ⟨_, rfl, rfl, _, rfl, ?_⟩
    by_cases hb : b = 0
    · subst hb
      refine iteF ?_
      refine ⟨_, rfl, _, rfl, ?_⟩
      rw [← KM.gcd_zero_abs, hg]
      exact k
    · have e : (!decide (V.int b = V.int 0)) = true := by
        rw [decide_eq_false (fun z => hb (by injection z))]; rfl
      rw [e]
      refine iteT ⟨fun σ' H'' => ∃ a' b' : Int, σ' = [some (.int a'), some (.int b')] ∧ H'' = H' ∧ Int.gcd a' b' = Int.gcd n d ∧ b'.natAbs < b.natAbs, ?_, ?_⟩
      · rintro σ' H'' ⟨a', b', rfl, rfl, h1, h2⟩
        exact ⟨_, h2, a', b', rfl, rfl, h1, rfl⟩
      · refine ⟨_, rfl, _, rfl, _, rfl, _, _, rfl, rfl, hb, _, _, rfl, ?_⟩
        exact ⟨b, a.fmod b, rfl, rfl, (KM.gcd_fmod a b).trans hg, KM.fmod_natAbs_lt a b hb⟩
end
end K16
namespace K16
open PySem L2
section
variable {P : Program} {w : World} {K : PySem.W.Frag} {mg : Str → Option Value} {base : Heap}
theorem ok_box (T : Txt K mg) : FnOk P w K mg base CX0 1 T.f_l_box T.d_l_box ["_law_script", "_law_k"] (spBox K) := by
  refine T.F_l_box.ok sc_l_box (fun vs H Q E h => ?_) (fun cdv A outer s H vs Q E hr h => ?_)
  · obtain ⟨a, ms, k, rfl, _⟩ := h
    rfl
  · obtain ⟨a, ms, k, rfl, hS, hk0, hk1, kk⟩ := h
    refine ⟨_, (pss_cons (ps_set (i := 2) sc_l_box.nd rfl (Or.inl rfl) pe_int)
      (pss_cons (ps_if (pt_cmpR op_lt (pv 1) (pe_callB call_len_seq (by rfl) T.b_len boot_b_len (pa_cons (pv 0) pa_nil)) (nomark _)) (pss_one (ps_set (i := 2) sc_l_box.nd rfl (Or.inl rfl) (pe_ix ix_seq (pv 0) (pv 1) (fun _ _ => rfl)))) pss_nil)
      (pss_one (ps_ret (pe_lst (pa_cons (pe_op op_mul (pe_callB call_abs (by rfl) T.b_abs boot_b_abs (pa_cons (pv 2) pa_nil)) (pe_callTy call_int1 (by rfl) T.b_int boot_ty_int (pa_cons (pe_cmpR op_ge (pe_callB call_abs (by rfl) T.b_abs boot_b_abs (pa_cons (pv 2) pa_nil)) (pe_op op_pow pe_int pe_int) (nomark _)) pa_nil))) (pa_cons (pe_op op_mod (pe_op op_add (pv 2) (pe_op op_mul (pe_op op_mul pe_int (pv 1)) (pv 1))) pe_int) (pa_cons pe_int pa_nil)))))))), ?_⟩
    refine ⟨_, rfl, _, rfl, a, _, rfl, .inl hS, _, _, rfl, rfl, _, rfl, ?_⟩
    refine ite2 (fun h => ?_) (fun h => ?_)
    case' refine_1 =>
      have hlt : k.toNat < ms.length := by
        have h' := of_decide_eq_true h
        rw [List.length_map] at h'
        trivial
      refine ⟨_, rfl, _, rfl, .inl ⟨a, _, _, V.int ms[k.toNat], rfl, rfl, hS, ?_, ?_⟩⟩
      · exact atI_int hk0 hlt
    all_goals
      refine ⟨_, rfl, _, rfl, _, rfl, _, rfl, _, _, rfl, rfl, ⟨by decide, by decide, by decide⟩, _, _, rfl, rfl, .inr ⟨_, rfl, _, _, rfl, rfl, .inr ?_, _, rfl, _, rfl, _, _, rfl, rfl, .inr ⟨by trivial, by trivial⟩, _, rfl, _, _, rfl, rfl, .inr ⟨by trivial, by trivial⟩, _, _, rfl, rfl, _, _, rfl, rfl, ?_, ?_, fun p hp => kk p _ hp (Same.new hp) ⟨_, _, upd_same, ?_, ?_, ?_⟩⟩⟩
      · exact b01 _
      · show (0 : Int) < 2147483647; decide
      · show 3 ≤ sizeLine; decide
      · exact mul01 _ (abs_nn _)
      · exact Int.emod_nonneg _ (by decide)
      · exact Int.emod_lt_of_pos _ (by decide)
end
end K16
namespace K16
open PySem L2
section
variable {P : Program} {w : World} {K : PySem.W.Frag} {mg : Str → Option Value} {base : Heap}
theorem ok_take (T : Txt K mg) : FnOk P w K mg base CX0 1 T.f_l_take T.d_l_take ["_law_box_here", "_law_many"] spTake := by
  refine T.F_l_take.ok sc_l_take (fun vs H Q E h => ?_) (fun cdv A outer s H vs Q E hr h => ?_)
  · obtain ⟨b, many, t, rfl, _⟩ := h
    rfl
  · obtain ⟨b, many, t, rfl, ⟨c, x, hb, hc, hx0, hx1⟩, hm0, hm1, ht0, ht1, kk⟩ := h
    refine ⟨_, (pss_cons (ps_if (pt_cmpR op_gt (pe_ix ix_seq (pv 0) pe_int (fun _ _ => rfl)) pe_int (nomark _)) (pss_cons (ps_asg (pe_callB call_divmodB (by rfl) T.b_divmod boot_b_divmod (pa_cons (pe_ix ix_seq (pv 0) pe_int (fun _ _ => rfl)) (pa_cons (pv 1) pa_nil))) (pg_tup rfl (pgs_cons (pg_sub (pv 0) pe_int set_list) (pgs_cons (pg_name (i := 2) sc_l_take.nd rfl (Or.inl rfl)) pgs_nil))))
        (pss_one (ps_ret (pv 2)))) pss_nil)
      (pss_cons (ps_asg (pe_op op_add (pe_ix ix_seq (pv 0) pe_int (fun _ _ => rfl)) pe_int) (pg_sub (pv 0) pe_int set_list))
      (pss_cons (ps_set (i := 3) sc_l_take.nd rfl (Or.inl rfl) (pe_op op_mod (pe_op op_pow (pe_op op_add (pe_ix ix_seq (pv 0) pe_int (fun _ _ => rfl)) (pe_op op_mul pe_int (pe_ix ix_seq (pv 0) pe_int (fun _ _ => rfl)))) pe_int) pe_int))
      (pss_one (ps_ret (pe_op op_mod (pe_op op_fdiv (pe_op op_mod (pe_op op_add (pe_op op_mul (pv 3) pe_int) (pe_op op_mul (pe_op op_mul (pe_ix ix_seq (pv 0) pe_int (fun _ _ => rfl)) (pe_ix ix_seq (pv 0) pe_int (fun _ _ => rfl))) pe_int)) pe_int) pe_int) (pv 1))))))), ?_⟩
    refine ⟨_, rfl, .inl ⟨b, _, _, _, rfl, rfl, SqL.of hb, rfl, _, _, rfl, rfl, _, rfl, ?_⟩⟩
    refine ite2 (fun h => ?_) (fun h => ?_)
    · refine ⟨_, rfl, .inl ⟨b, _, _, _, rfl, rfl, SqL.of hb, rfl, _, rfl, _, _, rfl, ⟨hm0, hm1⟩, fun p hp => ⟨p, _, rfl, SqT.of upd_same, rfl, _, _, rfl, _, rfl, b, [.int c, .int x, .int t], _, 0, rfl, rfl, ?_, rfl, _, _, rfl, rfl, _, rfl, ?_⟩⟩⟩
      · rw [upd_ne (ne_of_none hb hp)]; exact hb
      · have hb' : upd H p (.tup [.int (c / many), .int (c % many)]) b = some (.lst [.int c, .int x, .int t]) := by rw [upd_ne (ne_of_none hb hp)]; exact hb
        exact kk _ t _ (Int.emod_nonneg _ (Int.ne_of_gt hm0)) (Int.emod_lt_of_pos _ hm0) (Int.le_refl _) (by trivial) (sameE_upd (Same.new hp) hb') ⟨_, _, upd_same, Int.ediv_nonneg hc (Int.le_of_lt hm0), hx0, hx1⟩
    · refine ⟨_, rfl, .inl ⟨b, _, _, _, rfl, rfl, SqL.of hb, rfl, _, _, rfl, rfl, _, rfl, b, _, _, 2, rfl, rfl, hb, rfl, ?_⟩⟩
      refine ⟨_, rfl, .inl ⟨b, _, _, _, rfl, rfl, SqL.of upd_same, rfl, _, rfl, .inl ⟨b, _, _, _, rfl, rfl, SqL.of upd_same, rfl, _, _, rfl, rfl, .inl ⟨by decide, by decide⟩, _, _, rfl, rfl, _, _, rfl, rfl, ⟨by decide, by decide, ?_⟩, _, _, rfl, rfl, ?_, ?_⟩⟩⟩
      · have : (x + 39373 * (t + 1)).natAbs < 2 ^ 64 := by trivial
        exact this
      · show (0 : Int) < 2147483647; decide
      have ho0 : 0 ≤ (x + 39373 * (t + 1)) ^ (5 : Int).toNat % 2147483647 := Int.emod_nonneg _ (by decide)
      have ho1 : (x + 39373 * (t + 1)) ^ (5 : Int).toNat % 2147483647 < 2147483647 := Int.emod_lt_of_pos _ (by decide)
      generalize (x + 39373 * (t + 1)) ^ (5 : Int).toNat % 2147483647 = on at ho0 ho1 ⊢
      refine ⟨_, rfl, _, _, rfl, rfl, .inr ⟨by decide, by decide⟩, _, rfl, .inl ⟨b, _, _, _, rfl, rfl, SqL.of upd_same, rfl, _, rfl, .inl ⟨b, _, _, _, rfl, rfl, SqL.of upd_same, rfl, _, _, rfl, rfl, .inl ⟨?_, ?_⟩, _, _, rfl, rfl, .inr ⟨by decide, by decide⟩, _, _, rfl, rfl, _, _, rfl, rfl, ?_, _, _, rfl, rfl, ⟨by decide, by decide⟩, _, rfl, _, _, rfl, rfl, hm0, ?_⟩⟩⟩
      · show -(2 ^ 64) < t + 1; trivial
      · show t + 1 < 2 ^ 64; trivial
      · show (0 : Int) < 2147483629; decide
      · exact kk _ (t + 1) _ (Int.emod_nonneg _ (Int.ne_of_gt hm0)) (Int.emod_lt_of_pos _ hm0) (by trivial) (Int.le_refl _) (sameE_upd (Same.refl H) hb) ⟨c, x, upd_same, hc, hx0, hx1⟩
end
end K16
namespace K16
open PySem L2
section
variable {P : Program} {w : World} {K : PySem.W.Frag} {mg : Str → Option Value} {base : Heap}
inductive spFoldN_ (K : PySem.W.Frag) (vs : List V) (H : Hp) (Q : VK) : Prop
  | mk (a : Addr) (ns : List Int) (many : Int) (h0 : vs = [.ref a, .int many]) (h1 : SqL K H a (ns.map V.int)) (h2 : ns.length ≤ 63) (h3 : 2 ≤ many) (h4 : many ≤ 63) (h5 : ∀ p ms H', H p = none → Same H H' → H' p = some (.lst ((ms : List Int).map V.int)) → (ms.length : Int) ≤ many → Q (.ref p) H')
def spFoldN (K : PySem.W.Frag) : Sp := fun vs H Q _ => spFoldN_ K vs H Q
theorem ok_folded (T : Txt K mg) : FnOk P w K mg base CX0 1 T.f_l_folded T.d_l_folded ["_law_script", "_law_many"] (spFoldN K) := by
  refine T.F_l_folded.ok sc_l_folded (fun vs H Q E h => ?_) (fun cdv A outer s H vs Q E hr h => ?_)
  · obtain ⟨a, ns, many, rfl, _⟩ := h
    rfl
  · obtain ⟨a, ns, many, rfl, hS, hn, hm0, hm1, kk⟩ := h
    refine ⟨_, (pss_cons (ps_set (i := 2) sc_l_folded.nd rfl (Or.inl rfl) (pe_callTy call_list_of (by rfl) T.b_list boot_ty_list (pa_cons (pe_slice sl_list (pv 0) po_none (po_some (pv 1))) pa_nil)))
      (pss_cons (ps_for PassesOwn.never rfl (pi_enum rfl T.b_enumerate (pa_cons (pe_slice sl_list (pv 0) (po_some (pv 1)) (po_some pe_int)) pa_nil)) (pg_tup rfl (pgs_cons (pg_name (i := 3) sc_l_folded.nd rfl (Or.inl rfl)) (pgs_cons (pg_name (i := 4) sc_l_folded.nd rfl (Or.inl rfl)) pgs_nil))) (pss_one (ps_asg (pe_op op_add (pe_ix ix_seq (pv 2) (pe_op op_mod (pv 3) (pv 1)) (fun _ _ => rfl)) (pe_op op_mul (pv 4) (pe_op op_add (pv 3) pe_int))) (pg_sub (pv 2) (pe_op op_mod (pv 3) (pv 1)) set_list))))
      (pss_one (ps_ret (pv 2))))), ?_⟩
    have cutE : ∀ (lo hi : Option Int), ∃ cs : List Int, cutV (ns.map V.int) lo hi = cs.map V.int ∧ cs.length ≤ ns.length ∧ cs = (ns.drop (HT.sIx ns.length 0 lo)).take (HT.sIx ns.length ns.length hi - HT.sIx ns.length 0 lo) := fun lo hi => by
      refine ⟨(ns.drop (HT.sIx ns.length 0 lo)).take (HT.sIx ns.length ns.length hi - HT.sIx ns.length 0 lo), ?_, ?_, rfl⟩
      · unfold cutV
        rw [List.length_map, List.map_take, List.map_drop]
      · rw [List.length_take, List.length_drop]; trivial
    obtain ⟨c1, e1, l1, q1⟩ := cutE none (some many)
    obtain ⟨c2, e2, l2, q2⟩ := cutE (some many) (some 63)
    have em : many = ((many.toNat : Nat) : Int) := by trivial
    have l1m : c1.length = min many.toNat ns.length := by
      rw [q1, em, HT.sIx_nat, HT.sIx_none, List.length_take, List.length_drop]
      simp only [Int.toNat_natCast]
      trivial
    have l2m : c2.length ≤ ns.length - many.toNat := by
      rw [q2, em, HT.sIx_nat, List.length_take, List.length_drop]
      simp only [Int.toNat_natCast]
      trivial
    refine ⟨_, rfl, _, rfl, _, rfl, a, _, rfl, hS, fun p1 hp1 => ⟨p1, _, rfl, .inl (SqL.of upd_same), fun p2 hp2 => ?_⟩⟩
    rw [e1] at hp2 ⊢
    have n12 : p2 ≠ p1 := fun z => by rw [z, upd_same] at hp2; cases hp2
    have s2 : Same H (upd (upd H p1 (.lst (c1.map V.int))) p2 (.lst (c1.map V.int))) := (Same.new hp1).trans (Same.new hp2)
    refine ⟨_, rfl, _, rfl, _, rfl, _, rfl, a, _, rfl, s2.seq hS, fun p3 hp3 => ⟨p3, rfl, ⟨_, SqL.of upd_same⟩, ?_⟩⟩
    rw [e2]
    have s3 := s2.trans (Same.new (o := .lst (c2.map V.int)) hp3)
    have n23 : p2 ≠ p3 := fun z => by rw [← z, upd_same] at hp3; cases hp3
    refine ⟨fun i m σ H' => m = c2.length - i ∧ i ≤ c2.length ∧ Ex3 fun (ms : List Int) (v3 v4 : Option V) => σ = [some (.ref a), some (.int many), some (.ref p2), v3, v4] ∧ ms.length = c1.length ∧ H' p2 = some (.lst (ms.map V.int)) ∧ H' p3 = some (.lst (c2.map V.int)) ∧ (∀ b o, b ≠ p2 → H b = some o → H' b = some o) , ⟨_, rfl, Nat.zero_le _, c1, none, none, rfl, rfl, ?_, upd_same, fun b o _ h => s3 b o h⟩, ?_⟩
    · rw [upd_ne n23]; exact upd_same
    rintro i m σ H' ⟨rfl, hi, ms, v3, v4, rfl, hms, h2, h3, hk⟩
    by_cases hlt : i < c2.length
    · refine .inr ⟨⟨c2.map V.int, V.int c2[i], SqL.of h3, by rw [List.getElem?_map]; simp [hlt]⟩, _, fun σ' H'' z => z, ?_⟩
      rintro x H'' ⟨t, y, ht, rfl, rfl, hy⟩
      have hy' := hy _ (SqL.of h3)
      rw [List.getElem?_map, List.getElem?_eq_getElem hlt] at hy'
      obtain rfl : V.int c2[i] = y := Option.some.inj hy'
      have nt2 : p2 ≠ t := ne_of_none h2 ht
      have nt3 : p3 ≠ t := ne_of_none h3 ht
      have hlen : many.toNat < ns.length := by trivial
      have hmod0 : 0 ≤ (i : Int) % many := Int.emod_nonneg _ (by trivial)
      have hmod1 : (i : Int) % many < many := Int.emod_lt_of_pos _ (by trivial)
      have hixlt : ((i : Int) % many).toNat < ms.length := by trivial
      refine ⟨t, _, rfl, SqT.of upd_same, rfl, _, _, rfl, _, _, rfl, rfl, _, rfl, _, rfl, _, rfl, _, _, rfl, rfl, (by show (0 : Int) < many; trivial), .inl ⟨p2, ms.map V.int, _, V.int ms[((i : Int) % many).toNat], rfl, rfl, SqL.of (by rw [upd_ne nt2]; exact h2), atI_int hmod0 hixlt, _, rfl, _, rfl, _, _, rfl, rfl, _, _, rfl, rfl, .inr ⟨?_, ?_⟩, _, _, rfl, rfl, _, rfl, _, rfl, _, rfl, _, _, rfl, rfl, (by show (0 : Int) < many; trivial), p2, ms.map V.int, _, ((i : Int) % many).toNat, rfl, rfl, (by rw [upd_ne nt2]; exact h2), ?_, ?_⟩⟩
      · trivial
      · trivial
      · unfold ixN
        rw [if_pos hmod0, List.length_map, if_pos (by trivial)]
      · refine ⟨c2.length - (i + 1), by trivial, rfl, hlt, ms.set ((i : Int) % many).toNat (ms[((i : Int) % many).toNat] + c2[i] * ((i : Int) + 2)), _, _, rfl, by rw [List.length_set]; exact hms, ?_, ?_, fun b o hb h => ?_⟩
        · rw [upd_same, List.map_set]
        · rw [upd_ne (Ne.symm n23), upd_ne nt3]; exact h3
        · have := hk b o hb h
          rw [upd_ne hb, upd_ne (ne_of_none this ht)]
          exact this
    · refine .inl ⟨⟨_, SqL.of h3, by rw [List.length_map]; trivial⟩, ?_⟩
      have hp2' : H p2 = none := by
        rw [upd_ne n12] at hp2
        exact hp2
      have sH : Same H H' := fun b o h => hk b o (ne_of_none h hp2') h
      exact ⟨_, rfl, kk p2 ms H' hp2' sH h2 (by trivial)⟩
end
end K16
namespace K16
open PySem L2
section
variable {P : Program} {w : World} {K : PySem.W.Frag} {mg : Str → Option Value} {base : Heap}
theorem ok_fraction (T : Txt K mg) : FnOk P w K mg base CX0 2 T.f_fraction T.d_fraction ["n", "d"] spLowA := by
  have G_common_divisor := ok_common_divisor (P := P) (w := w) (base := base) T
  refine T.F_fraction.ok sc_fraction (fun vs H Q E h => ?_) (fun cdv A outer s H vs Q E hr h => ?_)
  · obtain ⟨n, d, rfl, _⟩ := h
    rfl
  · obtain ⟨n, d, rfl, hd, hs, k⟩ := h
    refine ⟨_, (@pss_cons _ _ _ _ _ (@ps_set _ _ (2) _ _ _ _ sc_fraction.nd rfl (Or.inl k_fraction_divisor) (@pe_call _ _ _ _ _ _ _ _ _ _ _ _ _ _ _ _ G_common_divisor (hr.mono (by decide)) k_fraction_common_divisor T.m_common_divisor T.F_common_divisor.kp T.B_common_divisor .nil (@pass0 _) (@pa_c _ _ _ _ _ (@pw _ 0 _ _ (Or.inl k_fraction_n) (by rfl) (by decide) (by decide)) (@pa_c _ _ _ _ _ (@pw _ 1 _ _ (Or.inl k_fraction_d) (by rfl) (by decide) (by decide)) (@pa_nil _) rfl) rfl) (by decide) (by rfl) (by rfl)) (by rfl) (by first | exact .inl rfl | exact .inr rfl | assumption)) (@pss_cons _ _ _ _ _ (@ps_if _ _ _ _ _ _ _ _ (@pt_cmpR _ _ _ _ _ _ _ _ (@op_lt _) (@pw _ 1 _ _ (Or.inl k_fraction_d) (by rfl) (by decide) (by decide)) (@pe_int _ _ _ _) (@nomark _ _ (by decide) (by decide))) (@pss_one _ _ _ (@ps_set _ _ (2) _ _ _ _ sc_fraction.nd rfl (Or.inl k_fraction_divisor) (@pe_un _ _ _ _ _ _ (@un_neg _) (@pw _ 2 _ _ (Or.inl k_fraction_divisor) (by rfl) (by decide) (by decide))) (by rfl) (by first | exact .inl rfl | exact .inr rfl | assumption))) (@pss_nil _)) (@pss_one _ _ _ (@ps_ret _ _ _ _ (@pe_tupA _ _ _ _ _ (@pa_c _ _ _ _ _ (@pe_op _ _ _ _ _ _ _ _ (@op_fdivS _) (@pw _ 0 _ _ (Or.inl k_fraction_n) (by rfl) (by decide) (by decide)) (@pw _ 2 _ _ (Or.inl k_fraction_divisor) (by rfl) (by decide) (by decide))) (@pa_c _ _ _ _ _ (@pe_op _ _ _ _ _ _ _ _ (@op_fdivS _) (@pw _ 1 _ _ (Or.inl k_fraction_d) (by rfl) (by decide) (by decide)) (@pw _ 2 _ _ (Or.inl k_fraction_divisor) (by rfl) (by decide) (by decide))) (@pa_nil _) rfl) rfl)))))), ?_⟩
    refine ⟨_, rfl, _, rfl, n, d, rfl, _, rfl, _, _, rfl, rfl, _, rfl, ?_⟩
    have g0 := KM.gcd_pos (n := n) hd
    have gs := gcdS (n := n) hd hs
    have kl := KM.fdiv_low (n := n) hd
    by_cases h0 : d < 0
    · rw [decide_eq_true h0]
      rw [if_pos h0] at kl
      have c1 : ∀ x, CDivS x (-((Int.gcd n d : Nat) : Int)) := fun x => ⟨by trivial, gs.neg⟩
      refine iteT ⟨_, rfl, _, rfl, _, rfl, _, rfl, _, _, rfl, rfl, c1 n, _, rfl, _, rfl, _, _, rfl, rfl, c1 d, (by show 2 ≤ 10000; decide), fun p H1 nw => ?_⟩
      have q := k p H1
      rw [← kl] at q
      exact q nw
    · rw [decide_eq_false h0]
      rw [if_neg h0] at kl
      have c1 : ∀ x, CDivS x ((Int.gcd n d : Nat) : Int) := fun x => ⟨by trivial, gs⟩
      refine iteF ⟨_, rfl, _, rfl, _, _, rfl, rfl, c1 n, _, rfl, _, rfl, _, _, rfl, rfl, c1 d, (by show 2 ≤ 10000; decide), fun p H1 nw => ?_⟩
      have q := k p H1
      rw [← kl] at q
      exact q nw
theorem ok_taken (T : Txt K mg) : FnOk P w K mg base CX0 3 T.f_taken T.d_taken ["one", "other"] (spBinA nTak dAdd) := by
  have G_fraction := ok_fraction (P := P) (w := w) (base := base) T
  refine T.F_taken.ok sc_taken (fun vs H Q E h => ?_) (fun cdv A outer s H vs Q E hr h => ?_)
  · obtain ⟨a, b, n1, d1, n2, d2, rfl, _⟩ := h
    rfl
  · obtain ⟨a, b, n1, d1, n2, d2, rfl, ha, hb, ⟨z1, z2, z3, z4, hd⟩, k⟩ := h
    refine ⟨_, (@pss_one _ _ _ (@ps_ret _ _ _ _ (@pe_call _ _ _ _ _ _ _ _ _ _ _ _ _ _ _ _ G_fraction (hr.mono (by decide)) k_taken_fraction T.m_fraction T.F_fraction.kp T.B_fraction .nil (@pass0 _) (@pa_c _ _ _ _ _ (@pe_op _ _ _ _ _ _ _ _ (@op_sub _) (@pe_op _ _ _ _ _ _ _ _ (@op_mulB _) (@pe_ix _ _ _ _ _ _ _ (@ixT_k _ (K) (by rfl)) (@pw _ 0 _ _ (Or.inl k_taken_one) (by rfl) (by decide) (by decide)) (@pe_int _ _ _ _) (fun _ _ => rfl)) (@pe_ix _ _ _ _ _ _ _ (@ixT_k _ (K) (by rfl)) (@pw _ 1 _ _ (Or.inl k_taken_other) (by rfl) (by decide) (by decide)) (@pe_int _ _ _ _) (fun _ _ => rfl))) (@pe_op _ _ _ _ _ _ _ _ (@op_mulB _) (@pe_ix _ _ _ _ _ _ _ (@ixT_k _ (K) (by rfl)) (@pw _ 1 _ _ (Or.inl k_taken_other) (by rfl) (by decide) (by decide)) (@pe_int _ _ _ _) (fun _ _ => rfl)) (@pe_ix _ _ _ _ _ _ _ (@ixT_k _ (K) (by rfl)) (@pw _ 0 _ _ (Or.inl k_taken_one) (by rfl) (by decide) (by decide)) (@pe_int _ _ _ _) (fun _ _ => rfl)))) (@pa_c _ _ _ _ _ (@pe_op _ _ _ _ _ _ _ _ (@op_mulB _) (@pe_ix _ _ _ _ _ _ _ (@ixT_k _ (K) (by rfl)) (@pw _ 0 _ _ (Or.inl k_taken_one) (by rfl) (by decide) (by decide)) (@pe_int _ _ _ _) (fun _ _ => rfl)) (@pe_ix _ _ _ _ _ _ _ (@ixT_k _ (K) (by rfl)) (@pw _ 1 _ _ (Or.inl k_taken_other) (by rfl) (by decide) (by decide)) (@pe_int _ _ _ _) (fun _ _ => rfl))) (@pa_nil _) rfl) rfl) (by decide) (by rfl) (by rfl)))), ?_⟩
    exact ⟨_, rfl, a, _, _, _, rfl, rfl, SqT.of ha, rfl, _, rfl, b, _, _, _, rfl, rfl, SqT.of hb, rfl, _, _, rfl, rfl, mulS z1 z4, _, rfl, b, _, _, _, rfl, rfl, SqT.of hb, rfl, _, rfl, a, _, _, _, rfl, rfl, SqT.of ha, rfl, _, _, rfl, rfl, mulS z3 z2, _, _, rfl, rfl,
      _, rfl, a, _, _, _, rfl, rfl, SqT.of ha, rfl, _, rfl, b, _, _, _, rfl, rfl, SqT.of hb, rfl, _, _, rfl, rfl, mulS z2 z4, _, _, rfl, hd, mulS9 z2 z4, k⟩
theorem ok_times (T : Txt K mg) : FnOk P w K mg base CX0 3 T.f_times T.d_times ["one", "other"] (spBinA nTim dAdd) := by
  have G_fraction := ok_fraction (P := P) (w := w) (base := base) T
  refine T.F_times.ok sc_times (fun vs H Q E h => ?_) (fun cdv A outer s H vs Q E hr h => ?_)
  · obtain ⟨a, b, n1, d1, n2, d2, rfl, _⟩ := h
    rfl
  · obtain ⟨a, b, n1, d1, n2, d2, rfl, ha, hb, ⟨z1, z2, z3, z4, hd⟩, k⟩ := h
    refine ⟨_, (@pss_one _ _ _ (@ps_ret _ _ _ _ (@pe_call _ _ _ _ _ _ _ _ _ _ _ _ _ _ _ _ G_fraction (hr.mono (by decide)) k_times_fraction T.m_fraction T.F_fraction.kp T.B_fraction .nil (@pass0 _) (@pa_c _ _ _ _ _ (@pe_op _ _ _ _ _ _ _ _ (@op_mulB _) (@pe_ix _ _ _ _ _ _ _ (@ixT_k _ (K) (by rfl)) (@pw _ 0 _ _ (Or.inl k_times_one) (by rfl) (by decide) (by decide)) (@pe_int _ _ _ _) (fun _ _ => rfl)) (@pe_ix _ _ _ _ _ _ _ (@ixT_k _ (K) (by rfl)) (@pw _ 1 _ _ (Or.inl k_times_other) (by rfl) (by decide) (by decide)) (@pe_int _ _ _ _) (fun _ _ => rfl))) (@pa_c _ _ _ _ _ (@pe_op _ _ _ _ _ _ _ _ (@op_mulB _) (@pe_ix _ _ _ _ _ _ _ (@ixT_k _ (K) (by rfl)) (@pw _ 0 _ _ (Or.inl k_times_one) (by rfl) (by decide) (by decide)) (@pe_int _ _ _ _) (fun _ _ => rfl)) (@pe_ix _ _ _ _ _ _ _ (@ixT_k _ (K) (by rfl)) (@pw _ 1 _ _ (Or.inl k_times_other) (by rfl) (by decide) (by decide)) (@pe_int _ _ _ _) (fun _ _ => rfl))) (@pa_nil _) rfl) rfl) (by decide) (by rfl) (by rfl)))), ?_⟩
    exact ⟨_, rfl, a, _, _, _, rfl, rfl, SqT.of ha, rfl, _, rfl, b, _, _, _, rfl, rfl, SqT.of hb, rfl, _, _, rfl, rfl, mulS z1 z3,
      _, rfl, a, _, _, _, rfl, rfl, SqT.of ha, rfl, _, rfl, b, _, _, _, rfl, rfl, SqT.of hb, rfl, _, _, rfl, rfl, mulS z2 z4, _, _, rfl, hd, mulS9 z2 z4, k⟩
theorem ok_over (T : Txt K mg) : FnOk P w K mg base CX0 3 T.f_over T.d_over ["one", "other"] (spBinA nOvr dOvr) := by
  have G_fraction := ok_fraction (P := P) (w := w) (base := base) T
  refine T.F_over.ok sc_over (fun vs H Q E h => ?_) (fun cdv A outer s H vs Q E hr h => ?_)
  · obtain ⟨a, b, n1, d1, n2, d2, rfl, _⟩ := h
    rfl
  · obtain ⟨a, b, n1, d1, n2, d2, rfl, ha, hb, ⟨z1, z2, z3, z4, hd⟩, k⟩ := h
    refine ⟨_, (@pss_one _ _ _ (@ps_ret _ _ _ _ (@pe_call _ _ _ _ _ _ _ _ _ _ _ _ _ _ _ _ G_fraction (hr.mono (by decide)) k_over_fraction T.m_fraction T.F_fraction.kp T.B_fraction .nil (@pass0 _) (@pa_c _ _ _ _ _ (@pe_op _ _ _ _ _ _ _ _ (@op_mulB _) (@pe_ix _ _ _ _ _ _ _ (@ixT_k _ (K) (by rfl)) (@pw _ 0 _ _ (Or.inl k_over_one) (by rfl) (by decide) (by decide)) (@pe_int _ _ _ _) (fun _ _ => rfl)) (@pe_ix _ _ _ _ _ _ _ (@ixT_k _ (K) (by rfl)) (@pw _ 1 _ _ (Or.inl k_over_other) (by rfl) (by decide) (by decide)) (@pe_int _ _ _ _) (fun _ _ => rfl))) (@pa_c _ _ _ _ _ (@pe_op _ _ _ _ _ _ _ _ (@op_mulB _) (@pe_ix _ _ _ _ _ _ _ (@ixT_k _ (K) (by rfl)) (@pw _ 0 _ _ (Or.inl k_over_one) (by rfl) (by decide) (by decide)) (@pe_int _ _ _ _) (fun _ _ => rfl)) (@pe_ix _ _ _ _ _ _ _ (@ixT_k _ (K) (by rfl)) (@pw _ 1 _ _ (Or.inl k_over_other) (by rfl) (by decide) (by decide)) (@pe_int _ _ _ _) (fun _ _ => rfl))) (@pa_nil _) rfl) rfl) (by decide) (by rfl) (by rfl)))), ?_⟩
    exact ⟨_, rfl, a, _, _, _, rfl, rfl, SqT.of ha, rfl, _, rfl, b, _, _, _, rfl, rfl, SqT.of hb, rfl, _, _, rfl, rfl, mulS z1 z4,
      _, rfl, a, _, _, _, rfl, rfl, SqT.of ha, rfl, _, rfl, b, _, _, _, rfl, rfl, SqT.of hb, rfl, _, _, rfl, rfl, mulS z2 z3, _, _, rfl, hd, mulS9 z2 z3, k⟩
theorem ok_compared (T : Txt K mg) : FnOk P w K mg base CX0 1 T.f_compared T.d_compared ["one", "other"] spCmp := by
  refine T.F_compared.ok sc_compared (fun vs H Q E h => ?_) (fun cdv A outer s H vs Q E hr h => ?_)
  · obtain ⟨a, b, n1, d1, n2, d2, rfl, _⟩ := h
    rfl
  · obtain ⟨a, b, n1, d1, n2, d2, rfl, ha, hb, z1, z2, z3, z4, k⟩ := h
    refine ⟨_, (@pss_cons _ _ _ _ _ (@ps_set _ _ (2) _ _ _ _ sc_compared.nd rfl (Or.inl k_compared_left) (@pe_op _ _ _ _ _ _ _ _ (@op_mulB _) (@pe_ix _ _ _ _ _ _ _ (@ixT_k _ (K) (by rfl)) (@pw _ 0 _ _ (Or.inl k_compared_one) (by rfl) (by decide) (by decide)) (@pe_int _ _ _ _) (fun _ _ => rfl)) (@pe_ix _ _ _ _ _ _ _ (@ixT_k _ (K) (by rfl)) (@pw _ 1 _ _ (Or.inl k_compared_other) (by rfl) (by decide) (by decide)) (@pe_int _ _ _ _) (fun _ _ => rfl))) (by rfl) (by first | exact .inl rfl | exact .inr rfl | assumption)) (@pss_cons _ _ _ _ _ (@ps_set _ _ (3) _ _ _ _ sc_compared.nd rfl (Or.inl k_compared_right) (@pe_op _ _ _ _ _ _ _ _ (@op_mulB _) (@pe_ix _ _ _ _ _ _ _ (@ixT_k _ (K) (by rfl)) (@pw _ 1 _ _ (Or.inl k_compared_other) (by rfl) (by decide) (by decide)) (@pe_int _ _ _ _) (fun _ _ => rfl)) (@pe_ix _ _ _ _ _ _ _ (@ixT_k _ (K) (by rfl)) (@pw _ 0 _ _ (Or.inl k_compared_one) (by rfl) (by decide) (by decide)) (@pe_int _ _ _ _) (fun _ _ => rfl))) (by rfl) (by first | exact .inl rfl | exact .inr rfl | assumption)) (@pss_cons _ _ _ _ _ (@ps_if _ _ _ _ _ _ _ _ (@pt_cmpR _ _ _ _ _ _ _ _ (@op_lt _) (@pw _ 2 _ _ (Or.inl k_compared_left) (by rfl) (by decide) (by decide)) (@pw _ 3 _ _ (Or.inl k_compared_right) (by rfl) (by decide) (by decide)) (@nomark _ _ (by decide) (by decide))) (@pss_one _ _ _ (@ps_ret _ _ _ _ (@pe_un _ _ _ _ _ _ (@un_neg _) (@pe_int _ _ _ _)))) (@pss_nil _)) (@pss_cons _ _ _ _ _ (@ps_if _ _ _ _ _ _ _ _ (@pt_cmpR _ _ _ _ _ _ _ _ (@op_gt _) (@pw _ 2 _ _ (Or.inl k_compared_left) (by rfl) (by decide) (by decide)) (@pw _ 3 _ _ (Or.inl k_compared_right) (by rfl) (by decide) (by decide)) (@nomark _ _ (by decide) (by decide))) (@pss_one _ _ _ (@ps_ret _ _ _ _ (@pe_int _ _ _ _))) (@pss_nil _)) (@pss_one _ _ _ (@ps_ret _ _ _ _ (@pe_int _ _ _ _))))))), ?_⟩
    refine ⟨_, rfl, a, _, _, _, rfl, rfl, SqT.of ha, rfl, _, rfl, b, _, _, _, rfl, rfl, SqT.of hb, rfl, _, _, rfl, rfl, mulS z1 z4, _, rfl, b, _, _, _, rfl, rfl, SqT.of hb, rfl, _, rfl, a, _, _, _, rfl, rfl, SqT.of ha, rfl, _, _, rfl, rfl, mulS z3 z2,
      _, rfl, _, rfl, _, _, rfl, rfl, _, rfl, ?_⟩
    unfold cmpI at k
    by_cases h1 : n1 * d2 < n2 * d1
    · rw [decide_eq_true h1]
      rw [if_pos h1] at k
      exact iteT ⟨_, rfl, k⟩
    · rw [decide_eq_false h1]
      rw [if_neg h1] at k
      refine iteF ⟨_, rfl, _, rfl, _, _, rfl, rfl, _, rfl, ?_⟩
      by_cases h2 : n2 * d1 < n1 * d2
      · rw [decide_eq_true h2]
        rw [if_pos h2] at k
        exact iteT k
      · rw [decide_eq_false h2]
        rw [if_neg h2] at k
        exact iteF k
end
end K16
namespace K16
open PySem L2
section
variable {P : Program} {w : World} {K : PySem.W.Frag} {mg : Str → Option Value} {base : Heap}
theorem gcd_log {n d : Int} (hd : d ≠ 0) (h : d.natAbs.log2 < 9000) : CDivB n ((Int.gcd n d : Nat) : Int) := by
  have g0 := KM.gcd_pos (n := n) hd
  refine ⟨by trivial, ?_⟩
  have h1 : Int.gcd n d ≤ d.natAbs := Nat.le_of_dvd (by trivial) (by
    have : ((Int.gcd n d : Nat) : Int) ∣ d := Int.gcd_dvd_right ..
    exact Int.ofNat_dvd_left.mp this)
  have h2 : d.natAbs < 2 ^ 9000 := (Nat.log2_lt (by trivial)).mp h
  rw [Int.natAbs_natCast]
  exact (Nat.log2_lt (by trivial)).mpr (Nat.lt_of_le_of_lt h1 h2)
inductive spFrac_ (vs : List V) (H : Hp) (Q : VK) : Prop
  | mk (n d : Int) (h0 : vs = [.int n, .int d]) (h1 : 0 < d) (h2 : Sz 9000 d) (h3 : ∀ p H', Nw H p (fr (KM.low n d)) H' → Q (.ref p) H')
def spFrac : Sp := fun vs H Q _ => spFrac_  vs H Q
theorem ok_frac (T : Txt K mg) : FnOk P w K mg base CX0 1 T.f_l_frac T.d_l_frac ["_law_n", "_law_d"] spFrac := by
  refine T.F_l_frac.ok sc_l_frac (fun vs H Q E h => ?_) (fun cdv A outer s H vs Q E hr h => ?_)
  · obtain ⟨n, d, rfl, _⟩ := h
    rfl
  · obtain ⟨n, d, rfl, hd, hs, k⟩ := h
    have hl := hs.log (Int.ne_of_gt hd)
    refine ⟨_, (@pss_cons _ _ _ _ _ (@ps_par _ _ (2) (3) _ _ _ _ _ _ _ _ _ _ _ rfl sc_l_frac.nd rfl rfl (by decide) k_l_frac_l_one k_l_frac_l_other (@pa_c _ _ _ _ _ (@pe_callB _ _ _ _ _ _ _ _ _ (@call_abs _) k_l_frac_abs T.b_abs (@boot_b_abs) (@pa_c _ _ _ _ _ (@pw _ 0 _ _ (Or.inl k_l_frac_l_n) (by rfl) (by decide) (by decide)) (@pa_nil _) rfl) (by decide) (by decide) (by rfl) (by rfl)) (@pa_c _ _ _ _ _ (@pe_callB _ _ _ _ _ _ _ _ _ (@call_abs _) k_l_frac_abs T.b_abs (@boot_b_abs) (@pa_c _ _ _ _ _ (@pw _ 1 _ _ (Or.inl k_l_frac_l_d) (by rfl) (by decide) (by decide)) (@pa_nil _) rfl) (by decide) (by decide) (by rfl) (by rfl)) (@pa_nil _) rfl) rfl) (by kernel_rfl) (by rfl)) (@pss_cons _ _ _ _ _ (@ps_while _ _ _ _ _ _ PassesOwn.never (@pt_cmpR _ _ _ _ _ _ _ _ (@op_gt _) (@pw _ 3 _ _ (Or.inl k_l_frac_l_other) (by rfl) (by decide) (by decide)) (@pe_int _ _ _ _) (@nomark _ _ (by decide) (by decide))) (@pss_one _ _ _ (@ps_par _ _ (2) (3) _ _ _ _ _ _ _ _ _ _ _ rfl sc_l_frac.nd rfl rfl (by decide) k_l_frac_l_one k_l_frac_l_other (@pa_c _ _ _ _ _ (@pw _ 3 _ _ (Or.inl k_l_frac_l_other) (by rfl) (by decide) (by decide)) (@pa_c _ _ _ _ _ (@pe_op _ _ _ _ _ _ _ _ (@op_mod _) (@pw _ 2 _ _ (Or.inl k_l_frac_l_one) (by rfl) (by decide) (by decide)) (@pw _ 3 _ _ (Or.inl k_l_frac_l_other) (by rfl) (by decide) (by decide))) (@pa_nil _) rfl) rfl) (by kernel_rfl) (by rfl)))) (@pss_cons _ _ _ _ _ (@ps_set _ _ (2) _ _ _ _ sc_l_frac.nd rfl (Or.inl k_l_frac_l_one) (@pe_op _ _ _ _ _ _ _ _ (@op_mul _) (@pw _ 2 _ _ (Or.inl k_l_frac_l_one) (by rfl) (by decide) (by decide)) (@pe_ifExp _ _ _ _ _ _ _ _ (@pt_cmpR _ _ _ _ _ _ _ _ (@op_gt _) (@pw _ 1 _ _ (Or.inl k_l_frac_l_d) (by rfl) (by decide) (by decide)) (@pe_int _ _ _ _) (@nomark _ _ (by decide) (by decide))) (@pe_int _ _ _ _) (@pe_un _ _ _ _ _ _ (@un_neg _) (@pe_int _ _ _ _)))) (by rfl) (by first | exact .inl rfl | exact .inr rfl | assumption)) (@pss_one _ _ _ (@ps_ret _ _ _ _ (@pe_tupA _ _ _ _ _ (@pa_c _ _ _ _ _ (@pe_op _ _ _ _ _ _ _ _ (@op_fdivB _) (@pw _ 0 _ _ (Or.inl k_l_frac_l_n) (by rfl) (by decide) (by decide)) (@pw _ 2 _ _ (Or.inl k_l_frac_l_one) (by rfl) (by decide) (by decide))) (@pa_c _ _ _ _ _ (@pe_op _ _ _ _ _ _ _ _ (@op_fdivB _) (@pw _ 1 _ _ (Or.inl k_l_frac_l_d) (by rfl) (by decide) (by decide)) (@pw _ 2 _ _ (Or.inl k_l_frac_l_one) (by rfl) (by decide) (by decide))) (@pa_nil _) rfl) rfl))))))), ?_⟩
    refine ⟨_, rfl, _, rfl, _, rfl, _, rfl, _, _, rfl, ?_⟩
    refine ⟨fun m σ H' => ∃ a b : Int, σ = [some (.int n), some (.int d), some (.int a), some (.int b)] ∧ H' = H ∧ 0 ≤ a ∧ 0 ≤ b ∧ Int.gcd a b = Int.gcd n d ∧ m = b.natAbs, ⟨_, _, _, rfl, rfl, abs_nn n, abs_nn d, KM.gcd_abs n d, rfl⟩, ?_⟩
    rintro m σ H' ⟨a, b, rfl, rfl, ha, hb, hg, rfl⟩
    refine ⟨_, rfl, _, _, rfl, rfl, _, rfl, ?_⟩
    by_cases hb0 : 0 < b
    · rw [decide_eq_true hb0]
      refine iteT ⟨fun σ' H'' => ∃ a' b' : Int, σ' = [some (.int n), some (.int d), some (.int a'), some (.int b')] ∧ H'' = H' ∧ 0 ≤ a' ∧ 0 ≤ b' ∧ Int.gcd a' b' = Int.gcd n d ∧ b'.natAbs < b.natAbs, ?_, ?_⟩
      · rintro σ' H'' ⟨a', b', rfl, rfl, h0, h1, h2, h3⟩
        exact ⟨_, h3, a', b', rfl, rfl, h0, h1, h2, rfl⟩
      · refine ⟨_, rfl, _, rfl, _, rfl, _, _, rfl, rfl, hb0, _, _, rfl, ?_⟩
        have q0 := Int.emod_nonneg a (Int.ne_of_gt hb0)
        have q1 := Int.emod_lt_of_pos a hb0
        exact ⟨b, a % b, rfl, rfl, hb, q0, (KM.gcd_emod a b).trans hg, by trivial⟩
    · have hb1 : b = 0 := by trivial
      subst hb1
      rw [decide_eq_false hb0]
      refine iteF ?_
      have eg : a = ((Int.gcd n d : Nat) : Int) := by
        rw [← hg, KM.gcd_zero_abs, if_neg (by trivial)]
      have c1 := gcd_log (n := n) (Int.ne_of_gt hd) hl
      have c2 := gcd_log (n := d) (d := d) (Int.ne_of_gt hd) hl
      rw [← eg] at c1
      refine ⟨_, rfl, _, rfl, _, _, rfl, rfl, _, rfl, ?_⟩
      rw [decide_eq_true hd]
      refine iteT ⟨_, _, rfl, rfl, .inr ⟨by decide, by decide⟩, ?_⟩
      show gName 2 (V.int (a * 1)) _ _ _
      rw [Int.mul_one]
      refine ⟨_, rfl, _, rfl, _, _, rfl, rfl, c1, _, rfl, _, rfl, _, _, rfl, rfl, ⟨c1.1, c1.2⟩, (by show 2 ≤ 10000; decide), fun p H2 n2 => k p H2 ?_⟩
      unfold KM.low
      rw [if_pos hd, ← eg]
      exact n2
theorem ok_any_gain (T : Txt K mg) : FnOk P w K mg base CX0 2 T.f_l_any_gain T.d_l_any_gain ["_law_box_here"] (spFrB 6 1) := by
  have G_l_take := ok_take (P := P) (w := w) (base := base) T
  have G_l_frac := ok_frac (P := P) (w := w) (base := base) T
  refine T.F_l_any_gain.ok sc_l_any_gain (fun vs H Q E h => ?_) (fun cdv A outer s H vs Q E hr h => ?_)
  · obtain ⟨b, t, rfl, _⟩ := h
    rfl
  · obtain ⟨b, t, rfl, B, ht0, ht1, k⟩ := h
    refine ⟨_, (@pss_cons _ _ _ _ _ (@ps_set _ _ (1) _ _ _ _ sc_l_any_gain.nd rfl (Or.inl k_l_any_gain_l_way) (@pe_call _ _ _ _ _ _ _ _ _ _ _ _ _ _ _ _ G_l_take (hr.mono (by decide)) k_l_any_gain_l_take T.m_l_take T.F_l_take.kp T.B_l_take .nil (@pass0 _) (@pa_c _ _ _ _ _ (@pw _ 0 _ _ (Or.inl k_l_any_gain_l_box_here) (by rfl) (by decide) (by decide)) (@pa_c _ _ _ _ _ (@pe_int _ _ _ _) (@pa_nil _) rfl) rfl) (by decide) (by rfl) (by rfl)) (by rfl) (by first | exact .inl rfl | exact .inr rfl | assumption)) (@pss_cons _ _ _ _ _ (@ps_if _ _ _ _ _ _ _ _ (@pt_cmpR _ _ _ _ _ _ _ _ (@op_lt _) (@pw _ 1 _ _ (Or.inl k_l_any_gain_l_way) (by rfl) (by decide) (by decide)) (@pe_int _ _ _ _) (@nomark _ _ (by decide) (by decide))) (@pss_one _ _ _ (@ps_ret _ _ _ _ (@pe_tupA _ _ _ _ _ (@pa_c _ _ _ _ _ (@pe_int _ _ _ _) (@pa_c _ _ _ _ _ (@pe_int _ _ _ _) (@pa_nil _) rfl) rfl)))) (@pss_nil _)) (@pss_cons _ _ _ _ _ (@ps_set _ _ (2) _ _ _ _ sc_l_any_gain.nd rfl (Or.inl k_l_any_gain_l_top) (@pe_op _ _ _ _ _ _ _ _ (@op_add _) (@pe_int _ _ _ _) (@pe_call _ _ _ _ _ _ _ _ _ _ _ _ _ _ _ _ G_l_take (hr.mono (by decide)) k_l_any_gain_l_take T.m_l_take T.F_l_take.kp T.B_l_take .nil (@pass0 _) (@pa_c _ _ _ _ _ (@pw _ 0 _ _ (Or.inl k_l_any_gain_l_box_here) (by rfl) (by decide) (by decide)) (@pa_c _ _ _ _ _ (@pe_ifExp _ _ _ _ _ _ _ _ (@pt_cmpR _ _ _ _ _ _ _ _ (@op_eq _) (@pw _ 1 _ _ (Or.inl k_l_any_gain_l_way) (by rfl) (by decide) (by decide)) (@pe_int _ _ _ _) (@nomark _ _ (by decide) (by decide))) (@pe_int _ _ _ _) (@pe_int _ _ _ _)) (@pa_nil _) rfl) rfl) (by decide) (by rfl) (by rfl))) (by rfl) (by first | exact .inl rfl | exact .inr rfl | assumption)) (@pss_one _ _ _ (@ps_ret _ _ _ _ (@pe_call _ _ _ _ _ _ _ _ _ _ _ _ _ _ _ _ G_l_frac (hr.mono (by decide)) k_l_any_gain_l_frac T.m_l_frac T.F_l_frac.kp T.B_l_frac .nil (@pass0 _) (@pa_c _ _ _ _ _ (@pw _ 2 _ _ (Or.inl k_l_any_gain_l_top) (by rfl) (by decide) (by decide)) (@pa_c _ _ _ _ _ (@pe_op _ _ _ _ _ _ _ _ (@op_add _) (@pe_int _ _ _ _) (@pe_call _ _ _ _ _ _ _ _ _ _ _ _ _ _ _ _ G_l_take (hr.mono (by decide)) k_l_any_gain_l_take T.m_l_take T.F_l_take.kp T.B_l_take .nil (@pass0 _) (@pa_c _ _ _ _ _ (@pw _ 0 _ _ (Or.inl k_l_any_gain_l_box_here) (by rfl) (by decide) (by decide)) (@pa_c _ _ _ _ _ (@pe_ifExp _ _ _ _ _ _ _ _ (@pt_cmpR _ _ _ _ _ _ _ _ (@op_eq _) (@pw _ 1 _ _ (Or.inl k_l_any_gain_l_way) (by rfl) (by decide) (by decide)) (@pe_int _ _ _ _) (@nomark _ _ (by decide) (by decide))) (@pe_int _ _ _ _) (@pe_int _ _ _ _)) (@pa_nil _) rfl) rfl) (by decide) (by rfl) (by rfl))) (@pa_nil _) rfl) rfl) (by decide) (by rfl) (by rfl))))))), ?_⟩
    refine ⟨_, rfl, b, 8, t, rfl, B, by decide, by decide, ht0, by trivial, fun wy t1 H1 w0 w1 h1a h1b s1 B1 => ?_⟩
    refine ⟨_, rfl, _, _, rfl, rfl, _, rfl, ite2 (fun c => ?_) (fun c => ?_)⟩
    · exact ⟨(by show 2 ≤ 10000; decide), fun o H2 n2 => k o _ _ t1 H2 (s1.trans n2.sm.toE) n2.at' (Fb.small (by decide) (by decide) (by decide) (by decide)) (by decide) (B1.same n2.sm) (by trivial) (by trivial)⟩
    have hw : 0 < (if decide (V.int wy = V.int 7) = true then (60 : Int) else 12) ∧ (if decide (V.int wy = V.int 7) = true then (60 : Int) else 12) ≤ 60 := by split <;> decide
    refine ⟨_, rfl, _, rfl, rfl, _, rfl, ifC ?_⟩
    refine ⟨b, _, t1, rfl, B1, hw.1, log9 hw.1 (by trivial), by trivial, by trivial, fun r2 t2 H2 a20 a21 _ _ s2 B2 => ⟨_, _, rfl, rfl, _, rfl, _, rfl, _, rfl, rfl, _, rfl, ifC ?_⟩⟩
    refine ⟨b, _, t2, rfl, B2, hw.1, log9 hw.1 (by trivial), by trivial, by trivial, fun r3 t3 H3 a30 a31 _ _ s3 B3 => ⟨_, _, rfl, rfl, ?_⟩⟩
    have f := low_fb6 (n := 1 + r2) (d := 1 + r3) (by trivial) (by trivial) (by trivial) (by trivial)
    exact ⟨_, _, rfl, by trivial, Sz.mono (m := 40) (by show (1 + r3).natAbs < 1099511627776; trivial) (by decide), fun o H4 n4 => k o _ _ t3 H4 (((s1.trans s2).trans s3).trans n4.sm.toE) n4.at' f.1 f.2 (B3.same n4.sm) (by trivial) (by trivial)⟩
end
end K16
namespace K16
open PySem L2
def nmX (d1 d2 k : Nat) : List Nat := if k < 8 then nm d1 k else List.replicate (k - 7) d2 ++ [d1]
theorem nmX_nodup {d1 d2 : Nat} (hd : d1 ≠ d2) {n : Nat} (hn : n ≤ 10) : ((List.range n).map (nmX d1 d2)).Nodup := by
  have all : ∀ a b : Nat, a < 10 → b < 10 → nmX d1 d2 a = nmX d1 d2 b → a = b := fun a b ha hb h => by
    have hl := congrArg List.length h
    have hh := congrArg List.head? h
    unfold nmX nm at hl hh
    have r : ∀ m x : Nat, 0 < m → (List.replicate m x).head? = some x := fun m x hm => by
      cases m with
      | zero => trivial
      | succ m => rfl
    have r2 : ∀ (m x : Nat) (l : List Nat), 0 < m → (List.replicate m x ++ l).head? = some x := fun m x l hm => by
      cases m with
      | zero => trivial
      | succ m => rfl
    by_cases c1 : a < 8 <;> by_cases c2 : b < 8
    · simp [c1, c2] at hl; exact hl
    · rw [if_pos c1, if_neg c2, r _ _ (by trivial), r2 _ _ _ (by trivial)] at hh
      exact absurd (Option.some.inj hh) hd
    · rw [if_neg c1, if_pos c2, r _ _ (by trivial), r2 _ _ _ (by trivial)] at hh
      exact absurd (Option.some.inj hh).symm hd
    · simp [c1, c2] at hl; trivial
  rw [List.nodup_iff_pairwise_ne, List.pairwise_map]
  refine List.Pairwise.imp_of_mem (fun {a b} ha hb hab z => ?_) (List.nodup_iff_pairwise_ne.mp List.nodup_range)
  exact hab (all a b (by have := List.mem_range.mp ha; trivial) (by have := List.mem_range.mp hb; trivial) z)
theorem nmX_ok {d1 d2 k : Nat} (hk : k < 10) (h1 : 97 ≤ d1) (h2 : d1 ≤ 122) (h3 : 97 ≤ d2) (h4 : d2 ≤ 122) : NameC (nmX d1 d2 k) := by
  unfold nmX
  by_cases c : k < 8
  · rw [if_pos c]; exact nm_ok c h1 h2
  · rw [if_neg c]
    refine ⟨by simp, by simp; trivial, fun x hx => ?_⟩
    rcases List.mem_append.mp hx with q | q
    · rw [(List.mem_replicate.mp q).2]; exact ⟨h3, h4⟩
    · rw [List.mem_singleton.mp q]; exact ⟨h1, h2⟩
section
variable {P : Program} {w : World} {K : PySem.W.Frag} {mg : Str → Option Value} {base : Heap}
inductive spNamesT_ (vs : List V) (H : Hp) (Q : VK) : Prop
  | mk (b : Addr) (many t : Int) (h0 : vs = [.ref b, .int many]) (h1 : Bx H b t) (h2 : 0 ≤ t) (h3 : t ≤ 900000) (h4 : 1 ≤ many) (h5 : many ≤ 10) (h6 : ∀ q ls t' H', SameE (Eb b) H H' → H' q = some (.tup ((ls : List (List Nat)).map strV)) → ls.length = many.toNat → ls.Nodup → (∀ l ∈ ls, NameC l) → Bx H' b t' → t ≤ t' → t' ≤ t + 12 → Q (.ref q) H')
def spNamesT : Sp := fun vs H Q _ => spNamesT_  vs H Q
theorem ok_names_by (T : Txt K mg) : FnOk P w K mg base CX0 2 T.f_l_names_by T.d_l_names_by ["_law_box_here", "_law_many"] spNamesT := by
  have G_l_take := ok_take (P := P) (w := w) (base := base) T
  refine T.F_l_names_by.ok sc_l_names_by (fun vs H Q E h => ?_) (fun cdv A outer s H vs Q E hr h => ?_)
  · obtain ⟨b, many, t, rfl, _⟩ := h
    rfl
  · obtain ⟨b, many, t, rfl, B, ht0, ht1, hm1, hm2, k⟩ := h
    refine ⟨_, (@pss_cons _ _ _ _ _ (@ps_asg _ _ _ _ _ _ (@pe_tupA _ _ _ _ _ (@pa_c _ _ _ _ _ (@pe_str _ _ _ _) (@pa_c _ _ _ _ _ (@pe_call _ _ _ _ _ _ _ _ _ _ _ _ _ _ _ _ G_l_take (hr.mono (by decide)) k_l_names_by_l_take T.m_l_take T.F_l_take.kp T.B_l_take .nil (@pass0 _) (@pa_c _ _ _ _ _ (@pw _ 0 _ _ (Or.inr (Or.inl k_l_names_by_l_box_here)) (by rfl) (by decide) (by decide)) (@pa_c _ _ _ _ _ (@pe_int _ _ _ _) (@pa_nil _) rfl) rfl) (by decide) (by rfl) (by rfl)) (@pa_c _ _ _ _ _ (@pe_call _ _ _ _ _ _ _ _ _ _ _ _ _ _ _ _ G_l_take (hr.mono (by decide)) k_l_names_by_l_take T.m_l_take T.F_l_take.kp T.B_l_take .nil (@pass0 _) (@pa_c _ _ _ _ _ (@pw _ 0 _ _ (Or.inr (Or.inl k_l_names_by_l_box_here)) (by rfl) (by decide) (by decide)) (@pa_c _ _ _ _ _ (@pe_int _ _ _ _) (@pa_nil _) rfl) rfl) (by decide) (by rfl) (by rfl)) (@pa_nil _) rfl) rfl) rfl)) (@pg_tup_k _ (K) _ _ _ _ (3) rfl (@pgs_cons _ _ _ _ _ (@pg_name _ _ (2) _ sc_l_names_by.nd rfl (Or.inr k_l_names_by_l_letters) (by first | exact .inl rfl | exact .inr rfl | assumption)) (@pgs_cons _ _ _ _ _ (@pg_name _ _ (3) _ sc_l_names_by.nd rfl (Or.inr k_l_names_by_l_first) (by first | exact .inl rfl | exact .inr rfl | assumption)) (@pgs_cons _ _ _ _ _ (@pg_name _ _ (4) _ sc_l_names_by.nd rfl (Or.inl k_l_names_by_l_rest) (by first | exact .inl rfl | exact .inr rfl | assumption)) (@pgs_nil _) (by rfl)) (by rfl)) (by rfl)) (by rfl) (by rfl) (by rfl)) (by rfl) (by rfl) (by rfl)) (@pss_cons _ _ _ _ _ (@ps_set _ _ (5) _ _ _ _ sc_l_names_by.nd rfl (Or.inr k_l_names_by_l_behind) (@pe_bm_k _ (K) _ _ _ _ _ _ _ _ _ _ _ PySem.F.plainAttrs_str PySem.F.slot_str_join PySem.F.type_str_join (@mt_join _ (K) (by rfl)) (@pe_str _ _ _ _) (@pa_c _ _ _ _ _ (@pe_comp _ _ _ _ _ _ _ (["_law_k", "_law_box_here", "_law_letters"]) (1) ([0, 2]) _ _ _ _ rfl (by kernel_rfl) (@pi_range1 _ _ _ _ _ _ k_l_names_by_range T.b_range (@pa_c _ _ _ _ _ (@pw _ 4 _ _ (Or.inl k_l_names_by_l_rest) (by rfl) (by decide) (by decide)) (@pa_nil _) rfl) (by rfl)) (fun _ _ _ _ _ _ => (@pg_name _ _ (0) _ (@nodupS _ (by kernel_rfl)) rfl (Or.inl (by kernel_rfl)) (by first | exact .inl rfl | exact .inr rfl | assumption))) (fun _ _ _ _ _ _ => @pifs_nil _) (fun _ _ _ _ _ _ => (@pe_ix _ _ _ _ _ _ _ (@ix_str _) (@pw _ 2 _ _ (Or.inr (Or.inl (by kernel_rfl))) (by rfl) (by decide) (by decide)) (@pe_call _ _ _ _ _ _ _ _ _ _ _ _ _ _ _ _ G_l_take (hr.mono (by decide)) (by show _ = _; kernel_rfl) T.m_l_take T.F_l_take.kp T.B_l_take .nil (@pass0 _) (@pa_c _ _ _ _ _ (@pw _ 1 _ _ (Or.inr (Or.inl (by kernel_rfl))) (by rfl) (by decide) (by decide)) (@pa_c _ _ _ _ _ (@pe_int _ _ _ _) (@pa_nil _) rfl) rfl) (by decide) (by rfl) (by rfl)) (fun _ _ => rfl))) (by intro _; rfl)) (@pa_nil _) rfl) (by rfl) (by rfl) (by rfl) (by rfl) (by rfl) (by rfl)) (by rfl) (by first | exact .inl rfl | exact .inr rfl | assumption)) (@pss_cons _ _ _ _ _ (@ps_if _ _ _ _ _ _ _ _ (@pt_cmpR _ _ _ _ _ _ _ _ (@op_eq _) (@pe_call _ _ _ _ _ _ _ _ _ _ _ _ _ _ _ _ G_l_take (hr.mono (by decide)) k_l_names_by_l_take T.m_l_take T.F_l_take.kp T.B_l_take .nil (@pass0 _) (@pa_c _ _ _ _ _ (@pw _ 0 _ _ (Or.inr (Or.inl k_l_names_by_l_box_here)) (by rfl) (by decide) (by decide)) (@pa_c _ _ _ _ _ (@pe_int _ _ _ _) (@pa_nil _) rfl) rfl) (by decide) (by rfl) (by rfl)) (@pe_int _ _ _ _) (@nomark _ _ (by decide) (by decide))) (@pss_cons _ _ _ _ _ (@ps_asg _ _ _ _ _ _ (@pe_ix _ _ _ _ _ _ _ (@ixL_k _ (K) (by rfl)) (@pe_lstA _ _ _ _ (@pa_c _ _ _ _ _ (@pe_tupA _ _ _ _ _ (@pa_c _ _ _ _ _ (@pe_str _ _ _ _) (@pa_c _ _ _ _ _ (@pe_str _ _ _ _) (@pa_nil _) rfl) rfl)) (@pa_c _ _ _ _ _ (@pe_tupA _ _ _ _ _ (@pa_c _ _ _ _ _ (@pe_str _ _ _ _) (@pa_c _ _ _ _ _ (@pe_str _ _ _ _) (@pa_nil _) rfl) rfl)) (@pa_nil _) rfl) rfl)) (@pe_callTy _ _ _ _ _ _ _ _ _ (@call_int1 _) k_l_names_by_int T.b_int (@boot_ty_int) (@pa_c _ _ _ _ _ (@pe_cmpR _ _ _ _ _ _ _ _ (@op_eq _) (@pw _ 3 _ _ (Or.inr (Or.inl k_l_names_by_l_first)) (by rfl) (by decide) (by decide)) (@pe_int _ _ _ _) (@nomark _ _ (by decide) (by decide))) (@pa_nil _) rfl) (by decide) (by decide) (by rfl) (by rfl)) (fun _ _ => rfl)) (@pg_tup_k _ (K) _ _ _ _ (2) rfl (@pgs_cons _ _ _ _ _ (@pg_name _ _ (6) _ sc_l_names_by.nd rfl (Or.inr k_l_names_by_l_sign) (by first | exact .inl rfl | exact .inr rfl | assumption)) (@pgs_cons _ _ _ _ _ (@pg_name _ _ (7) _ sc_l_names_by.nd rfl (Or.inr k_l_names_by_l_other) (by first | exact .inl rfl | exact .inr rfl | assumption)) (@pgs_nil _) (by rfl)) (by rfl)) (by rfl) (by rfl) (by rfl)) (by rfl) (by rfl) (by rfl)) (@pss_one _ _ _ (@ps_ret _ _ _ _ (@pe_callTy _ _ _ _ _ _ _ _ _ (@call_tuple_ofA _ (K) (by rfl)) k_l_names_by_tuple T.b_tuple (@boot_ty_tuple) (@pa_c _ _ _ _ _ (@pe_comp _ _ _ _ _ _ _ (["_law_k", "_law_other", "_law_sign"]) (1) ([7, 6]) _ _ _ _ rfl (by kernel_rfl) (@pi_range1 _ _ _ _ _ _ k_l_names_by_range T.b_range (@pa_c _ _ _ _ _ (@pw _ 1 _ _ (Or.inl k_l_names_by_l_many) (by rfl) (by decide) (by decide)) (@pa_nil _) rfl) (by rfl)) (fun _ _ _ _ _ _ => (@pg_name _ _ (0) _ (@nodupS _ (by kernel_rfl)) rfl (Or.inl (by kernel_rfl)) (by first | exact .inl rfl | exact .inr rfl | assumption))) (fun _ _ _ _ _ _ => @pifs_nil _) (fun _ _ _ _ _ _ => (@pe_ifExp _ _ _ _ _ _ _ _ (@pt_cmpR _ _ _ _ _ _ _ _ (@op_lt _) (@pw _ 0 _ _ (Or.inl (by kernel_rfl)) (by rfl) (by decide) (by decide)) (@pe_int _ _ _ _) (@nomark _ _ (by decide) (by decide))) (@pe_op _ _ _ _ _ _ _ _ (@op_mulS _) (@pw _ 2 _ _ (Or.inr (Or.inl (by kernel_rfl))) (by rfl) (by decide) (by decide)) (@pe_op _ _ _ _ _ _ _ _ (@op_add _) (@pw _ 0 _ _ (Or.inl (by kernel_rfl)) (by rfl) (by decide) (by decide)) (@pe_int _ _ _ _))) (@pe_op _ _ _ _ _ _ _ _ (@op_addS _) (@pe_op _ _ _ _ _ _ _ _ (@op_mulS _) (@pw _ 1 _ _ (Or.inr (Or.inl (by kernel_rfl))) (by rfl) (by decide) (by decide)) (@pe_op _ _ _ _ _ _ _ _ (@op_sub _) (@pw _ 0 _ _ (Or.inl (by kernel_rfl)) (by rfl) (by decide) (by decide)) (@pe_int _ _ _ _))) (@pw _ 2 _ _ (Or.inr (Or.inl (by kernel_rfl))) (by rfl) (by decide) (by decide))))) (by intro _; rfl)) (@pa_nil _) rfl) (by decide) (by decide) (by rfl) (by rfl))))) (@pss_nil _)) (@pss_one _ _ _ (@ps_ret _ _ _ _ (@pe_callTy _ _ _ _ _ _ _ _ _ (@call_tuple_ofA _ (K) (by rfl)) k_l_names_by_tuple T.b_tuple (@boot_ty_tuple) (@pa_c _ _ _ _ _ (@pe_comp _ _ _ _ _ _ _ (["_law_k", "_law_behind", "_law_first", "_law_letters"]) (1) ([5, 3, 2]) _ _ _ _ rfl (by kernel_rfl) (@pi_range1 _ _ _ _ _ _ k_l_names_by_range T.b_range (@pa_c _ _ _ _ _ (@pw _ 1 _ _ (Or.inl k_l_names_by_l_many) (by rfl) (by decide) (by decide)) (@pa_nil _) rfl) (by rfl)) (fun _ _ _ _ _ _ => (@pg_name _ _ (0) _ (@nodupS _ (by kernel_rfl)) rfl (Or.inl (by kernel_rfl)) (by first | exact .inl rfl | exact .inr rfl | assumption))) (fun _ _ _ _ _ _ => @pifs_nil _) (fun _ _ _ _ _ _ => (@pe_op _ _ _ _ _ _ _ _ (@op_addS _) (@pe_ix _ _ _ _ _ _ _ (@ix_str _) (@pw _ 3 _ _ (Or.inr (Or.inl (by kernel_rfl))) (by rfl) (by decide) (by decide)) (@pe_op _ _ _ _ _ _ _ _ (@op_mod _) (@pe_op _ _ _ _ _ _ _ _ (@op_add _) (@pw _ 2 _ _ (Or.inr (Or.inl (by kernel_rfl))) (by rfl) (by decide) (by decide)) (@pe_op _ _ _ _ _ _ _ _ (@op_mul _) (@pe_int _ _ _ _) (@pw _ 0 _ _ (Or.inl (by kernel_rfl)) (by rfl) (by decide) (by decide)))) (@pe_int _ _ _ _)) (fun _ _ => rfl)) (@pw _ 1 _ _ (Or.inr (Or.inl (by kernel_rfl))) (by rfl) (by decide) (by decide)))) (by intro _; rfl)) (@pa_nil _) rfl) (by decide) (by decide) (by rfl) (by rfl))))))), ?_⟩
    have hz : (Str.ofString "abcdefghijklmnopqrstuvwxyz").length ≤ sizeLine := by decide +kernel
    refine ⟨_, rfl, b, 26, t, rfl, B, by decide, by decide, ht0, by trivial, fun f t1 H1 f0 f1 h1a h1b s1 B1 => ⟨_, rfl, b, 8, t1, rfl, B1, by decide, by decide, by trivial, by trivial, fun r t2 H2 r0 r1 h2a h2b s2 B2 => ⟨(by show 3 ≤ 10000; decide), fun q H3 n3 => ⟨q, _, rfl, SqT.of n3.at', rfl, _, _, rfl, _, _, rfl, _, _, rfl, rfl, ?_⟩⟩⟩⟩
    have B3 := B2.same n3.sm
    have s03 := (s1.trans s2).trans n3.sm.toE
    refine ⟨rfl, _, rfl, _, rfl, by trivial, by trivial, fun D2 hD2 => comp_each (n := r.toNat) (fun i H' ys => Ex2 fun (cs : List Nat) (t' : Int) => ys = cs.map (fun c => strV [c]) ∧ H' D2 = some (.lst ys) ∧ cs.length = i ∧ (∀ c ∈ cs, 97 ≤ c ∧ c ≤ 122) ∧ Bx H' b t' ∧ t2 ≤ t' ∧ t' ≤ t2 + i ∧ SameE (Eb b) H3 H') ?_ ?_ ?_ ?_ ?_ ?_ ?_⟩
    · rw [sizeLine_eq]; trivial
    · exact ⟨[], t2, rfl, upd_same, rfl, fun c h => (by cases h), B3.same (Same.new hD2), by trivial, by trivial, (Same.new hD2).toE⟩
    · rintro i' H'' ys ⟨cs, t7, rfl, e, rfl, _⟩
      exact ⟨e, by simp⟩
    · intro i' H'' ys hi' _
      exact hi'
    · intro H'' ys _
      exact Nat.le_refl _
    · have nD2 : ¬ D2 = b := fun z => B3.ne hD2 z.symm
      rintro i' Ha ys x Hb hi' ⟨cs, t7, rfl, g1, g2, g3, g4, g5, g6, g7⟩ ⟨rfl, rfl⟩
      refine ⟨back1, _, rfl, _, rfl, b, 26, t7, rfl, g4, by decide, by decide, by trivial, by trivial, fun r8 t8 Hc r80 r81 _ _ jc Cc => ⟨_, _, _, rfl, rfl, hz, letter_at (by trivial) (by trivial), ?_⟩⟩
      have eD := jc.old D2 _ nD2 g1
      refine ⟨eD, cs ++ [97 + (r8 % 26).toNat], t8, by rw [List.map_append]; rfl, upd_same, by rw [List.length_append, g2]; rfl, fun c hc => ?_, ?_, by trivial, by trivial, (g7.trans jc).up hD2⟩
      · rcases List.mem_append.mp hc with h | h
        · exact g3 c h
        · rw [List.mem_singleton.mp h]; trivial
      · have c' : Ch Hc D2 (cs.map (fun c => strV [c]) ++ [strV [97 + (r8 % 26).toNat]]) _ := Ch.mk'
        exact Cc.ch c' (Ne.symm nD2)
    rintro J4 ys ⟨cs, t7, rfl, g1, g2, g3, C4, g5, g6, j4⟩
    refine ⟨D2, cs.map (fun c => [c]), ?_, rfl, SqL.of (by rw [g1, List.map_map]; rfl), ?_, ?_⟩
    · rw [show (Str.ofString "") = S [] from empty_eq]
    · rw [List.map_map]
      have : (cs.map ((fun l : List Nat => l.length) ∘ fun c => [c])).sum = cs.length := by
        clear g1 g2 g3 j4
        induction cs with
        | nil => rfl
        | cons c r ih => simp at ih ⊢; trivial
      rw [this]; trivial
    have fl : (cs.map (fun c => [c])).flatten = cs := by
      clear g1 g2 g3 j4
      induction cs with
      | nil => rfl
      | cons c r ih => rw [List.map_cons, List.flatten_cons, ih]; rfl
    rw [fl]
    have s04 := s03.trans j4
    refine ⟨_, rfl, b, 4, t7, rfl, C4, by decide, by decide, by trivial, by trivial, fun r9 t9 H9 r90 r91 _ _ s9 B9 => ⟨rfl, _, rfl, ?_⟩⟩
    have s09 := s04.trans s9
    refine ite2 (fun c1 => ?_) (fun c1 => ?_)
    · -- rows of one letter
      refine ⟨(by show 2 ≤ 10000; decide), fun u1 J1 e1 => ⟨(by show 2 ≤ 10000; decide), fun u2 J2 e2 => ⟨(by show 2 ≤ 10000; decide), fun u3 J3 e3 => ⟨_, rfl, rfl, .inr ⟨_, rfl, ?_⟩⟩⟩⟩⟩
      have ea : Str.ofString "a" = S [97] := by decide +kernel
      have ez : Str.ofString "z" = S [122] := by decide +kernel
      generalize decide (V.int f = V.int 25) = cc
      obtain ⟨u, d1, d2, eu, hu, hd⟩ : Ex3 fun u d1 d2 => atI [V.ref u1, V.ref u2] (if cc = true then 1 else 0) = some (.ref u) ∧ J3 u = some (.tup [strV [d1], strV [d2]]) ∧ 97 ≤ d1 ∧ d1 ≤ 122 ∧ d1 ≠ d2 ∧ 97 ≤ d2 ∧ d2 ≤ 122 := by
        cases cc with
        | true => exact ⟨u2, 122, 97, rfl, by rw [e3.sm _ _ e2.at', ea, ez], by decide, by decide, by decide, by decide, by decide⟩
        | false => exact ⟨u1, 97, 122, rfl, by rw [e3.sm _ _ (e2.sm _ _ e1.at'), ea, ez], by decide, by decide, by decide, by decide, by decide⟩
      refine ⟨u3, _, _, _, rfl, rfl, SqL.of e3.at', eu, u, _, rfl, SqT.of hu, rfl, _, _, rfl, _, _, rfl, rfl, ?_⟩
      have sJ := ((e1.sm.trans e2.sm).trans e3.sm)
      have BJ := B9.same sJ
      refine ⟨_, rfl, _, rfl, by trivial, by trivial, fun D hD => comp_each (n := many.toNat) (fun i H' ys => ys = (List.range i).map (fun k => strV (nmX d1 d2 k)) ∧ H' D = some (.lst ys) ∧ Same J3 H') ?_ ⟨rfl, upd_same, same_lst hD (Same.refl _)⟩ ?_ ?_ ?_ ?_ ?_⟩
      · rw [sizeLine_eq]; trivial
      · rintro i H' ys ⟨rfl, e, _⟩
        exact ⟨e, by simp⟩
      · intro i H' ys hi _
        exact hi
      · intro H' ys _
        exact Nat.le_refl _
      · rintro i H' ys x H'' hi ⟨g1, g2, g3⟩ ⟨rfl, rfl⟩
        refine ⟨back1, _, rfl, _, _, rfl, rfl, _, rfl, ite2 (fun z => ?_) (fun z => ?_)⟩
        · have hi8 : i < 8 := by have : (0 : Int) + (i : Int) < 8 := of_decide_eq_true z
                                 trivial
          refine ⟨_, rfl, _, rfl, _, _, rfl, rfl, [d1], _, rfl, rfl, by trivial, by trivial, (by show 1 ≤ 100; decide), ?_⟩
          have en : (List.replicate (0 + (i : Int) + 1).toNat [d1]).flatten = nmX d1 d2 i := by
            rw [rep1]
            unfold nmX nm
            rw [if_pos hi8]
            congr 1
            trivial
          rw [en]
          refine ⟨g2, ?_, upd_same, same_lst hD g3⟩
          rw [g1, List.range_succ, List.map_append]; rfl
        · have hi8 : ¬ i < 8 := fun q => z (decide_eq_true (show (0 : Int) + (i : Int) < 8 by trivial))
          refine ⟨_, rfl, _, rfl, _, _, rfl, rfl, [d2], _, rfl, rfl, by trivial, by trivial, (by show 1 ≤ 100; decide), _, rfl, _, _, rfl, rfl, ?_, ?_⟩
          · rw [rep1, List.length_replicate]; simp; trivial
          have en : (List.replicate (0 + (i : Int) - 7).toNat [d2]).flatten ++ [d1] = nmX d1 d2 i := by
            rw [rep1]
            unfold nmX
            rw [if_neg hi8]
            congr 2
            trivial
          rw [en]
          refine ⟨g2, ?_, upd_same, same_lst hD g3⟩
          rw [g1, List.range_succ, List.map_append]; rfl
      rintro H4 ys1 ⟨ey1, eD1, s4⟩
      subst ey1
      refine ⟨D, _, rfl, SqL.of eD1, fun q5 H5 n5 => k q5 ((List.range many.toNat).map (nmX d1 d2)) t9 H5 (((s09.trans sJ.toE).trans s4.toE).trans n5.sm.toE) ?_ (by simp) (nmX_nodup hd.2.2.1 (by trivial)) ?_ ((BJ.same s4).same n5.sm) (by trivial) (by trivial)⟩
      · rw [n5.at', List.map_map]; rfl
      · intro l hl
        obtain ⟨j, hj, rfl⟩ := List.mem_map.mp hl
        exact nmX_ok (by have := List.mem_range.mp hj; trivial) hd.1 hd.2.1 hd.2.2.2.1 hd.2.2.2.2
    · -- letters of eleven steps
      refine ⟨_, rfl, _, rfl, by trivial, by trivial, fun D hD => comp_each (n := many.toNat) (fun i H' ys => ys = (List.range i).map (fun (k : Nat) => strV ((97 + ((f + 11 * (k : Int)) % 26).toNat) :: cs)) ∧ H' D = some (.lst ys) ∧ Same H9 H') ?_ ⟨rfl, upd_same, same_lst hD (Same.refl _)⟩ ?_ ?_ ?_ ?_ ?_⟩
      · rw [sizeLine_eq]; trivial
      · rintro i H' ys ⟨rfl, e, _⟩
        exact ⟨e, by simp⟩
      · intro i H' ys hi _
        exact hi
      · intro H' ys _
        exact Nat.le_refl _
      · rintro i H' ys x H'' hi ⟨g1', g2', g3'⟩ ⟨rfl, rfl⟩
        refine ⟨back1, _, rfl, _, rfl, _, rfl, _, _, rfl, rfl, .inl ⟨by decide, by decide⟩, _, _, rfl, rfl, _, _, rfl, rfl, (by show (0 : Int) < 26; decide), _, _, _, rfl, rfl, hz, letter_at (by trivial) (by trivial), _, rfl, [97 + (((f + 11 * (0 + (i : Int))) % 26) % 26).toNat], cs, rfl, rfl, ?_, ?_⟩
        · simp; trivial
        refine ⟨g2', ?_, upd_same, same_lst hD g3'⟩
        rw [g1', List.range_succ, List.map_append]
        congr 1
        show [strV ([97 + (((f + 11 * (0 + (i : Int))) % 26) % 26).toNat] ++ cs)] = [strV ((97 + ((f + 11 * (i : Int)) % 26).toNat) :: cs)]
        have : (((f + 11 * (0 + (i : Int))) % 26) % 26).toNat = ((f + 11 * (i : Int)) % 26).toNat := by trivial
        rw [this]; rfl
      rintro H4 ys1 ⟨ey1, eD1, s4⟩
      subst ey1
      refine ⟨D, _, rfl, SqL.of eD1, fun q5 H5 n5 => k q5 ((List.range many.toNat).map (fun (k : Nat) => (97 + ((f + 11 * (k : Int)) % 26).toNat) :: cs)) t9 H5 ((s09.trans s4.toE).trans n5.sm.toE) ?_ (by simp) (heads_nodup (f := f) (by simp; trivial) ?_) ?_ ((B9.same s4).same n5.sm) (by trivial) (by trivial)⟩
      · rw [n5.at', List.map_map]; rfl
      · intro j l hl
        rw [List.getElem?_map] at hl
        obtain ⟨j', hj', rfl⟩ := Option.map_eq_some_iff.mp hl
        obtain ⟨hlt, ej⟩ := List.getElem?_eq_some_iff.mp hj'
        rw [List.getElem_range] at ej
        subst ej
        rfl
      · intro l hl
        obtain ⟨j, hj, rfl⟩ := List.mem_map.mp hl
        refine ⟨by simp, by simp; trivial, fun c hc => ?_⟩
        rcases List.mem_cons.mp hc with h | h
        · rw [h]; trivial
        · exact g3 c h
end
end K16
namespace K16
open PySem L2
section
variable {P : Program} {w : World} {K : PySem.W.Frag} {mg : Str → Option Value} {base : Heap}
inductive spG2_ (g : KM.Fra → KM.Fra → KM.Fra) (z : Bool) (vs : List V) (H : Hp) (Q : VK) : Prop
  | mk (a b : Addr) (p q : KM.Fra) (c1 d1 c2 d2 : Nat) (h0 : vs = [.ref a, .ref b]) (h1 : H a = some (fr p)) (h2 : H b = some (fr q)) (h3 : Gb c1 d1 p) (h4 : Gb c2 d2 q) (h5 : c1 ≤ 4000) (h6 : d1 ≤ 4000) (h7 : c2 ≤ 4000) (h8 : d2 ≤ 4000) (h9 : (z = true → 1 ≤ q.1)) (h10 : ∀ o H', Nw H o (fr (g p q)) H' → Q (.ref o) H')
def spG2 (g : KM.Fra → KM.Fra → KM.Fra) (z : Bool) : Sp := fun vs H Q _ => spG2_ g z vs H Q
theorem ok_l_sum (T : Txt K mg) : FnOk P w K mg base CX0 2 T.f_l_sum T.d_l_sum ["_law_one", "_law_other"] (spG2 KM.ladd false) := by
  have G_l_frac := ok_frac (P := P) (w := w) (base := base) T
  refine T.F_l_sum.ok sc_l_sum (fun vs H Q E h => ?_) (fun cdv A outer s H vs Q E hr h => ?_)
  · obtain ⟨a, b, p, q, c1, d1, c2, d2, rfl, _⟩ := h
    rfl
  · obtain ⟨a, b, p, q, c1, d1, c2, d2, rfl, ha, hb, fp, fq, h1, h2, h3, h4, _, k⟩ := h
    obtain ⟨z1, z2, z3, z4⟩ : Sz 4000 p.1 ∧ Sz 4000 p.2 ∧ Sz 4000 q.1 ∧ Sz 4000 q.2 := ⟨fp.n.mono h1, fp.d.mono h2, fq.n.mono h3, fq.d.mono h4⟩
    refine ⟨_, (@pss_one _ _ _ (@ps_ret _ _ _ _ (@pe_call _ _ _ _ _ _ _ _ _ _ _ _ _ _ _ _ G_l_frac (hr.mono (by decide)) k_l_sum_l_frac T.m_l_frac T.F_l_frac.kp T.B_l_frac .nil (@pass0 _) (@pa_c _ _ _ _ _ (@pe_op _ _ _ _ _ _ _ _ (@op_add _) (@pe_op _ _ _ _ _ _ _ _ (@op_mulB _) (@pe_ix _ _ _ _ _ _ _ (@ixT_k _ (K) (by rfl)) (@pw _ 0 _ _ (Or.inl k_l_sum_l_one) (by rfl) (by decide) (by decide)) (@pe_int _ _ _ _) (fun _ _ => rfl)) (@pe_ix _ _ _ _ _ _ _ (@ixT_k _ (K) (by rfl)) (@pw _ 1 _ _ (Or.inl k_l_sum_l_other) (by rfl) (by decide) (by decide)) (@pe_int _ _ _ _) (fun _ _ => rfl))) (@pe_op _ _ _ _ _ _ _ _ (@op_mulB _) (@pe_ix _ _ _ _ _ _ _ (@ixT_k _ (K) (by rfl)) (@pw _ 1 _ _ (Or.inl k_l_sum_l_other) (by rfl) (by decide) (by decide)) (@pe_int _ _ _ _) (fun _ _ => rfl)) (@pe_ix _ _ _ _ _ _ _ (@ixT_k _ (K) (by rfl)) (@pw _ 0 _ _ (Or.inl k_l_sum_l_one) (by rfl) (by decide) (by decide)) (@pe_int _ _ _ _) (fun _ _ => rfl)))) (@pa_c _ _ _ _ _ (@pe_op _ _ _ _ _ _ _ _ (@op_mulB _) (@pe_ix _ _ _ _ _ _ _ (@ixT_k _ (K) (by rfl)) (@pw _ 0 _ _ (Or.inl k_l_sum_l_one) (by rfl) (by decide) (by decide)) (@pe_int _ _ _ _) (fun _ _ => rfl)) (@pe_ix _ _ _ _ _ _ _ (@ixT_k _ (K) (by rfl)) (@pw _ 1 _ _ (Or.inl k_l_sum_l_other) (by rfl) (by decide) (by decide)) (@pe_int _ _ _ _) (fun _ _ => rfl))) (@pa_nil _) rfl) rfl) (by decide) (by rfl) (by rfl)))), ?_⟩
    exact ⟨_, rfl, a, _, _, _, rfl, rfl, SqT.of ha, rfl, _, rfl, b, _, _, _, rfl, rfl, SqT.of hb, rfl, _, _, rfl, rfl, mulS z1 z4, _, rfl, b, _, _, _, rfl, rfl, SqT.of hb, rfl, _, rfl, a, _, _, _, rfl, rfl, SqT.of ha, rfl, _, _, rfl, rfl, mulS z3 z2, _, _, rfl, rfl,
      _, rfl, a, _, _, _, rfl, rfl, SqT.of ha, rfl, _, rfl, b, _, _, _, rfl, rfl, SqT.of hb, rfl, _, _, rfl, rfl, mulS z2 z4, _, _, rfl, Int.mul_pos (by have := fp.pos; trivial) (by have := fq.pos; trivial), mulS9 z2 z4, fun o H' n => k o H' n⟩
theorem ok_l_minus (T : Txt K mg) : FnOk P w K mg base CX0 2 T.f_l_minus T.d_l_minus ["_law_one", "_law_other"] (spG2 lMin false) := by
  have G_l_frac := ok_frac (P := P) (w := w) (base := base) T
  refine T.F_l_minus.ok sc_l_minus (fun vs H Q E h => ?_) (fun cdv A outer s H vs Q E hr h => ?_)
  · obtain ⟨a, b, p, q, c1, d1, c2, d2, rfl, _⟩ := h
    rfl
  · obtain ⟨a, b, p, q, c1, d1, c2, d2, rfl, ha, hb, fp, fq, h1, h2, h3, h4, _, k⟩ := h
    obtain ⟨z1, z2, z3, z4⟩ : Sz 4000 p.1 ∧ Sz 4000 p.2 ∧ Sz 4000 q.1 ∧ Sz 4000 q.2 := ⟨fp.n.mono h1, fp.d.mono h2, fq.n.mono h3, fq.d.mono h4⟩
    refine ⟨_, (@pss_one _ _ _ (@ps_ret _ _ _ _ (@pe_call _ _ _ _ _ _ _ _ _ _ _ _ _ _ _ _ G_l_frac (hr.mono (by decide)) k_l_minus_l_frac T.m_l_frac T.F_l_frac.kp T.B_l_frac .nil (@pass0 _) (@pa_c _ _ _ _ _ (@pe_op _ _ _ _ _ _ _ _ (@op_sub _) (@pe_op _ _ _ _ _ _ _ _ (@op_mulB _) (@pe_ix _ _ _ _ _ _ _ (@ixT_k _ (K) (by rfl)) (@pw _ 0 _ _ (Or.inl k_l_minus_l_one) (by rfl) (by decide) (by decide)) (@pe_int _ _ _ _) (fun _ _ => rfl)) (@pe_ix _ _ _ _ _ _ _ (@ixT_k _ (K) (by rfl)) (@pw _ 1 _ _ (Or.inl k_l_minus_l_other) (by rfl) (by decide) (by decide)) (@pe_int _ _ _ _) (fun _ _ => rfl))) (@pe_op _ _ _ _ _ _ _ _ (@op_mulB _) (@pe_ix _ _ _ _ _ _ _ (@ixT_k _ (K) (by rfl)) (@pw _ 1 _ _ (Or.inl k_l_minus_l_other) (by rfl) (by decide) (by decide)) (@pe_int _ _ _ _) (fun _ _ => rfl)) (@pe_ix _ _ _ _ _ _ _ (@ixT_k _ (K) (by rfl)) (@pw _ 0 _ _ (Or.inl k_l_minus_l_one) (by rfl) (by decide) (by decide)) (@pe_int _ _ _ _) (fun _ _ => rfl)))) (@pa_c _ _ _ _ _ (@pe_op _ _ _ _ _ _ _ _ (@op_mulB _) (@pe_ix _ _ _ _ _ _ _ (@ixT_k _ (K) (by rfl)) (@pw _ 0 _ _ (Or.inl k_l_minus_l_one) (by rfl) (by decide) (by decide)) (@pe_int _ _ _ _) (fun _ _ => rfl)) (@pe_ix _ _ _ _ _ _ _ (@ixT_k _ (K) (by rfl)) (@pw _ 1 _ _ (Or.inl k_l_minus_l_other) (by rfl) (by decide) (by decide)) (@pe_int _ _ _ _) (fun _ _ => rfl))) (@pa_nil _) rfl) rfl) (by decide) (by rfl) (by rfl)))), ?_⟩
    exact ⟨_, rfl, a, _, _, _, rfl, rfl, SqT.of ha, rfl, _, rfl, b, _, _, _, rfl, rfl, SqT.of hb, rfl, _, _, rfl, rfl, mulS z1 z4, _, rfl, b, _, _, _, rfl, rfl, SqT.of hb, rfl, _, rfl, a, _, _, _, rfl, rfl, SqT.of ha, rfl, _, _, rfl, rfl, mulS z3 z2, _, _, rfl, rfl,
      _, rfl, a, _, _, _, rfl, rfl, SqT.of ha, rfl, _, rfl, b, _, _, _, rfl, rfl, SqT.of hb, rfl, _, _, rfl, rfl, mulS z2 z4, _, _, rfl, Int.mul_pos (by have := fp.pos; trivial) (by have := fq.pos; trivial), mulS9 z2 z4, fun o H' n => k o H' n⟩
theorem ok_l_product (T : Txt K mg) : FnOk P w K mg base CX0 2 T.f_l_product T.d_l_product ["_law_one", "_law_other"] (spG2 KM.lTim false) := by
  have G_l_frac := ok_frac (P := P) (w := w) (base := base) T
  refine T.F_l_product.ok sc_l_product (fun vs H Q E h => ?_) (fun cdv A outer s H vs Q E hr h => ?_)
  · obtain ⟨a, b, p, q, c1, d1, c2, d2, rfl, _⟩ := h
    rfl
  · obtain ⟨a, b, p, q, c1, d1, c2, d2, rfl, ha, hb, fp, fq, h1, h2, h3, h4, _, k⟩ := h
    obtain ⟨z1, z2, z3, z4⟩ : Sz 4000 p.1 ∧ Sz 4000 p.2 ∧ Sz 4000 q.1 ∧ Sz 4000 q.2 := ⟨fp.n.mono h1, fp.d.mono h2, fq.n.mono h3, fq.d.mono h4⟩
    refine ⟨_, (@pss_one _ _ _ (@ps_ret _ _ _ _ (@pe_call _ _ _ _ _ _ _ _ _ _ _ _ _ _ _ _ G_l_frac (hr.mono (by decide)) k_l_product_l_frac T.m_l_frac T.F_l_frac.kp T.B_l_frac .nil (@pass0 _) (@pa_c _ _ _ _ _ (@pe_op _ _ _ _ _ _ _ _ (@op_mulB _) (@pe_ix _ _ _ _ _ _ _ (@ixT_k _ (K) (by rfl)) (@pw _ 0 _ _ (Or.inl k_l_product_l_one) (by rfl) (by decide) (by decide)) (@pe_int _ _ _ _) (fun _ _ => rfl)) (@pe_ix _ _ _ _ _ _ _ (@ixT_k _ (K) (by rfl)) (@pw _ 1 _ _ (Or.inl k_l_product_l_other) (by rfl) (by decide) (by decide)) (@pe_int _ _ _ _) (fun _ _ => rfl))) (@pa_c _ _ _ _ _ (@pe_op _ _ _ _ _ _ _ _ (@op_mulB _) (@pe_ix _ _ _ _ _ _ _ (@ixT_k _ (K) (by rfl)) (@pw _ 0 _ _ (Or.inl k_l_product_l_one) (by rfl) (by decide) (by decide)) (@pe_int _ _ _ _) (fun _ _ => rfl)) (@pe_ix _ _ _ _ _ _ _ (@ixT_k _ (K) (by rfl)) (@pw _ 1 _ _ (Or.inl k_l_product_l_other) (by rfl) (by decide) (by decide)) (@pe_int _ _ _ _) (fun _ _ => rfl))) (@pa_nil _) rfl) rfl) (by decide) (by rfl) (by rfl)))), ?_⟩
    exact ⟨_, rfl, a, _, _, _, rfl, rfl, SqT.of ha, rfl, _, rfl, b, _, _, _, rfl, rfl, SqT.of hb, rfl, _, _, rfl, rfl, mulS z1 z3,
      _, rfl, a, _, _, _, rfl, rfl, SqT.of ha, rfl, _, rfl, b, _, _, _, rfl, rfl, SqT.of hb, rfl, _, _, rfl, rfl, mulS z2 z4, _, _, rfl, Int.mul_pos (by have := fp.pos; trivial) (by have := fq.pos; trivial), mulS9 z2 z4, fun o H' n => k o H' n⟩
theorem ok_l_over (T : Txt K mg) : FnOk P w K mg base CX0 2 T.f_l_over T.d_l_over ["_law_one", "_law_other"] (spG2 lOvr true) := by
  have G_l_frac := ok_frac (P := P) (w := w) (base := base) T
  refine T.F_l_over.ok sc_l_over (fun vs H Q E h => ?_) (fun cdv A outer s H vs Q E hr h => ?_)
  · obtain ⟨a, b, p, q, c1, d1, c2, d2, rfl, _⟩ := h
    rfl
  · obtain ⟨a, b, p, q, c1, d1, c2, d2, rfl, ha, hb, fp, fq, h1, h2, h3, h4, hz, k⟩ := h
    have hq := hz rfl
    obtain ⟨z1, z2, z3, z4⟩ : Sz 4000 p.1 ∧ Sz 4000 p.2 ∧ Sz 4000 q.1 ∧ Sz 4000 q.2 := ⟨fp.n.mono h1, fp.d.mono h2, fq.n.mono h3, fq.d.mono h4⟩
    refine ⟨_, (@pss_one _ _ _ (@ps_ret _ _ _ _ (@pe_call _ _ _ _ _ _ _ _ _ _ _ _ _ _ _ _ G_l_frac (hr.mono (by decide)) k_l_over_l_frac T.m_l_frac T.F_l_frac.kp T.B_l_frac .nil (@pass0 _) (@pa_c _ _ _ _ _ (@pe_op _ _ _ _ _ _ _ _ (@op_mulB _) (@pe_ix _ _ _ _ _ _ _ (@ixT_k _ (K) (by rfl)) (@pw _ 0 _ _ (Or.inl k_l_over_l_one) (by rfl) (by decide) (by decide)) (@pe_int _ _ _ _) (fun _ _ => rfl)) (@pe_ix _ _ _ _ _ _ _ (@ixT_k _ (K) (by rfl)) (@pw _ 1 _ _ (Or.inl k_l_over_l_other) (by rfl) (by decide) (by decide)) (@pe_int _ _ _ _) (fun _ _ => rfl))) (@pa_c _ _ _ _ _ (@pe_op _ _ _ _ _ _ _ _ (@op_mulB _) (@pe_ix _ _ _ _ _ _ _ (@ixT_k _ (K) (by rfl)) (@pw _ 0 _ _ (Or.inl k_l_over_l_one) (by rfl) (by decide) (by decide)) (@pe_int _ _ _ _) (fun _ _ => rfl)) (@pe_ix _ _ _ _ _ _ _ (@ixT_k _ (K) (by rfl)) (@pw _ 1 _ _ (Or.inl k_l_over_l_other) (by rfl) (by decide) (by decide)) (@pe_int _ _ _ _) (fun _ _ => rfl))) (@pa_nil _) rfl) rfl) (by decide) (by rfl) (by rfl)))), ?_⟩
    exact ⟨_, rfl, a, _, _, _, rfl, rfl, SqT.of ha, rfl, _, rfl, b, _, _, _, rfl, rfl, SqT.of hb, rfl, _, _, rfl, rfl, mulS z1 z4,
      _, rfl, a, _, _, _, rfl, rfl, SqT.of ha, rfl, _, rfl, b, _, _, _, rfl, rfl, SqT.of hb, rfl, _, _, rfl, rfl, mulS z2 z3, _, _, rfl, Int.mul_pos (by have := fp.pos; trivial) (by trivial), mulS9 z2 z3, fun o H' n => k o H' n⟩
inductive spAbove_ (vs : List V) (H : Hp) (Q : VK) : Prop
  | mk (a b : Addr) (p q : KM.Fra) (h0 : vs = [.ref a, .ref b]) (h1 : H a = some (fr p)) (h2 : H b = some (fr q)) (h3 : Sz 4000 p.1) (h4 : Sz 4000 p.2) (h5 : Sz 4000 q.1) (h6 : Sz 4000 q.2) (h7 : Q (.int (p.1 * q.2 - q.1 * p.2)) H)
def spAbove : Sp := fun vs H Q _ => spAbove_  vs H Q
theorem ok_l_above (T : Txt K mg) : FnOk P w K mg base CX0 1 T.f_l_above T.d_l_above ["_law_one", "_law_other"] spAbove := by
  refine T.F_l_above.ok sc_l_above (fun vs H Q E h => ?_) (fun cdv A outer s H vs Q E hr h => ?_)
  · obtain ⟨a, b, p, q, rfl, _⟩ := h
    rfl
  · obtain ⟨a, b, p, q, rfl, ha, hb, z1, z2, z3, z4, k⟩ := h
    refine ⟨_, (@pss_one _ _ _ (@ps_ret _ _ _ _ (@pe_op _ _ _ _ _ _ _ _ (@op_sub _) (@pe_op _ _ _ _ _ _ _ _ (@op_mulB _) (@pe_ix _ _ _ _ _ _ _ (@ixT_k _ (K) (by rfl)) (@pw _ 0 _ _ (Or.inl k_l_above_l_one) (by rfl) (by decide) (by decide)) (@pe_int _ _ _ _) (fun _ _ => rfl)) (@pe_ix _ _ _ _ _ _ _ (@ixT_k _ (K) (by rfl)) (@pw _ 1 _ _ (Or.inl k_l_above_l_other) (by rfl) (by decide) (by decide)) (@pe_int _ _ _ _) (fun _ _ => rfl))) (@pe_op _ _ _ _ _ _ _ _ (@op_mulB _) (@pe_ix _ _ _ _ _ _ _ (@ixT_k _ (K) (by rfl)) (@pw _ 1 _ _ (Or.inl k_l_above_l_other) (by rfl) (by decide) (by decide)) (@pe_int _ _ _ _) (fun _ _ => rfl)) (@pe_ix _ _ _ _ _ _ _ (@ixT_k _ (K) (by rfl)) (@pw _ 0 _ _ (Or.inl k_l_above_l_one) (by rfl) (by decide) (by decide)) (@pe_int _ _ _ _) (fun _ _ => rfl)))))), ?_⟩
    exact ⟨_, rfl, a, _, _, _, rfl, rfl, SqT.of ha, rfl, _, rfl, b, _, _, _, rfl, rfl, SqT.of hb, rfl, _, _, rfl, rfl, mulS z1 z4, _, rfl, b, _, _, _, rfl, rfl, SqT.of hb, rfl, _, rfl, a, _, _, _, rfl, rfl, SqT.of ha, rfl, _, _, rfl, rfl, mulS z3 z2, _, _, rfl, rfl, k⟩
end
end K16
namespace K16
open PySem L2
section
variable {P : Program} {w : World} {K : PySem.W.Frag} {mg : Str → Option Value} {base : Heap}
theorem ok_l_same (T : Txt K mg) : ∀ n, FnOk P w K mg base CX0 (n + 1) T.f_l_same T.d_l_same ["_law_found", "_law_due"] (spLike n) := by
  intro n
  induction n with
  | zero =>
    refine T.F_l_same.ok sc_l_same (fun vs H Q E h => ?_) (fun cdv A outer s H vs Q E hr h => ?_)
    · obtain ⟨_, _, _, _, _, _, _, z, _⟩ := h
      exact z.elim
    · obtain ⟨_, _, _, _, _, _, _, z, _⟩ := h
      exact z.elim
  | succ n G_l_same =>
  refine T.F_l_same.ok sc_l_same (fun vs H Q E h => ?_) (fun cdv A outer s H vs Q E hr h => ?_)
  · obtain ⟨x, y, d, E, rfl, _⟩ := h
    rfl
  · obtain ⟨x, y, d, E', rfl, hx, hy, hd, k⟩ := h
    refine ⟨_, (@pss_cons _ _ _ _ _ (@ps_if _ _ _ _ _ _ _ _ (@pt_val _ _ _ (@pe_callB _ _ _ _ _ _ _ _ _ (@isinstT_k _ (K) (by rfl)) k_l_same_isinstance T.b_isinstance (@boot_b_isinstance) (@pa_c _ _ _ _ _ (@pw _ 1 _ _ (Or.inl k_l_same_l_due) (by rfl) (by decide) (by decide)) (@pa_c _ _ _ _ _ (@pe_tupA _ _ _ _ _ (@pa_c _ _ _ _ _ (@pe_ty _ _ _ _ k_l_same_list T.b_list (@boot_ty_list) (by decide) (by decide)) (@pa_c _ _ _ _ _ (@pe_ty _ _ _ _ k_l_same_tuple T.b_tuple (@boot_ty_tuple) (by decide) (by decide)) (@pa_nil _) rfl) rfl)) (@pa_nil _) rfl) rfl) (by decide) (by decide) (by rfl) (by rfl)) (by intro _; rfl)) (@pss_cons _ _ _ _ _ (@ps_if _ _ _ _ _ _ _ _ (@PW.pt _ _ _ (@pw_or _ _ _ _ _ _ _ (@pt_cmpR _ _ _ _ _ _ _ _ (@op_ne _) (@pe_callB _ _ _ _ _ _ _ _ _ (@isinst_k _ (K) (by rfl)) k_l_same_isinstance T.b_isinstance (@boot_b_isinstance) (@pa_c _ _ _ _ _ (@pw _ 0 _ _ (Or.inl k_l_same_l_found) (by rfl) (by decide) (by decide)) (@pa_c _ _ _ _ _ (@pe_ty _ _ _ _ k_l_same_list T.b_list (@boot_ty_list) (by decide) (by decide)) (@pa_nil _) rfl) rfl) (by decide) (by decide) (by rfl) (by rfl)) (@pe_callB _ _ _ _ _ _ _ _ _ (@isinst_k _ (K) (by rfl)) k_l_same_isinstance T.b_isinstance (@boot_b_isinstance) (@pa_c _ _ _ _ _ (@pw _ 1 _ _ (Or.inl k_l_same_l_due) (by rfl) (by decide) (by decide)) (@pa_c _ _ _ _ _ (@pe_ty _ _ _ _ k_l_same_list T.b_list (@boot_ty_list) (by decide) (by decide)) (@pa_nil _) rfl) rfl) (by decide) (by decide) (by rfl) (by rfl)) (@nomark _ _ (by decide) (by decide))) (@pw_or1 _ _ _ _ (@pt_cmpR _ _ _ _ _ _ _ _ (@op_ne _) (@pe_callB _ _ _ _ _ _ _ _ _ (@isinst_k _ (K) (by rfl)) k_l_same_isinstance T.b_isinstance (@boot_b_isinstance) (@pa_c _ _ _ _ _ (@pw _ 0 _ _ (Or.inl k_l_same_l_found) (by rfl) (by decide) (by decide)) (@pa_c _ _ _ _ _ (@pe_ty _ _ _ _ k_l_same_tuple T.b_tuple (@boot_ty_tuple) (by decide) (by decide)) (@pa_nil _) rfl) rfl) (by decide) (by decide) (by rfl) (by rfl)) (@pe_callB _ _ _ _ _ _ _ _ _ (@isinst_k _ (K) (by rfl)) k_l_same_isinstance T.b_isinstance (@boot_b_isinstance) (@pa_c _ _ _ _ _ (@pw _ 1 _ _ (Or.inl k_l_same_l_due) (by rfl) (by decide) (by decide)) (@pa_c _ _ _ _ _ (@pe_ty _ _ _ _ k_l_same_tuple T.b_tuple (@boot_ty_tuple) (by decide) (by decide)) (@pa_nil _) rfl) rfl) (by decide) (by decide) (by rfl) (by rfl)) (@nomark _ _ (by decide) (by decide)))))) (@pss_one _ _ _ (@ps_ret _ _ _ _ (@pe_bl _ _ _ _))) (@pss_nil _)) (@pss_one _ _ _ (@ps_ret _ _ _ _ (@pe_and _ _ _ _ _ _ _ (@pe_cmpR _ _ _ _ _ _ _ _ (@op_eq _) (@pe_callB _ _ _ _ _ _ _ _ _ (@len_k _ (K) (by rfl)) k_l_same_len T.b_len (@boot_b_len) (@pa_c _ _ _ _ _ (@pw _ 0 _ _ (Or.inl k_l_same_l_found) (by rfl) (by decide) (by decide)) (@pa_nil _) rfl) (by decide) (by decide) (by rfl) (by rfl)) (@pe_callB _ _ _ _ _ _ _ _ _ (@len_k _ (K) (by rfl)) k_l_same_len T.b_len (@boot_b_len) (@pa_c _ _ _ _ _ (@pw _ 1 _ _ (Or.inl k_l_same_l_due) (by rfl) (by decide) (by decide)) (@pa_nil _) rfl) (by decide) (by decide) (by rfl) (by rfl)) (@nomark _ _ (by decide) (by decide))) (@pe_one _ _ _ _ _ (@pe_callB _ _ _ _ _ _ _ _ _ (@all_k _ (K) rfl (by rfl)) k_l_same_all T.b_all (@boot_b_all) (@pa_c _ _ _ _ _ (@pe_comp _ _ _ _ _ _ _ (["_law_one", "_law_other"]) (2) ([]) _ _ _ _ rfl (by kernel_rfl) (@pi_zip_k _ (K) _ _ _ _ _ _ _ _ k_l_same_zip T.b_zip (@pa_c _ _ _ _ _ (@pw _ 0 _ _ (Or.inl k_l_same_l_found) (by rfl) (by decide) (by decide)) (@pa_c _ _ _ _ _ (@pw _ 1 _ _ (Or.inl k_l_same_l_due) (by rfl) (by decide) (by decide)) (@pa_nil _) rfl) rfl) (by rfl) (by rfl) (by rfl)) (fun _ _ _ _ _ _ => (@pg_tup_k _ (K) _ _ _ _ (2) rfl (@pgs_cons _ _ _ _ _ (@pg_name _ _ (0) _ (@nodupS _ (by kernel_rfl)) rfl (Or.inl (by kernel_rfl)) (by first | exact .inl rfl | exact .inr rfl | assumption)) (@pgs_cons _ _ _ _ _ (@pg_name _ _ (1) _ (@nodupS _ (by kernel_rfl)) rfl (Or.inl (by kernel_rfl)) (by first | exact .inl rfl | exact .inr rfl | assumption)) (@pgs_nil _) (by rfl)) (by rfl)) (by rfl) (by rfl) (by rfl))) (fun _ _ _ _ _ _ => @pifs_nil _) (fun _ _ _ _ _ _ => (@pe_call _ _ _ _ _ _ _ _ _ _ _ _ _ _ _ _ G_l_same (hr.mono (by trivial)) (by show _ = _; kernel_rfl) T.m_l_same T.F_l_same.kp T.B_l_same .nil (@pass0 _) (@pa_c _ _ _ _ _ (@pw _ 0 _ _ (Or.inl (by kernel_rfl)) (by rfl) (by decide) (by decide)) (@pa_c _ _ _ _ _ (@pw _ 1 _ _ (Or.inl (by kernel_rfl)) (by rfl) (by decide) (by decide)) (@pa_nil _) rfl) rfl) (by decide) (by rfl) (by rfl))) (by intro _; rfl)) (@pa_nil _) rfl) (by decide) (by decide) (by rfl) (by rfl))))))) (@pss_nil _)) (@pss_cons _ _ _ _ _ (@ps_if _ _ _ _ _ _ _ _ (@PW.pt _ _ _ (@pw_or _ _ _ _ _ _ _ (@pt_cmpR _ _ _ _ _ _ _ _ (@op_isN _) (@pw _ 1 _ _ (Or.inl k_l_same_l_due) (by rfl) (by decide) (by decide)) (@pe_non _ _ _) (@nomark _ _ (by decide) (by decide))) (@pw_or1 _ _ _ _ (@pt_val _ _ _ (@pe_callB _ _ _ _ _ _ _ _ _ (@isinst_k _ (K) (by rfl)) k_l_same_isinstance T.b_isinstance (@boot_b_isinstance) (@pa_c _ _ _ _ _ (@pw _ 1 _ _ (Or.inl k_l_same_l_due) (by rfl) (by decide) (by decide)) (@pa_c _ _ _ _ _ (@pe_ty _ _ _ _ k_l_same_str T.b_str (@boot_ty_str) (by decide) (by decide)) (@pa_nil _) rfl) rfl) (by decide) (by decide) (by rfl) (by rfl)) (by intro _; rfl))))) (@pss_one _ _ _ (@ps_ret _ _ _ _ (@pe_and _ _ _ _ _ _ _ (@pe_cmpR _ _ _ _ _ _ _ _ (@op_eq _) (@pw _ 0 _ _ (Or.inl k_l_same_l_found) (by rfl) (by decide) (by decide)) (@pw _ 1 _ _ (Or.inl k_l_same_l_due) (by rfl) (by decide) (by decide)) (@nomark _ _ (by decide) (by decide))) (@pe_one _ _ _ _ _ (@pe_cmpR _ _ _ _ _ _ _ _ (@op_eq _) (@pe_callB _ _ _ _ _ _ _ _ _ (@isinst_k _ (K) (by rfl)) k_l_same_isinstance T.b_isinstance (@boot_b_isinstance) (@pa_c _ _ _ _ _ (@pw _ 0 _ _ (Or.inl k_l_same_l_found) (by rfl) (by decide) (by decide)) (@pa_c _ _ _ _ _ (@pe_ty _ _ _ _ k_l_same_str T.b_str (@boot_ty_str) (by decide) (by decide)) (@pa_nil _) rfl) rfl) (by decide) (by decide) (by rfl) (by rfl)) (@pe_callB _ _ _ _ _ _ _ _ _ (@isinst_k _ (K) (by rfl)) k_l_same_isinstance T.b_isinstance (@boot_b_isinstance) (@pa_c _ _ _ _ _ (@pw _ 1 _ _ (Or.inl k_l_same_l_due) (by rfl) (by decide) (by decide)) (@pa_c _ _ _ _ _ (@pe_ty _ _ _ _ k_l_same_str T.b_str (@boot_ty_str) (by decide) (by decide)) (@pa_nil _) rfl) rfl) (by decide) (by decide) (by rfl) (by rfl)) (@nomark _ _ (by decide) (by decide))))))) (@pss_nil _)) (@pss_cons _ _ _ _ _ (@ps_if _ _ _ _ _ _ _ _ (@pt_val _ _ _ (@pe_callB _ _ _ _ _ _ _ _ _ (@isinst_k _ (K) (by rfl)) k_l_same_isinstance T.b_isinstance (@boot_b_isinstance) (@pa_c _ _ _ _ _ (@pw _ 1 _ _ (Or.inl k_l_same_l_due) (by rfl) (by decide) (by decide)) (@pa_c _ _ _ _ _ (@pe_ty _ _ _ _ k_l_same_bool T.b_bool (@boot_ty_bool) (by decide) (by decide)) (@pa_nil _) rfl) rfl) (by decide) (by decide) (by rfl) (by rfl)) (by intro _; rfl)) (@pss_one _ _ _ (@ps_ret _ _ _ _ (@pe_and _ _ _ _ _ _ _ (@pe_callB _ _ _ _ _ _ _ _ _ (@isinst_k _ (K) (by rfl)) k_l_same_isinstance T.b_isinstance (@boot_b_isinstance) (@pa_c _ _ _ _ _ (@pw _ 0 _ _ (Or.inl k_l_same_l_found) (by rfl) (by decide) (by decide)) (@pa_c _ _ _ _ _ (@pe_ty _ _ _ _ k_l_same_bool T.b_bool (@boot_ty_bool) (by decide) (by decide)) (@pa_nil _) rfl) rfl) (by decide) (by decide) (by rfl) (by rfl)) (@pe_one _ _ _ _ _ (@pe_cmpR _ _ _ _ _ _ _ _ (@op_eq _) (@pw _ 0 _ _ (Or.inl k_l_same_l_found) (by rfl) (by decide) (by decide)) (@pw _ 1 _ _ (Or.inl k_l_same_l_due) (by rfl) (by decide) (by decide)) (@nomark _ _ (by decide) (by decide))))))) (@pss_nil _)) (@pss_one _ _ _ (@ps_ret _ _ _ _ (@pe_and _ _ _ _ _ _ _ (@pe_callB _ _ _ _ _ _ _ _ _ (@isinst_k _ (K) (by rfl)) k_l_same_isinstance T.b_isinstance (@boot_b_isinstance) (@pa_c _ _ _ _ _ (@pw _ 0 _ _ (Or.inl k_l_same_l_found) (by rfl) (by decide) (by decide)) (@pa_c _ _ _ _ _ (@pe_ty _ _ _ _ k_l_same_int T.b_int (@boot_ty_int) (by decide) (by decide)) (@pa_nil _) rfl) rfl) (by decide) (by decide) (by rfl) (by rfl)) (@pe_and _ _ _ _ _ _ _ (@pe_not _ _ _ _ (@pe_callB _ _ _ _ _ _ _ _ _ (@isinst_k _ (K) (by rfl)) k_l_same_isinstance T.b_isinstance (@boot_b_isinstance) (@pa_c _ _ _ _ _ (@pw _ 0 _ _ (Or.inl k_l_same_l_found) (by rfl) (by decide) (by decide)) (@pa_c _ _ _ _ _ (@pe_ty _ _ _ _ k_l_same_bool T.b_bool (@boot_ty_bool) (by decide) (by decide)) (@pa_nil _) rfl) rfl) (by decide) (by decide) (by rfl) (by rfl))) (@pe_one _ _ _ _ _ (@pe_cmpR _ _ _ _ _ _ _ _ (@op_eq _) (@pw _ 0 _ _ (Or.inl k_l_same_l_found) (by rfl) (by decide) (by decide)) (@pw _ 1 _ _ (Or.inl k_l_same_l_due) (by rfl) (by decide) (by decide)) (@nomark _ _ (by decide) (by decide))))))))))), ?_⟩
    refine ⟨_, rfl, (by show 2 ≤ 10000; decide), fun p H1 n1 => ⟨y, p, d, E', rfl, hy.mono n1.sm.toE, SqT.of n1.at', _, rfl, ?_⟩⟩
    have s1 := n1.sm
    have hx1 := hx.mono s1.toE
    have hy1 := hy.mono s1.toE
    have k1 := k H1 s1
    have hx2 := hx1
    have hy2 := hy1
    cases hx1 with
    | non =>
      cases hy1
      refine iteF ⟨_, rfl, rfl, _, rfl, iteT (iteT ?_)⟩
      exact ⟨_, rfl, _, rfl, rfl, _, rfl, iteEq ⟨_, rfl, _, _, _, _, rfl, hx2.ty, kit_str _, _, rfl, _, _, _, _, rfl, hy2.ty, kit_str _, rfl, ok_same k1⟩⟩
    | str z =>
      cases hy1
      refine iteF ⟨_, rfl, rfl, _, rfl, iteF ⟨_, rfl, _, _, _, _, rfl, hy2.ty, kit_str _, _, rfl, iteT ?_⟩⟩
      exact ⟨_, rfl, _, rfl, rfl, _, rfl, iteEq ⟨_, rfl, _, _, _, _, rfl, hx2.ty, kit_str _, _, rfl, _, _, _, _, rfl, hy2.ty, kit_str _, rfl, ok_same k1⟩⟩
    | bl b =>
      cases hy1
      refine iteF ⟨_, rfl, rfl, _, rfl, iteF ⟨_, rfl, _, _, _, _, rfl, hy2.ty, kit_str _, _, rfl, iteF ⟨_, rfl, _, _, _, _, rfl, hy2.ty, kit_bool _, _, rfl, iteT ?_⟩⟩⟩
      exact ⟨_, rfl, _, _, _, _, rfl, hx2.ty, kit_bool _, _, rfl, iteT ⟨_, rfl, _, rfl, rfl, ok_same k1⟩⟩
    | int i =>
      cases hy1
      refine iteF ⟨_, rfl, rfl, _, rfl, iteF ⟨_, rfl, _, _, _, _, rfl, hy2.ty, kit_str _, _, rfl, iteF ⟨_, rfl, _, _, _, _, rfl, hy2.ty, kit_bool _, _, rfl, iteF ?_⟩⟩⟩
      exact ⟨_, rfl, _, _, _, _, rfl, hx2.ty, kit_int _, _, rfl, iteT ⟨_, rfl, _, _, _, _, rfl, hx2.ty, kit_bool _, _, rfl, _, rfl, iteT ⟨_, rfl, _, rfl, rfl, ok_same k1⟩⟩⟩
    | @lst a1 xs ds h1 ne1 r1 =>
      cases hy1 with
      | @lst a2 ys _ h2 ne2 r2 =>
      refine iteT ⟨_, rfl, _, _, _, _, rfl, hx2.ty, kit_list _, _, rfl, _, _, _, _, rfl, hy2.ty, kit_list _, rfl, _, rfl, iteSame ⟨_, rfl, _, _, _, _, rfl, hx2.ty, kit_tuple _, _, rfl, _, _, _, _, rfl, hy2.ty, kit_tuple _, rfl, _, rfl, iteSame ?_⟩⟩
      have el : xs.length = ys.length := r1.length.trans r2.length.symm
      have ed := r2.length
      refine ⟨_, rfl, a1, xs, rfl, .inl (SqL.of h1), _, rfl, a2, ys, rfl, .inl (SqL.of h2), rfl, _, rfl, ?_⟩
      rw [el]
      refine iteEq ⟨_, rfl, _, rfl, a1, a2, true, true, rfl, ⟨xs, SqL.of h1⟩, ⟨ys, SqL.of h2⟩, fun D hD => comp_each (n := ys.length) (LikeP H1 D) ?_ ⟨rfl, upd_same, same_lst hD (Same.refl _)⟩ ?_ ?_ ?_ ?_ ?_⟩
      · rw [sizeLine_eq]
        have := hd.1
        trivial
      · rintro i H' zs ⟨rfl, q1, _⟩
        exact ⟨q1, by rw [List.length_map, List.length_replicate]; exact Nat.le_refl _⟩
      · rintro i H' zs hi ⟨_, _, q⟩
        exact ⟨xs, ys, xs[i], ys[i], SqL.of (q _ _ h1), SqL.of (q _ _ h2), by simp [el, hi], by simp [hi]⟩
      · rintro H' zs ⟨_, _, q⟩
        exact ⟨xs, ys, SqL.of (q _ _ h1), SqL.of (q _ _ h2), .inl el⟩
      · rintro i H' zs x H'' hi ⟨rfl, q1, q⟩ ⟨t, u, v, ht, rfl, rfl, e1, e2⟩
        have e1' := e1 xs (SqL.of (q _ _ h1))
        have e2' := e2 ys (SqL.of (q _ _ h2))
        obtain ⟨du, f1, g1⟩ := r1.get e1'
        obtain ⟨dv, f2, g2⟩ := r2.get e2'
        rw [f1] at f2
        cases f2
        have st := q.trans (Same.new (o := .tup [u, v]) ht)
        refine ⟨t, _, rfl, SqT.of upd_same, rfl, _, _, rfl, _, _, rfl, rfl, back2, _, rfl, _, rfl, u, v, du, E', rfl, g1.mono st.toE, g2.mono st.toE, hd.2 du (List.mem_of_getElem? f1), fun H3 s3 => ?_⟩
        have qD : H3 D = some (.lst ((List.replicate i true).map V.bl)) := s3 _ _ (Same.new (o := .tup [u, v]) ht _ _ q1)
        exact ⟨qD, rep_snoc i, upd_same, same_lst hD (st.trans s3)⟩
      · rintro H' zs ⟨rfl, q1, q⟩
        refine ⟨D, List.replicate ys.length true, rfl, SqL.of q1, ?_⟩
        rw [all_rep]
        exact k H' (s1.trans q)
    | @tup a1 xs ds h1 r1 =>
      cases hy1 with
      | @tup a2 ys _ h2 r2 =>
      refine iteT ⟨_, rfl, _, _, _, _, rfl, hx2.ty, kit_list _, _, rfl, _, _, _, _, rfl, hy2.ty, kit_list _, rfl, _, rfl, iteSame ⟨_, rfl, _, _, _, _, rfl, hx2.ty, kit_tuple _, _, rfl, _, _, _, _, rfl, hy2.ty, kit_tuple _, rfl, _, rfl, iteSame ?_⟩⟩
      have el : xs.length = ys.length := r1.length.trans r2.length.symm
      have ed := r2.length
      refine ⟨_, rfl, a1, xs, rfl, .inr (SqT.of h1), _, rfl, a2, ys, rfl, .inr (SqT.of h2), rfl, _, rfl, ?_⟩
      rw [el]
      refine iteEq ⟨_, rfl, _, rfl, a1, a2, false, false, rfl, ⟨xs, SqT.of h1⟩, ⟨ys, SqT.of h2⟩, fun D hD => comp_each (n := ys.length) (LikeP H1 D) ?_ ⟨rfl, upd_same, same_lst hD (Same.refl _)⟩ ?_ ?_ ?_ ?_ ?_⟩
      · rw [sizeLine_eq]
        have := hd.1
        trivial
      · rintro i H' zs ⟨rfl, q1, _⟩
        exact ⟨q1, by rw [List.length_map, List.length_replicate]; exact Nat.le_refl _⟩
      · rintro i H' zs hi ⟨_, _, q⟩
        exact ⟨xs, ys, xs[i], ys[i], SqT.of (q _ _ h1), SqT.of (q _ _ h2), by simp [el, hi], by simp [hi]⟩
      · rintro H' zs ⟨_, _, q⟩
        exact ⟨xs, ys, SqT.of (q _ _ h1), SqT.of (q _ _ h2), .inl el⟩
      · rintro i H' zs x H'' hi ⟨rfl, q1, q⟩ ⟨t, u, v, ht, rfl, rfl, e1, e2⟩
        have e1' := e1 xs (SqT.of (q _ _ h1))
        have e2' := e2 ys (SqT.of (q _ _ h2))
        obtain ⟨du, f1, g1⟩ := r1.get e1'
        obtain ⟨dv, f2, g2⟩ := r2.get e2'
        rw [f1] at f2
        cases f2
        have st := q.trans (Same.new (o := .tup [u, v]) ht)
        refine ⟨t, _, rfl, SqT.of upd_same, rfl, _, _, rfl, _, _, rfl, rfl, back2, _, rfl, _, rfl, u, v, du, E', rfl, g1.mono st.toE, g2.mono st.toE, hd.2 du (List.mem_of_getElem? f1), fun H3 s3 => ?_⟩
        have qD : H3 D = some (.lst ((List.replicate i true).map V.bl)) := s3 _ _ (Same.new (o := .tup [u, v]) ht _ _ q1)
        exact ⟨qD, rep_snoc i, upd_same, same_lst hD (st.trans s3)⟩
      · rintro H' zs ⟨rfl, q1, q⟩
        refine ⟨D, List.replicate ys.length true, rfl, SqL.of q1, ?_⟩
        rw [all_rep]
        exact k H' (s1.trans q)
end
end K16
namespace K16
open PySem L2
set_option maxHeartbeats 4000000
theorem for_enumK {K : PySem.W.Frag} {a : Addr} {c : Bool} {xs : List V} {g : TG} {tb : TS} {D : Ends} {σ : St} {H : Hp} (Pv : Nat → St → Hp → Prop) (h0 : Pv 0 σ H) (hl : ∀ i σ H, i ≤ xs.length → Pv i σ H → SqC K H a xs c)
    (hs : ∀ i x T σ H, xs[i]? = some x → H T = none → Pv i σ H → g (.ref T) σ (upd H T (.tup [.int (i : Int), x])) fun σ2 H2 => tb { D with nx := Pv (i + 1), ct := Pv (i + 1), bk := D.nx } σ2 H2) (hd : ∀ σ H, Pv xs.length σ H → D.nx σ H) :
    ∃ W : Nat → Nat → St → Hp → Prop, (∃ m, W 0 m σ H) ∧ ∀ i m σ H, W i m σ H →
      ((IteK K a c).stop i H ∧ D.nx σ H) ∨ ((IteK K a c).go i H ∧ ∃ N : St → Hp → Prop, (∀ σ' H', N σ' H' → ∃ m', m' < m ∧ W (i + 1) m' σ' H') ∧ ∀ x H', (IteK K a c).yld i H x H' → g x σ H' fun σ2 H2 => tb { D with nx := N, ct := N, bk := D.nx } σ2 H2) := by
  refine ⟨fun i m σ H => m = xs.length - i ∧ i ≤ xs.length ∧ Pv i σ H, ⟨xs.length, by simp, Nat.zero_le _, h0⟩, ?_⟩
  rintro i m σ H ⟨rfl, hi, p⟩
  have q1 := hl i σ H hi p
  by_cases hlt : i < xs.length
  · refine .inr ⟨⟨xs, xs[i], q1, by simp [hlt]⟩, Pv (i + 1), fun σ' H' p' => ⟨xs.length - (i + 1), by trivial, rfl, hlt, p'⟩, fun x H' y => ?_⟩
    obtain ⟨T, u, hT, rfl, rfl, e1⟩ := y
    exact hs i u T σ H (e1 xs q1) hT p
  · have e : i = xs.length := by trivial
    subst e
    exact .inl ⟨⟨xs, q1, rfl⟩, hd _ _ p⟩
theorem net_inv2 {E : Addr → Prop} {H : Hp} {v : V} {ls : List (List Nat)} {ts : List TieD} (h : IsD E H v (netD ls ts)) : Ex4 fun a p q ys => v = .ref a ∧ H a = some (.tup [.ref p, .ref q]) ∧ H p = some (.tup (ls.map strV)) ∧ H q = some (.tup ys) ∧ IsAll E H ys (ts.map tieD) := by
  have sall : ∀ {ls : List (List Nat)} {xs : List V}, IsAll E H xs (ls.map fun l => PyData.str (S l)) → xs = ls.map strV := by
    intro ls
    induction ls with
    | nil => intro xs h; cases h; rfl
    | cons l r ih =>
      intro xs h
      cases h with
      | cons h1 h2 => cases h1; rw [ih h2]; rfl
  cases h with
  | @tup a xs _ h r =>
    cases r with
    | cons h1 r =>
    cases r with
    | cons h2 r =>
    cases r
    cases h1 with
    | @tup p ps _ hp rp =>
    cases h2 with
    | @tup q ys _ hq rq =>
      have e := sall rp
      subst e
      exact ⟨a, p, q, ys, rfl, h, hp, hq, rq⟩
theorem tie_inv2 {E : Addr → Prop} {H : Hp} {v : V} {t : TieD} (h : IsD E H v (tieD t)) : Ex4 fun a om og op => v = .ref a ∧ H a = some (.tup [.str (S t.bg), .str (S t.en), .ref om, .ref og, .ref op]) ∧ H om = some (fr t.most) ∧ H og = some (fr t.gain) ∧ H op = some (fr t.price) := by
  cases h with
  | @tup a xs _ h r =>
    cases r with
    | @cons u1 _ _ _ h1 r =>
    cases r with
    | @cons u2 _ _ _ h2 r =>
    cases r with
    | @cons u3 _ _ _ h3 r =>
    cases r with
    | @cons u4 _ _ _ h4 r =>
    cases r with
    | @cons u5 _ _ _ h5 r =>
    cases r
    cases h1
    cases h2
    obtain ⟨om, rfl, ho⟩ := isF_inv h3
    obtain ⟨og, rfl, hg⟩ := isF_inv h4
    obtain ⟨op, rfl, hp⟩ := isF_inv h5
    exact ⟨a, om, og, op, rfl, h, ho, hg, hp⟩
theorem dec_str {a b : List Nat} : decide (V.str (S a) = V.str (S b)) = decide (a = b) := by
  by_cases h : a = b
  · subst h; simp
  · rw [decide_eq_false h, decide_eq_false]
    intro z
    injection z with z
    exact h (S_inj z)
theorem all_snoc {H H' : Hp} {D : Addr} {ys zs : List V} {ds : List PyData} {v : V} {d : PyData} (c : Ch H D zs H') (hD : H D = some (.lst ys)) (i : IsAll ED H ys ds) (iv : IsD ED H v d) : IsAll ED H' (ys ++ [v]) (ds ++ [d]) :=
  (i.mono ⟨fun _ _ n _ => absurd trivial n, fun _ _ e => c.tup e hD⟩).append (.cons (iv.tupC c hD) .nil)
theorem Same.ch {H H1 H2 : Hp} {D : Addr} {xs : List V} (s : Same H H1) (c : Ch H1 D xs H2) (hD : H D = none) : Same H H2 := fun b o h => c.ol b o (fun z => by rw [z, hD] at h; cases h) (s b o h)
theorem dec_congr {p q : Prop} [Decidable p] [Decidable q] (h : p ↔ q) : decide p = decide q := decide_eq_decide.mpr h
theorem gb11 : Gb 1 1 (1, 1) := ⟨show (1 : Int).natAbs < 2 ^ 1 by decide, show (1 : Int).natAbs < 2 ^ 1 by decide, by decide⟩
structure SD where
  n : Nat
  bk : Bool
  st : List Nat
  en : List Nat
  room : KM.Fra
  gain : KM.Fra
abbrev sD (s : SD) : PyData := .tuple [.int s.n, .bool s.bk, .str (S s.st), .str (S s.en), frD s.room, frD s.gain]
def stepsT (i : Nat) (t : TieD) (p : KM.Fra) : List SD := (if p.1 * t.most.2 < t.most.1 * p.2 then [⟨i, false, t.bg, t.en, lMin t.most p, t.gain⟩] else []) ++ (if 0 < p.1 then [⟨i, true, t.en, t.bg, KM.lTim p t.gain, lOvr (1, 1) t.gain⟩] else [])
def stepsAt (ts : List TieD) (ps : List KM.Fra) (j : Nat) : List SD := match ts[j]?, ps[j]? with
  | some t, some p => stepsT j t p
  | _, _ => []
def stepsN (ts : List TieD) (ps : List KM.Fra) (n : Nat) : List SD := (List.range n).flatMap (stepsAt ts ps)
theorem stepsAt_of {ts : List TieD} {ps : List KM.Fra} {n : Nat} {t : TieD} {p : KM.Fra} (h1 : ts[n]? = some t) (h2 : ps[n]? = some p) : stepsAt ts ps n = stepsT n t p := by
  unfold stepsAt; rw [h1, h2]
theorem stepsN_succ {ts : List TieD} {ps : List KM.Fra} {n : Nat} {t : TieD} {p : KM.Fra} (h1 : ts[n]? = some t) (h2 : ps[n]? = some p) : stepsN ts ps (n + 1) = stepsN ts ps n ++ stepsT n t p := by
  unfold stepsN
  rw [List.range_succ, List.flatMap_append, List.flatMap_cons, List.flatMap_nil, List.append_nil, stepsAt_of h1 h2]
theorem stepsT_len (i : Nat) (t : TieD) (p : KM.Fra) : (stepsT i t p).length ≤ 2 := by
  unfold stepsT
  rw [List.length_append]
  split <;> split <;> simp
theorem stepsAt_len (ts : List TieD) (ps : List KM.Fra) (j : Nat) : (stepsAt ts ps j).length ≤ 2 := by
  unfold stepsAt
  split
  · exact stepsT_len _ _ _
  · simp
theorem stepsN_len (ts : List TieD) (ps : List KM.Fra) : ∀ n, (stepsN ts ps n).length ≤ 2 * n
  | 0 => by simp [stepsN]
  | n + 1 => by
    have h := stepsN_len ts ps n
    have h2 := stepsAt_len ts ps n
    unfold stepsN at h ⊢
    rw [List.range_succ, List.flatMap_append, List.length_append, List.flatMap_cons, List.flatMap_nil, List.append_nil]
    trivial
structure TGd (ls : List (List Nat)) (t : TieD) : Prop where
  b : t.bg ∈ ls
  e : t.en ∈ ls
  ne : t.bg ≠ t.en
  fm : Gb 20 3 t.most
  fg : Gb 6 6 t.gain
  g1 : 1 ≤ t.gain.1
  fp : Gb 24 24 t.price
section
variable {P : Program} {w : World} {K : PySem.W.Frag} {mg : Str → Option Value} {base : Heap}
theorem sz0 : Sz 4000 (0 : Int) := Sz.mono (m := 1) (show (0 : Int).natAbs < 2 ^ 1 by decide) (by decide)
theorem sz1 : Sz 4000 (1 : Int) := Sz.mono (m := 1) (show (1 : Int).natAbs < 2 ^ 1 by decide) (by decide)
theorem gz {a b : Nat} {p : KM.Fra} (h : Gb a b p) (ha : a ≤ 4000) (hb : b ≤ 4000) : Sz 4000 p.1 ∧ Sz 4000 p.2 := ⟨h.n.mono ha, h.d.mono hb⟩
theorem gd {a b c d : Nat} {p q : KM.Fra} (h : Gb a b p) (k : Gb c d q) : p.2 * q.2 ≠ 0 := Int.mul_ne_zero (by have := h.pos; trivial) (by have := k.pos; trivial)
inductive spSt1_ (vs : List V) (H : Hp) (Q : VK) : Prop
  | mk (i : Nat) (v u : V) (t : TieD) (p : KM.Fra) (a b : Nat) (ls : List (List Nat)) (h0 : vs = [.int (i : Int), v, u]) (h1 : IsD ED H v (tieD t)) (h2 : IsD ED H u (frD p)) (h3 : TGd ls t) (h4 : Gb a b p) (h5 : a ≤ 3000) (h6 : b ≤ 3000) (h7 : ∀ L xs H', Same H H' → H L = none → H' L = some (.lst xs) → IsAll ED H' xs ((stepsT i t p).map sD) → Q (.ref L) H')
def spSt1 : Sp := fun vs H Q _ => spSt1_  vs H Q
theorem cmp_lt {i j : Int} : decide (cmpI i j < 0) = decide (i < j) := by
  unfold cmpI
  by_cases h : i < j
  · rw [if_pos h, decide_eq_true h]; rfl
  · rw [if_neg h, decide_eq_false h]
    by_cases h2 : j < i
    · rw [if_pos h2]; rfl
    · rw [if_neg h2]; rfl
theorem cmp_gt {i j : Int} : decide (0 < cmpI i j) = decide (j < i) := by
  unfold cmpI
  by_cases h : i < j
  · rw [if_pos h, decide_eq_false (show ¬ j < i by trivial)]; rfl
  · rw [if_neg h]
    by_cases h2 : j < i
    · rw [if_pos h2, decide_eq_true h2]; rfl
    · rw [if_neg h2, decide_eq_false h2]; rfl
theorem ok_steps_of (T : Txt K mg) : FnOk P w K mg base CX0 4 T.f_steps_of T.d_steps_of ["number", "tie", "much"] spSt1 := by
  have G_compared := ok_compared (P := P) (w := w) (base := base) T
  have G_taken := ok_taken (P := P) (w := w) (base := base) T
  have G_times := ok_times (P := P) (w := w) (base := base) T
  have G_over := ok_over (P := P) (w := w) (base := base) T
  refine T.F_steps_of.ok sc_steps_of (fun vs H Q E h => ?_) (fun cdv A outer s H vs Q E hr h => ?_)
  · obtain ⟨i, v, u, t, p, a, b, ls, rfl, _⟩ := h
    rfl
  · obtain ⟨i, v, u, t, p, ba, bb, ls, rfl, hv, hu, tc, gp, hba, hbb, k⟩ := h
    obtain ⟨o, om, og, op, rfl, ho, hom, hog, hop⟩ := tie_inv2 hv
    obtain ⟨ou, rfl, hou⟩ := isF_inv hu
    obtain ⟨m1, m2⟩ := gz tc.fm (by decide) (by decide)
    obtain ⟨g1, g2⟩ := gz tc.fg (by decide) (by decide)
    obtain ⟨p1, p2⟩ := gz gp (by trivial) (by trivial)
    refine ⟨_, (@pss_cons _ _ _ _ _ (@ps_asg _ _ _ _ _ _ (@pw _ 1 _ _ (Or.inl k_steps_of_tie) (by rfl) (by decide) (by decide)) (@pg_tup_k _ (K) _ _ _ _ (5) rfl (@pgs_cons _ _ _ _ _ (@pg_name _ _ (3) _ sc_steps_of.nd rfl (Or.inl k_steps_of_begin) (by first | exact .inl rfl | exact .inr rfl | assumption)) (@pgs_cons _ _ _ _ _ (@pg_name _ _ (4) _ sc_steps_of.nd rfl (Or.inl k_steps_of_end) (by first | exact .inl rfl | exact .inr rfl | assumption)) (@pgs_cons _ _ _ _ _ (@pg_name _ _ (5) _ sc_steps_of.nd rfl (Or.inl k_steps_of_most) (by first | exact .inl rfl | exact .inr rfl | assumption)) (@pgs_cons _ _ _ _ _ (@pg_name _ _ (6) _ sc_steps_of.nd rfl (Or.inl k_steps_of_gain) (by first | exact .inl rfl | exact .inr rfl | assumption)) (@pgs_cons _ _ _ _ _ (@pg_name _ _ (7) _ sc_steps_of.nd rfl (Or.inl k_steps_of_price) (by first | exact .inl rfl | exact .inr rfl | assumption)) (@pgs_nil _) (by rfl)) (by rfl)) (by rfl)) (by rfl)) (by rfl)) (by rfl) (by rfl) (by rfl)) (by rfl) (by rfl) (by rfl)) (@pss_cons _ _ _ _ _ (@ps_set _ _ (8) _ _ _ _ sc_steps_of.nd rfl (Or.inl k_steps_of_steps) (@pe_lstA _ _ _ _ (@pa_nil _)) (by rfl) (by first | exact .inl rfl | exact .inr rfl | assumption)) (@pss_cons _ _ _ _ _ (@ps_if _ _ _ _ _ _ _ _ (@pt_cmpR _ _ _ _ _ _ _ _ (@op_lt _) (@pe_call _ _ _ _ _ _ _ _ _ _ _ _ _ _ _ _ G_compared (hr.mono (by decide)) k_steps_of_compared T.m_compared T.F_compared.kp T.B_compared .nil (@pass0 _) (@pa_c _ _ _ _ _ (@pw _ 2 _ _ (Or.inl k_steps_of_much) (by rfl) (by decide) (by decide)) (@pa_c _ _ _ _ _ (@pw _ 5 _ _ (Or.inl k_steps_of_most) (by rfl) (by decide) (by decide)) (@pa_nil _) rfl) rfl) (by decide) (by rfl) (by rfl)) (@pe_int _ _ _ _) (@nomark _ _ (by decide) (by decide))) (@pss_one _ _ _ (@ps_expr _ _ _ _ (@pe_bm_k _ (K) _ _ _ _ _ _ _ _ _ _ _ PySem.F.plainAttrs_list PySem.F.slot_list_append PySem.F.type_list_append (@mt_appendA _) (@pw _ 8 _ _ (Or.inl k_steps_of_steps) (by rfl) (by decide) (by decide)) (@pa_c _ _ _ _ _ (@pe_tupA _ _ _ _ _ (@pa_c _ _ _ _ _ (@pw _ 0 _ _ (Or.inl k_steps_of_number) (by rfl) (by decide) (by decide)) (@pa_c _ _ _ _ _ (@pe_bl _ _ _ _) (@pa_c _ _ _ _ _ (@pw _ 3 _ _ (Or.inl k_steps_of_begin) (by rfl) (by decide) (by decide)) (@pa_c _ _ _ _ _ (@pw _ 4 _ _ (Or.inl k_steps_of_end) (by rfl) (by decide) (by decide)) (@pa_c _ _ _ _ _ (@pe_call _ _ _ _ _ _ _ _ _ _ _ _ _ _ _ _ G_taken (hr.mono (by decide)) k_steps_of_taken T.m_taken T.F_taken.kp T.B_taken .nil (@pass0 _) (@pa_c _ _ _ _ _ (@pw _ 5 _ _ (Or.inl k_steps_of_most) (by rfl) (by decide) (by decide)) (@pa_c _ _ _ _ _ (@pw _ 2 _ _ (Or.inl k_steps_of_much) (by rfl) (by decide) (by decide)) (@pa_nil _) rfl) rfl) (by decide) (by rfl) (by rfl)) (@pa_c _ _ _ _ _ (@pw _ 6 _ _ (Or.inl k_steps_of_gain) (by rfl) (by decide) (by decide)) (@pa_nil _) rfl) rfl) rfl) rfl) rfl) rfl)) (@pa_nil _) rfl) (by rfl) (by rfl) (by rfl) (by rfl) (by rfl) (by rfl)) (by rfl))) (@pss_nil _)) (@pss_cons _ _ _ _ _ (@ps_if _ _ _ _ _ _ _ _ (@pt_cmpR _ _ _ _ _ _ _ _ (@op_gt _) (@pe_call _ _ _ _ _ _ _ _ _ _ _ _ _ _ _ _ G_compared (hr.mono (by decide)) k_steps_of_compared T.m_compared T.F_compared.kp T.B_compared .nil (@pass0 _) (@pa_c _ _ _ _ _ (@pw _ 2 _ _ (Or.inl k_steps_of_much) (by rfl) (by decide) (by decide)) (@pa_c _ _ _ _ _ (@pe_tupA _ _ _ _ _ (@pa_c _ _ _ _ _ (@pe_int _ _ _ _) (@pa_c _ _ _ _ _ (@pe_int _ _ _ _) (@pa_nil _) rfl) rfl)) (@pa_nil _) rfl) rfl) (by decide) (by rfl) (by rfl)) (@pe_int _ _ _ _) (@nomark _ _ (by decide) (by decide))) (@pss_one _ _ _ (@ps_expr _ _ _ _ (@pe_bm_k _ (K) _ _ _ _ _ _ _ _ _ _ _ PySem.F.plainAttrs_list PySem.F.slot_list_append PySem.F.type_list_append (@mt_appendA _) (@pw _ 8 _ _ (Or.inl k_steps_of_steps) (by rfl) (by decide) (by decide)) (@pa_c _ _ _ _ _ (@pe_tupA _ _ _ _ _ (@pa_c _ _ _ _ _ (@pw _ 0 _ _ (Or.inl k_steps_of_number) (by rfl) (by decide) (by decide)) (@pa_c _ _ _ _ _ (@pe_bl _ _ _ _) (@pa_c _ _ _ _ _ (@pw _ 4 _ _ (Or.inl k_steps_of_end) (by rfl) (by decide) (by decide)) (@pa_c _ _ _ _ _ (@pw _ 3 _ _ (Or.inl k_steps_of_begin) (by rfl) (by decide) (by decide)) (@pa_c _ _ _ _ _ (@pe_call _ _ _ _ _ _ _ _ _ _ _ _ _ _ _ _ G_times (hr.mono (by decide)) k_steps_of_times T.m_times T.F_times.kp T.B_times .nil (@pass0 _) (@pa_c _ _ _ _ _ (@pw _ 2 _ _ (Or.inl k_steps_of_much) (by rfl) (by decide) (by decide)) (@pa_c _ _ _ _ _ (@pw _ 6 _ _ (Or.inl k_steps_of_gain) (by rfl) (by decide) (by decide)) (@pa_nil _) rfl) rfl) (by decide) (by rfl) (by rfl)) (@pa_c _ _ _ _ _ (@pe_call _ _ _ _ _ _ _ _ _ _ _ _ _ _ _ _ G_over (hr.mono (by decide)) k_steps_of_over T.m_over T.F_over.kp T.B_over .nil (@pass0 _) (@pa_c _ _ _ _ _ (@pe_tupA _ _ _ _ _ (@pa_c _ _ _ _ _ (@pe_int _ _ _ _) (@pa_c _ _ _ _ _ (@pe_int _ _ _ _) (@pa_nil _) rfl) rfl)) (@pa_c _ _ _ _ _ (@pw _ 6 _ _ (Or.inl k_steps_of_gain) (by rfl) (by decide) (by decide)) (@pa_nil _) rfl) rfl) (by decide) (by rfl) (by rfl)) (@pa_nil _) rfl) rfl) rfl) rfl) rfl) rfl)) (@pa_nil _) rfl) (by rfl) (by rfl) (by rfl) (by rfl) (by rfl) (by rfl)) (by rfl))) (@pss_nil _)) (@pss_one _ _ _ (@ps_ret _ _ _ _ (@pw _ 8 _ _ (Or.inl k_steps_of_steps) (by rfl) (by decide) (by decide)))))))), ?_⟩
    refine ⟨_, rfl, o, _, rfl, SqT.of ho, rfl, _, _, rfl, _, _, rfl, _, _, rfl, _, _, rfl, _, _, rfl, rfl, ?_⟩
    dsimp only
    refine seqA fun Q1 nA => ⟨(by show 0 ≤ 10000; decide), fun L H1 n1 => nA _ _ ?_⟩
    have hou1 := n1.sm _ _ hou
    have hom1 := n1.sm _ _ hom
    have hog1 := n1.sm _ _ hog
    refine joinS (fun σ' H' => ∃ xs, σ' = [some (.int (i : Int)), some (.ref o), some (.ref ou), some (.str (S t.bg)), some (.str (S t.en)), some (.ref om), some (.ref og), some (.ref op), some (.ref L)] ∧ Same H H' ∧ H' L = some (.lst xs) ∧ IsAll ED H' xs ((if p.1 * t.most.2 < t.most.1 * p.2 then [(⟨i, false, t.bg, t.en, lMin t.most p, t.gain⟩ : SD)] else []).map sD)) ?_ fun nx => ?_
    · rintro σ' H2 ⟨xs, rfl, s2, hL, iL⟩
      refine joinS (fun σ' H' => ∃ xs, σ' = [some (.int (i : Int)), some (.ref o), some (.ref ou), some (.str (S t.bg)), some (.str (S t.en)), some (.ref om), some (.ref og), some (.ref op), some (.ref L)] ∧ Same H H' ∧ H' L = some (.lst xs) ∧ IsAll ED H' xs ((stepsT i t p).map sD)) ?_ fun nx => ?_
      · rintro σ' H3 ⟨xs, rfl, s3, hL, iL⟩
        exact ⟨_, rfl, k L xs H3 s3 n1.fr hL iL⟩
      · have lx : xs.length ≤ 1 := by
          rw [iL.length, List.length_map]; split <;> simp
        have hou2 := s2 _ _ hou
        refine ⟨_, rfl, (by show 2 ≤ 10000; decide), fun z H3 n3 => ⟨ou, z, _, _, _, _, rfl, n3.sm _ _ hou2, n3.at', p1, p2, sz0, sz1, _, _, rfl, rfl, _, rfl, ?_⟩⟩
        have e0 : decide (cmpI (p.1 * 1) (0 * p.2) > 0) = decide (0 < p.1) := by
          show decide (0 < cmpI (p.1 * 1) (0 * p.2)) = _
          rw [cmp_gt, Int.mul_one, Int.zero_mul]
        have hL3 := n3.sm _ _ hL
        have iL3 := iL.mono n3.sm.toE
        have s3 := s2.trans n3.sm
        rw [e0]
        by_cases hp : 0 < p.1
        · rw [decide_eq_true hp]
          refine iteT (dropQ fun Q2 nQ => ?_)
          refine ⟨_, rfl, .inl ⟨rfl, _, SqL.of hL3⟩, _, rfl, _, rfl, _, rfl, _, rfl, _, rfl, ou, og, _, _, _, _, rfl, s3 _ _ hou, s3 _ _ hog, ⟨p1, p2, g1, g2, gd gp tc.fg⟩, fun q1 H4 n4 => ⟨(by show 2 ≤ 10000; decide), fun q2 H5 n5 => ⟨_, rfl, q2, og, _, _, _, _, rfl, n5.at', n5.sm _ _ (n4.sm _ _ (s3 _ _ hog)), ⟨sz1, sz1, g1, g2, (by show (1 : Int) * t.gain.1 ≠ 0; have := tc.g1; trivial)⟩, fun q3 H6 n6 => ⟨(by show 6 ≤ 10000; decide), fun q4 H7 n7 => ?_⟩⟩⟩⟩
          have s37 := ((n4.sm.trans n5.sm).trans n6.sm).trans n7.sm
          have hL7 := s37 _ _ hL3
          refine ⟨L, _, _, rfl, rfl, hL7, by trivial, fun H8 c8 => nQ _ _ (nx _ _ ⟨_, rfl, Same.ch (s3.trans s37) c8 n1.fr, c8.at', ?_⟩)⟩
          have es : stepsT i t p = (if p.1 * t.most.2 < t.most.1 * p.2 then [(⟨i, false, t.bg, t.en, lMin t.most p, t.gain⟩ : SD)] else []) ++ [⟨i, true, t.en, t.bg, KM.lTim p t.gain, lOvr (1, 1) t.gain⟩] := by unfold stepsT; rw [if_pos hp]
          rw [es, List.map_append]
          refine all_snoc c8 hL7 (iL3.mono s37.toE) ?_
          exact .tup n7.at' (.cons (.int _) (.cons (.bl _) (.cons (.str _) (.cons (.str _) (.cons (isF (p := KM.lTim p t.gain) (n7.sm _ _ (n6.sm _ _ (n5.sm _ _ n4.at')))) (.cons (isF (p := lOvr (1, 1) t.gain) (n7.sm _ _ n6.at')) .nil))))))
        · rw [decide_eq_false hp]
          refine iteF (nx _ _ ⟨xs, rfl, s3, hL3, ?_⟩)
          have es : stepsT i t p = (if p.1 * t.most.2 < t.most.1 * p.2 then [(⟨i, false, t.bg, t.en, lMin t.most p, t.gain⟩ : SD)] else []) := by unfold stepsT; rw [if_neg hp, List.append_nil]
          rw [es]
          exact iL3
    · refine ⟨_, rfl, _, rfl, ou, om, _, _, _, _, rfl, hou1, hom1, p1, p2, m1, m2, _, _, rfl, rfl, _, rfl, ?_⟩
      rw [cmp_lt]
      by_cases hp : p.1 * t.most.2 < t.most.1 * p.2
      · rw [decide_eq_true hp]
        refine iteT (dropQ fun Q2 nQ => ?_)
        refine ⟨_, rfl, .inl ⟨rfl, _, SqL.of n1.at'⟩, _, rfl, _, rfl, _, rfl, _, rfl, _, rfl, om, ou, _, _, _, _, rfl, hom1, hou1, ⟨m1, m2, p1, p2, gd tc.fm gp⟩, fun q1 H4 n4 => ⟨_, rfl, (by show 6 ≤ 10000; decide), fun q4 H7 n7 => ?_⟩⟩
        have s17 := n4.sm.trans n7.sm
        have hL7 := s17 _ _ n1.at'
        refine ⟨L, _, _, rfl, rfl, hL7, by simp, fun H8 c8 => nQ _ _ (nx _ _ ⟨_, rfl, Same.ch (n1.sm.trans s17) c8 n1.fr, c8.at', ?_⟩)⟩
        rw [if_pos hp]
        refine all_snoc (ds := []) c8 hL7 .nil ?_
        exact .tup n7.at' (.cons (.int _) (.cons (.bl _) (.cons (.str _) (.cons (.str _) (.cons (isF (p := lMin t.most p) (n7.sm _ _ n4.at')) (.cons (isF (p := t.gain) (s17 _ _ hog1)) .nil))))))
      · rw [decide_eq_false hp]
        refine iteF (nx _ _ ⟨[], rfl, n1.sm, n1.at', ?_⟩)
        rw [if_neg hp]
        exact .nil
end
end K16
namespace K16
open PySem L2
set_option maxHeartbeats 4000000
section
variable {P : Program} {w : World} {K : PySem.W.Frag} {mg : Str → Option Value} {base : Heap}
inductive spLS_ (vs : List V) (H : Hp) (Q : VK) : Prop
  | mk (v : V) (sa : Addr) (ls : List (List Nat)) (ts : List TieD) (xs : List V) (ps : List KM.Fra) (a b : Nat) (h0 : vs = [v, .ref sa]) (h1 : IsD ED H v (netD ls ts)) (h2 : (∀ t ∈ ts, TGd ls t)) (h3 : ts.length ≤ 40) (h4 : H sa = some (.lst xs)) (h5 : IsAll ED H xs (ps.map frD)) (h6 : ps.length = ts.length) (h7 : (∀ p ∈ ps, Gb a b p)) (h8 : a ≤ 3000) (h9 : b ≤ 3000) (h10 : ∀ L zs H', Same H H' → H L = none → H' L = some (.lst zs) → IsAll ED H' zs ((stepsN ts ps ts.length).map sD) → Q (.ref L) H')
def spLS : Sp := fun vs H Q _ => spLS_  vs H Q
theorem ok_left_steps (T : Txt K mg) : FnOk P w K mg base CX0 5 T.f_left_steps T.d_left_steps ["net", "stream"] spLS := by
  have G_steps_of := ok_steps_of (P := P) (w := w) (base := base) T
  refine T.F_left_steps.ok sc_left_steps (fun vs H Q E h => ?_) (fun cdv A outer s H vs Q E hr h => ?_)
  · obtain ⟨v, sa, ls, ts, xs, ps, a, b, rfl, _⟩ := h
    rfl
  · obtain ⟨v, sa, ls, ts, xs, ps, ba, bb, rfl, hv, tc, h40, hsa, ips, lps, gp, hba, hbb, k⟩ := h
    obtain ⟨na, pa, ta, ys, rfl, hna, hpa, hta, ity⟩ := net_inv2 hv
    have lys : ys.length = ts.length := by rw [ity.length, List.length_map]
    refine ⟨_, (@pss_cons _ _ _ _ _ (@ps_set _ _ (2) _ _ _ _ sc_left_steps.nd rfl (Or.inl k_left_steps_steps) (@pe_lstA _ _ _ _ (@pa_nil _)) (by rfl) (by first | exact .inl rfl | exact .inr rfl | assumption)) (@pss_cons _ _ _ _ _ (@ps_for _ _ _ _ _ _ _ _ PassesOwn.never rfl (@pi_enumK _ (K) _ _ _ _ _ _ _ k_left_steps_enumerate T.b_enumerate (@pa_c _ _ _ _ _ (@pe_ix _ _ _ _ _ _ _ (@ixT_k _ (K) (by rfl)) (@pw _ 0 _ _ (Or.inl k_left_steps_net) (by rfl) (by decide) (by decide)) (@pe_int _ _ _ _) (fun _ _ => rfl)) (@pa_nil _) rfl) (by rfl) (by rfl)) (@pg_tup_k _ (K) _ _ _ _ (2) rfl (@pgs_cons _ _ _ _ _ (@pg_name _ _ (3) _ sc_left_steps.nd rfl (Or.inl k_left_steps_number) (by first | exact .inl rfl | exact .inr rfl | assumption)) (@pgs_cons _ _ _ _ _ (@pg_name _ _ (4) _ sc_left_steps.nd rfl (Or.inl k_left_steps_tie) (by first | exact .inl rfl | exact .inr rfl | assumption)) (@pgs_nil _) (by rfl)) (by rfl)) (by rfl) (by rfl) (by rfl)) (@pss_one _ _ _ (@ps_expr _ _ _ _ (@pe_bm_k _ (K) _ _ _ _ _ _ _ _ _ _ _ PySem.F.plainAttrs_list PySem.F.slot_list_extend PySem.F.type_list_extend (@mt_extendA _) (@pw _ 2 _ _ (Or.inl k_left_steps_steps) (by rfl) (by decide) (by decide)) (@pa_c _ _ _ _ _ (@pe_call _ _ _ _ _ _ _ _ _ _ _ _ _ _ _ _ G_steps_of (hr.mono (by decide)) k_left_steps_steps_of T.m_steps_of T.F_steps_of.kp T.B_steps_of .nil (@pass0 _) (@pa_c _ _ _ _ _ (@pw _ 3 _ _ (Or.inl k_left_steps_number) (by rfl) (by decide) (by decide)) (@pa_c _ _ _ _ _ (@pw _ 4 _ _ (Or.inl k_left_steps_tie) (by rfl) (by decide) (by decide)) (@pa_c _ _ _ _ _ (@pe_ix _ _ _ _ _ _ _ (@ixL_k _ (K) (by rfl)) (@pw _ 1 _ _ (Or.inl k_left_steps_stream) (by rfl) (by decide) (by decide)) (@pw _ 3 _ _ (Or.inl k_left_steps_number) (by rfl) (by decide) (by decide)) (fun _ _ => rfl)) (@pa_nil _) rfl) rfl) rfl) (by decide) (by rfl) (by rfl)) (@pa_nil _) rfl) (by rfl) (by rfl) (by rfl) (by rfl) (by rfl) (by rfl)) (by rfl))) (by intro _; rfl)) (@pss_one _ _ _ (@ps_ret _ _ _ _ (@pw _ 2 _ _ (Or.inl k_left_steps_steps) (by rfl) (by decide) (by decide)))))), ?_⟩
    refine seqA fun Q1 nA => ⟨(by show 0 ≤ 10000; decide), fun L H1 n1 => nA _ _ ?_⟩
    refine seqH fun DB nB => ?_
    refine ⟨_, rfl, na, _, _, _, rfl, rfl, SqT.of (n1.sm _ _ hna), rfl, ta, false, rfl, ⟨ys, SqT.of (n1.sm _ _ hta)⟩, for_enumK (xs := ys) (fun i σ H' => Ex3 fun v3 v4 zs => σ = [some (.ref na), some (.ref sa), some (.ref L), v3, v4] ∧ H' L = some (.lst zs) ∧ IsAll ED H' zs ((stepsN ts ps i).map sD) ∧ Same H H') ⟨_, _, [], rfl, n1.at', .nil, n1.sm⟩ ?_ ?_ ?_⟩
    · rintro i σ H' _ ⟨v3, v4, zs, rfl, _, _, sm⟩
      exact SqT.of (sm _ _ hta)
    · rintro i x T' σ J0 hx hT ⟨v3, v4, zs, rfl, hL, iL, sm⟩
      have hi : i < ys.length := (List.getElem?_eq_some_iff.mp hx).1
      have nT : Nw J0 T' (.tup [.int (i : Int), x]) (upd J0 T' (.tup [.int (i : Int), x])) := .mk' hT
      generalize upd J0 T' (.tup [.int (i : Int), x]) = J1 at nT ⊢
      obtain ⟨dy, edy, gy⟩ := ity.get hx
      rw [List.getElem?_map] at edy
      obtain ⟨t, et, rfl⟩ := Option.map_eq_some_iff.mp edy
      have ep : ps[i]? = some ps[i] := List.getElem?_eq_getElem (by trivial)
      have lx : xs.length = ps.length := by rw [ips.length, List.length_map]
      have exs : xs[i]? = some xs[i] := List.getElem?_eq_getElem (by trivial)
      obtain ⟨dp, edp, gx⟩ := ips.get exs
      rw [List.getElem?_map, ep] at edp
      obtain rfl : frD ps[i] = dp := Option.some.inj edp
      have s1 := sm.trans nT.sm
      have llen : zs.length ≤ 80 := by
        rw [iL.length, List.length_map]
        have := stepsN_len ts ps i
        trivial
      refine ⟨T', _, rfl, SqT.of nT.at', rfl, _, _, rfl, _, _, rfl, rfl, ?_⟩
      refine ⟨_, rfl, .inl ⟨rfl, _, SqL.of (nT.sm _ _ hL)⟩, _, rfl, _, rfl, _, rfl, _, rfl, sa, _, _, _, rfl, rfl, SqL.of (s1 _ _ hsa), atI_nat exs, i, x, xs[i], t, ps[i], ba, bb, ls, rfl, gy.sm s1, gx.sm s1, tc t (List.mem_of_getElem? et), gp _ (List.mem_of_getElem? ep), hba, hbb, fun L2 z2 J2 s2 f2 e2 i2 => ?_⟩
      have hL2 := s2 _ _ (nT.sm _ _ hL)
      have l2 : z2.length ≤ 2 := by
        rw [i2.length, List.length_map]; exact stepsT_len _ _ _
      refine ⟨L, L2, zs, z2, rfl, rfl, hL2, e2, by trivial, fun J3 c3 => ⟨_, _, _, rfl, c3.at', ?_, Same.ch (s1.trans s2) c3 n1.fr⟩⟩
      rw [stepsN_succ et ep, List.map_append]
      have up : ∀ {zs : List V} {ds : List PyData}, IsAll ED J2 zs ds → IsAll ED J3 zs ds := fun h => h.mono ⟨fun _ _ n _ => absurd trivial n, fun _ _ e => c3.tup e hL2⟩
      exact (up ((iL.mono nT.sm.toE).mono s2.toE)).append (up i2)
    · rintro σ H' ⟨v3, v4, zs, rfl, hL, iL, sm⟩
      rw [lys] at iL
      exact nB _ _ ⟨_, rfl, k L zs H' sm n1.fr hL iL⟩
theorem ok_l_steps_of (T : Txt K mg) : FnOk P w K mg base CX0 3 T.f_l_steps_of T.d_l_steps_of ["_law_net", "_law_stream"] spLS := by
  have G_l_above := ok_l_above (P := P) (w := w) (base := base) T
  have G_l_minus := ok_l_minus (P := P) (w := w) (base := base) T
  have G_l_product := ok_l_product (P := P) (w := w) (base := base) T
  have G_l_over := ok_l_over (P := P) (w := w) (base := base) T
  refine T.F_l_steps_of.ok sc_l_steps_of (fun vs H Q E h => ?_) (fun cdv A outer s H vs Q E hr h => ?_)
  · obtain ⟨v, sa, ls, ts, xs, ps, a, b, rfl, _⟩ := h
    rfl
  · obtain ⟨v, sa, ls, ts, xs, ps, ba, bb, rfl, hv, tc, h40, hsa, ips, lps, gp, hba, hbb, k⟩ := h
    obtain ⟨na, pa, ta, ys, rfl, hna, hpa, hta, ity⟩ := net_inv2 hv
    have lys : ys.length = ts.length := by rw [ity.length, List.length_map]
    refine ⟨_, (@pss_cons _ _ _ _ _ (@ps_set _ _ (2) _ _ _ _ sc_l_steps_of.nd rfl (Or.inl k_l_steps_of_l_found) (@pe_lstA _ _ _ _ (@pa_nil _)) (by rfl) (by first | exact .inl rfl | exact .inr rfl | assumption)) (@pss_cons _ _ _ _ _ (@ps_for _ _ _ _ _ _ _ _ PassesOwn.never rfl (@pi_enumK _ (K) _ _ _ _ _ _ _ k_l_steps_of_enumerate T.b_enumerate (@pa_c _ _ _ _ _ (@pe_ix _ _ _ _ _ _ _ (@ixT_k _ (K) (by rfl)) (@pw _ 0 _ _ (Or.inl k_l_steps_of_l_net) (by rfl) (by decide) (by decide)) (@pe_int _ _ _ _) (fun _ _ => rfl)) (@pa_nil _) rfl) (by rfl) (by rfl)) (@pg_tup_k _ (K) _ _ _ _ (2) rfl (@pgs_cons _ _ _ _ _ (@pg_name _ _ (3) _ sc_l_steps_of.nd rfl (Or.inl k_l_steps_of_l_number) (by first | exact .inl rfl | exact .inr rfl | assumption)) (@pgs_cons _ _ _ _ _ (@pg_tup_k _ (K) _ _ _ _ (5) rfl (@pgs_cons _ _ _ _ _ (@pg_name _ _ (4) _ sc_l_steps_of.nd rfl (Or.inl k_l_steps_of_l_begin) (by first | exact .inl rfl | exact .inr rfl | assumption)) (@pgs_cons _ _ _ _ _ (@pg_name _ _ (5) _ sc_l_steps_of.nd rfl (Or.inl k_l_steps_of_l_end) (by first | exact .inl rfl | exact .inr rfl | assumption)) (@pgs_cons _ _ _ _ _ (@pg_name _ _ (6) _ sc_l_steps_of.nd rfl (Or.inl k_l_steps_of_l_top) (by first | exact .inl rfl | exact .inr rfl | assumption)) (@pgs_cons _ _ _ _ _ (@pg_name _ _ (7) _ sc_l_steps_of.nd rfl (Or.inl k_l_steps_of_l_gain) (by first | exact .inl rfl | exact .inr rfl | assumption)) (@pgs_cons _ _ _ _ _ (@pg_name _ _ (8) _ sc_l_steps_of.nd rfl (Or.inl k_l_steps_of_l_price) (by first | exact .inl rfl | exact .inr rfl | assumption)) (@pgs_nil _) (by rfl)) (by rfl)) (by rfl)) (by rfl)) (by rfl)) (by rfl) (by rfl) (by rfl)) (@pgs_nil _) (by rfl)) (by rfl)) (by rfl) (by rfl) (by rfl)) (@pss_cons _ _ _ _ _ (@ps_set _ _ (9) _ _ _ _ sc_l_steps_of.nd rfl (Or.inl k_l_steps_of_l_goes) (@pe_ix _ _ _ _ _ _ _ (@ixL_k _ (K) (by rfl)) (@pw _ 1 _ _ (Or.inl k_l_steps_of_l_stream) (by rfl) (by decide) (by decide)) (@pw _ 3 _ _ (Or.inl k_l_steps_of_l_number) (by rfl) (by decide) (by decide)) (fun _ _ => rfl)) (by rfl) (by first | exact .inl rfl | exact .inr rfl | assumption)) (@pss_cons _ _ _ _ _ (@ps_if _ _ _ _ _ _ _ _ (@pt_cmpR _ _ _ _ _ _ _ _ (@op_gt _) (@pe_call _ _ _ _ _ _ _ _ _ _ _ _ _ _ _ _ G_l_above (hr.mono (by decide)) k_l_steps_of_l_above T.m_l_above T.F_l_above.kp T.B_l_above .nil (@pass0 _) (@pa_c _ _ _ _ _ (@pw _ 6 _ _ (Or.inl k_l_steps_of_l_top) (by rfl) (by decide) (by decide)) (@pa_c _ _ _ _ _ (@pw _ 9 _ _ (Or.inl k_l_steps_of_l_goes) (by rfl) (by decide) (by decide)) (@pa_nil _) rfl) rfl) (by decide) (by rfl) (by rfl)) (@pe_int _ _ _ _) (@nomark _ _ (by decide) (by decide))) (@pss_one _ _ _ (@ps_expr _ _ _ _ (@pe_bm_k _ (K) _ _ _ _ _ _ _ _ _ _ _ PySem.F.plainAttrs_list PySem.F.slot_list_append PySem.F.type_list_append (@mt_appendA _) (@pw _ 2 _ _ (Or.inl k_l_steps_of_l_found) (by rfl) (by decide) (by decide)) (@pa_c _ _ _ _ _ (@pe_tupA _ _ _ _ _ (@pa_c _ _ _ _ _ (@pw _ 3 _ _ (Or.inl k_l_steps_of_l_number) (by rfl) (by decide) (by decide)) (@pa_c _ _ _ _ _ (@pe_bl _ _ _ _) (@pa_c _ _ _ _ _ (@pw _ 4 _ _ (Or.inl k_l_steps_of_l_begin) (by rfl) (by decide) (by decide)) (@pa_c _ _ _ _ _ (@pw _ 5 _ _ (Or.inl k_l_steps_of_l_end) (by rfl) (by decide) (by decide)) (@pa_c _ _ _ _ _ (@pe_call _ _ _ _ _ _ _ _ _ _ _ _ _ _ _ _ G_l_minus (hr.mono (by decide)) k_l_steps_of_l_minus T.m_l_minus T.F_l_minus.kp T.B_l_minus .nil (@pass0 _) (@pa_c _ _ _ _ _ (@pw _ 6 _ _ (Or.inl k_l_steps_of_l_top) (by rfl) (by decide) (by decide)) (@pa_c _ _ _ _ _ (@pw _ 9 _ _ (Or.inl k_l_steps_of_l_goes) (by rfl) (by decide) (by decide)) (@pa_nil _) rfl) rfl) (by decide) (by rfl) (by rfl)) (@pa_c _ _ _ _ _ (@pw _ 7 _ _ (Or.inl k_l_steps_of_l_gain) (by rfl) (by decide) (by decide)) (@pa_nil _) rfl) rfl) rfl) rfl) rfl) rfl)) (@pa_nil _) rfl) (by rfl) (by rfl) (by rfl) (by rfl) (by rfl) (by rfl)) (by rfl))) (@pss_nil _)) (@pss_one _ _ _ (@ps_if _ _ _ _ _ _ _ _ (@pt_cmpR _ _ _ _ _ _ _ _ (@op_gt _) (@pe_ix _ _ _ _ _ _ _ (@ixT_k _ (K) (by rfl)) (@pw _ 9 _ _ (Or.inl k_l_steps_of_l_goes) (by rfl) (by decide) (by decide)) (@pe_int _ _ _ _) (fun _ _ => rfl)) (@pe_int _ _ _ _) (@nomark _ _ (by decide) (by decide))) (@pss_one _ _ _ (@ps_expr _ _ _ _ (@pe_bm_k _ (K) _ _ _ _ _ _ _ _ _ _ _ PySem.F.plainAttrs_list PySem.F.slot_list_append PySem.F.type_list_append (@mt_appendA _) (@pw _ 2 _ _ (Or.inl k_l_steps_of_l_found) (by rfl) (by decide) (by decide)) (@pa_c _ _ _ _ _ (@pe_tupA _ _ _ _ _ (@pa_c _ _ _ _ _ (@pw _ 3 _ _ (Or.inl k_l_steps_of_l_number) (by rfl) (by decide) (by decide)) (@pa_c _ _ _ _ _ (@pe_bl _ _ _ _) (@pa_c _ _ _ _ _ (@pw _ 5 _ _ (Or.inl k_l_steps_of_l_end) (by rfl) (by decide) (by decide)) (@pa_c _ _ _ _ _ (@pw _ 4 _ _ (Or.inl k_l_steps_of_l_begin) (by rfl) (by decide) (by decide)) (@pa_c _ _ _ _ _ (@pe_call _ _ _ _ _ _ _ _ _ _ _ _ _ _ _ _ G_l_product (hr.mono (by decide)) k_l_steps_of_l_product T.m_l_product T.F_l_product.kp T.B_l_product .nil (@pass0 _) (@pa_c _ _ _ _ _ (@pw _ 9 _ _ (Or.inl k_l_steps_of_l_goes) (by rfl) (by decide) (by decide)) (@pa_c _ _ _ _ _ (@pw _ 7 _ _ (Or.inl k_l_steps_of_l_gain) (by rfl) (by decide) (by decide)) (@pa_nil _) rfl) rfl) (by decide) (by rfl) (by rfl)) (@pa_c _ _ _ _ _ (@pe_call _ _ _ _ _ _ _ _ _ _ _ _ _ _ _ _ G_l_over (hr.mono (by decide)) k_l_steps_of_l_over T.m_l_over T.F_l_over.kp T.B_l_over .nil (@pass0 _) (@pa_c _ _ _ _ _ (@pe_tupA _ _ _ _ _ (@pa_c _ _ _ _ _ (@pe_int _ _ _ _) (@pa_c _ _ _ _ _ (@pe_int _ _ _ _) (@pa_nil _) rfl) rfl)) (@pa_c _ _ _ _ _ (@pw _ 7 _ _ (Or.inl k_l_steps_of_l_gain) (by rfl) (by decide) (by decide)) (@pa_nil _) rfl) rfl) (by decide) (by rfl) (by rfl)) (@pa_nil _) rfl) rfl) rfl) rfl) rfl) rfl)) (@pa_nil _) rfl) (by rfl) (by rfl) (by rfl) (by rfl) (by rfl) (by rfl)) (by rfl))) (@pss_nil _))))) (by intro _; rfl)) (@pss_one _ _ _ (@ps_ret _ _ _ _ (@pw _ 2 _ _ (Or.inl k_l_steps_of_l_found) (by rfl) (by decide) (by decide)))))), ?_⟩
    refine seqA fun Q1 nA => ⟨(by show 0 ≤ 10000; decide), fun L H1 n1 => nA _ _ ?_⟩
    refine seqH fun DB nB => ?_
    refine ⟨_, rfl, na, _, _, _, rfl, rfl, SqT.of (n1.sm _ _ hna), rfl, ta, false, rfl, ⟨ys, SqT.of (n1.sm _ _ hta)⟩, for_enumK (xs := ys) (fun i σ H' => Ex8 fun v3 v4 v5 v6 v7 v8 v9 zs => σ = [some (.ref na), some (.ref sa), some (.ref L), v3, v4, v5, v6, v7, v8, v9] ∧ H' L = some (.lst zs) ∧ IsAll ED H' zs ((stepsN ts ps i).map sD) ∧ Same H H') ⟨_, _, _, _, _, _, _, [], rfl, n1.at', .nil, n1.sm⟩ ?_ ?_ ?_⟩
    · rintro i σ H' _ ⟨v3, v4, v5, v6, v7, v8, v9, zs, rfl, _, _, sm⟩
      exact SqT.of (sm _ _ hta)
    · rintro i x T' σ J0 hx hT ⟨v3, v4, v5, v6, v7, v8, v9, zs, rfl, hL, iL, sm⟩
      have hi : i < ys.length := (List.getElem?_eq_some_iff.mp hx).1
      have nT : Nw J0 T' (.tup [.int (i : Int), x]) (upd J0 T' (.tup [.int (i : Int), x])) := .mk' hT
      generalize upd J0 T' (.tup [.int (i : Int), x]) = J1 at nT ⊢
      obtain ⟨dy, edy, gy⟩ := ity.get hx
      rw [List.getElem?_map] at edy
      obtain ⟨t, et, rfl⟩ := Option.map_eq_some_iff.mp edy
      obtain ⟨p, ep⟩ : ∃ p, ps[i]? = some p := ⟨_, List.getElem?_eq_getElem (by trivial)⟩
      have lx : xs.length = ps.length := by rw [ips.length, List.length_map]
      obtain ⟨xo, exs⟩ : ∃ xo, xs[i]? = some xo := ⟨_, List.getElem?_eq_getElem (by trivial)⟩
      obtain ⟨dp, edp, gx⟩ := ips.get exs
      rw [List.getElem?_map, ep] at edp
      obtain rfl : frD p = dp := Option.some.inj edp
      have s1 := sm.trans nT.sm
      have llen : zs.length ≤ 80 := by
        rw [iL.length, List.length_map]
        have := stepsN_len ts ps i
        trivial
      have tt := tc t (List.mem_of_getElem? et)
      have gp' := gp p (List.mem_of_getElem? ep)
      obtain ⟨o, om, og, op, rfl, ho, hom, hog, hop⟩ := tie_inv2 gy
      obtain ⟨ou, rfl, hou⟩ := isF_inv gx
      obtain ⟨m1, m2⟩ := gz tt.fm (by decide) (by decide)
      obtain ⟨p1, p2⟩ := gz gp' (by trivial) (by trivial)
      have hL1 := nT.sm _ _ hL
      refine ⟨T', _, rfl, SqT.of nT.at', rfl, _, _, rfl, _, _, rfl, o, _, rfl, SqT.of (s1 _ _ ho), rfl, _, _, rfl, _, _, rfl, _, _, rfl, _, _, rfl, _, _, rfl, rfl, rfl, ?_⟩
      dsimp only
      refine seqA fun Q2 nA2 => ⟨_, rfl, _, rfl, sa, _, _, _, rfl, rfl, SqL.of (s1 _ _ hsa), atI_nat exs, nA2 _ _ ?_⟩
      refine joinS (fun σ' H' => ∃ xs, σ' = [some (.ref na), some (.ref sa), some (.ref L), some (.int (i : Int)), some (.str (S t.bg)), some (.str (S t.en)), some (.ref om), some (.ref og), some (.ref op), some (.ref ou)] ∧ Same H H' ∧ H' L = some (.lst xs) ∧ IsAll ED H' xs ((stepsN ts ps i ++ (if p.1 * t.most.2 < t.most.1 * p.2 then [(⟨i, false, t.bg, t.en, lMin t.most p, t.gain⟩ : SD)] else [])).map sD)) ?_ fun nx => ?_
      · rintro σ' J2 ⟨xs', rfl, s2, hL2, iL2⟩
        have lx2 : xs'.length ≤ 81 := by
          rw [iL2.length, List.length_map, List.length_append]
          have := stepsN_len ts ps i
          split <;> simp <;> trivial
        refine ⟨_, rfl, ou, _, _, _, rfl, rfl, SqT.of (s2 _ _ hou), rfl, _, _, rfl, rfl, _, rfl, ?_⟩
        by_cases hp : 0 < p.1
        · rw [show decide (p.1 > 0) = true from decide_eq_true hp]
          refine iteT ?_
          refine ⟨_, rfl, .inl ⟨rfl, _, SqL.of hL2⟩, _, rfl, _, rfl, _, rfl, _, rfl, _, rfl, ou, og, p, t.gain, _, _, _, _, rfl, s2 _ _ hou, s2 _ _ hog, gp', tt.fg, by trivial, by trivial, by decide, by decide, (fun z => by cases z), fun q1 H4 n4 => ⟨(by show 2 ≤ 10000; decide), fun q2 H5 n5 => ⟨_, rfl, q2, og, (1, 1), t.gain, 1, 1, 6, 6, rfl, n5.at', n5.sm _ _ (n4.sm _ _ (s2 _ _ hog)), gb11, tt.fg, by decide, by decide, by decide, by decide, (fun _ => tt.g1), fun q3 H6 n6 => ⟨(by show 6 ≤ 10000; decide), fun q4 H7 n7 => ?_⟩⟩⟩⟩
          have s27 := ((n4.sm.trans n5.sm).trans n6.sm).trans n7.sm
          have hL7 := s27 _ _ hL2
          refine ⟨L, _, _, rfl, rfl, hL7, by trivial, fun H8 c8 => ⟨_, _, _, _, _, _, _, _, rfl, c8.at', ?_, Same.ch (s2.trans s27) c8 n1.fr⟩⟩
          have es : stepsT i t p = (if p.1 * t.most.2 < t.most.1 * p.2 then [(⟨i, false, t.bg, t.en, lMin t.most p, t.gain⟩ : SD)] else []) ++ [⟨i, true, t.en, t.bg, KM.lTim p t.gain, lOvr (1, 1) t.gain⟩] := by unfold stepsT; rw [if_pos hp]
          rw [stepsN_succ et ep, es, ← List.append_assoc, List.map_append]
          refine all_snoc c8 hL7 (iL2.mono s27.toE) ?_
          exact .tup n7.at' (.cons (.int _) (.cons (.bl _) (.cons (.str _) (.cons (.str _) (.cons (isF (p := KM.lTim p t.gain) (n7.sm _ _ (n6.sm _ _ (n5.sm _ _ n4.at')))) (.cons (isF (p := lOvr (1, 1) t.gain) (n7.sm _ _ n6.at')) .nil))))))
        · rw [show decide (p.1 > 0) = false from decide_eq_false hp]
          refine iteF ⟨_, _, _, _, _, _, _, _, rfl, hL2, ?_, s2⟩
          have es : stepsT i t p = (if p.1 * t.most.2 < t.most.1 * p.2 then [(⟨i, false, t.bg, t.en, lMin t.most p, t.gain⟩ : SD)] else []) := by unfold stepsT; rw [if_neg hp, List.append_nil]
          rw [stepsN_succ et ep, es]
          exact iL2
      · refine ⟨_, rfl, _, rfl, om, ou, t.most, p, rfl, s1 _ _ hom, s1 _ _ hou, m1, m2, p1, p2, _, _, rfl, rfl, _, rfl, ?_⟩
        have e0 : decide (t.most.1 * p.2 - p.1 * t.most.2 > 0) = decide (p.1 * t.most.2 < t.most.1 * p.2) := dec_congr (by trivial)
        rw [e0]
        have iL1 := iL.mono nT.sm.toE
        by_cases hp : p.1 * t.most.2 < t.most.1 * p.2
        · rw [decide_eq_true hp]
          refine iteT ?_
          refine ⟨_, rfl, .inl ⟨rfl, _, SqL.of hL1⟩, _, rfl, _, rfl, _, rfl, _, rfl, _, rfl, om, ou, t.most, p, _, _, _, _, rfl, s1 _ _ hom, s1 _ _ hou, tt.fm, gp', by decide, by decide, by trivial, by trivial, (fun z => by cases z), fun q1 H4 n4 => ⟨_, rfl, (by show 6 ≤ 10000; decide), fun q4 H7 n7 => ?_⟩⟩
          have s17 := n4.sm.trans n7.sm
          have hL7 := s17 _ _ hL1
          refine ⟨L, _, _, rfl, rfl, hL7, by trivial, fun H8 c8 => nx _ _ ⟨_, rfl, Same.ch (s1.trans s17) c8 n1.fr, c8.at', ?_⟩⟩
          rw [if_pos hp, List.map_append]
          refine all_snoc c8 hL7 (iL1.mono s17.toE) ?_
          exact .tup n7.at' (.cons (.int _) (.cons (.bl _) (.cons (.str _) (.cons (.str _) (.cons (isF (p := lMin t.most p) (n7.sm _ _ n4.at')) (.cons (isF (p := t.gain) (s17 _ _ (s1 _ _ hog))) .nil))))))
        · rw [decide_eq_false hp]
          refine iteF (nx _ _ ⟨_, rfl, s1, hL1, ?_⟩)
          rw [if_neg hp, List.append_nil]
          exact iL1
    · rintro σ H' ⟨v3, v4, v5, v6, v7, v8, v9, zs, rfl, hL, iL, sm⟩
      rw [lys] at iL
      exact nB _ _ ⟨_, rfl, k L zs H' sm n1.fr hL iL⟩
end
end K16
namespace K16
open PySem L2
set_option maxHeartbeats 4000000
theorem eqS {a b : List Nat} : eqV (V.str (S a)) (V.str (S b)) = (a == b) := by
  show (S a == S b) = (a == b)
  by_cases h : a = b
  · subst h; simp
  · rw [beq_eq_false_iff_ne.mpr h, beq_eq_false_iff_ne.mpr]
    exact fun z => h (S_inj z)
theorem inS (l : List Nat) (es : List (List Nat)) : inV (strV l) (es.map strV) = es.contains l := by
  unfold inV
  induction es with
  | nil => rfl
  | cons e r ih =>
    rw [List.map_cons, List.any_cons, ih, List.contains_cons]
    have : eqV (strV e) (strV l) = (l == e) := by rw [show eqV (strV e) (strV l) = (e == l) from eqS]; exact Bool.beq_comm
    rw [this]
theorem flatS (es : List (List Nat)) : (es.map strV).all flatV = true := by
  rw [List.all_eq_true]
  intro v hv
  obtain ⟨l, _, rfl⟩ := List.mem_map.mp hv
  rfl
theorem all_erase {E : Addr → Prop} {H : Hp} : ∀ {xs : List V} {ds : List PyData} (n : Nat), IsAll E H xs ds → IsAll E H (xs.eraseIdx n) (ds.eraseIdx n)
  | _, _, _, .nil => .nil
  | _, _, 0, .cons h r => r
  | _, _, n + 1, .cons h r => .cons h (all_erase n r)
theorem erase_map {α β : Type} (f : α → β) : ∀ (xs : List α) (n : Nat), (xs.map f).eraseIdx n = (xs.eraseIdx n).map f
  | [], _ => rfl
  | _ :: _, 0 => rfl
  | x :: xs, n + 1 => by
    show f x :: (xs.map f).eraseIdx n = f x :: (xs.eraseIdx n).map f
    rw [erase_map f xs n]
abbrev rowD (r : List SD × List Nat) : PyData := .tuple [.list (r.1.map sD), .str (S r.2)]
theorem row_inv {E : Addr → Prop} {H : Hp} {v : V} {r : List SD × List Nat} (h : IsD E H v (rowD r)) : Ex3 fun T c zs => v = .ref T ∧ H T = some (.tup [.ref c, .str (S r.2)]) ∧ H c = some (.lst zs) ∧ ¬ E c ∧ IsAll E H zs (r.1.map sD) := by
  cases h with
  | @tup a xs _ h r' =>
    cases r' with
    | @cons u1 _ _ _ h1 r' =>
    cases r' with
    | @cons u2 _ _ _ h2 r' =>
    cases r'
    cases h2
    cases h1 with
    | @lst c zs _ hc ne rz => exact ⟨a, c, zs, rfl, h, hc, ne, rz⟩
theorem step_inv {E : Addr → Prop} {H : Hp} {v : V} {s : SD} (h : IsD E H v (sD s)) : Ex3 fun o r g => v = .ref o ∧ H o = some (.tup [.int s.n, .bl s.bk, .str (S s.st), .str (S s.en), .ref r, .ref g]) ∧ H r = some (fr s.room) ∧ H g = some (fr s.gain) := by
  cases h with
  | @tup a xs _ h r' =>
    cases r' with
    | @cons u1 _ _ _ h1 r' =>
    cases r' with
    | @cons u2 _ _ _ h2 r' =>
    cases r' with
    | @cons u3 _ _ _ h3 r' =>
    cases r' with
    | @cons u4 _ _ _ h4 r' =>
    cases r' with
    | @cons u5 _ _ _ h5 r' =>
    cases r' with
    | @cons u6 _ _ _ h6 r' =>
    cases r'
    cases h1
    cases h2
    cases h3
    cases h4
    obtain ⟨r, rfl, hr⟩ := isF_inv h5
    obtain ⟨g, rfl, hg⟩ := isF_inv h6
    exact ⟨a, r, g, rfl, h, hr, hg⟩
structure Rw (f : List Nat) (ls : List (List Nat)) (ss : List SD) (ms : List (List Nat)) (r : List SD × List Nat) : Prop where
  m : ∀ c ∈ r.1, c ∈ ss
  p : f :: r.1.map SD.en = r.1.map SD.st ++ [r.2]
  nd : (r.1.map SD.st ++ [r.2]).Nodup
  s : ∀ c ∈ r.1, c.st ∈ ms
  l : r.2 ∈ ls
theorem Rw.up {f : List Nat} {ls : List (List Nat)} {ss : List SD} {ms : List (List Nat)} {r : List SD × List Nat} (h : Rw f ls ss ms r) (x : List Nat) : Rw f ls ss (ms ++ [x]) r := ⟨h.m, h.p, h.nd, fun c hc => List.mem_append_left _ (h.s c hc), h.l⟩
theorem Rw.on {f : List Nat} {ls : List (List Nat)} {ss : List SD} {ms : List (List Nat)} {r : List SD × List Nat} {s : SD} (h : Rw f ls ss ms r) (hs : s ∈ ss) (he : s.st = r.2) (hn : s.en ∉ ms) (hr : r.2 ∈ ms) (hl : s.en ∈ ls) : Rw f ls ss ms (r.1 ++ [s], s.en) := by
  refine ⟨fun c hc => ?_, ?_, ?_, fun c hc => ?_, hl⟩
  · rcases List.mem_append.mp hc with q | q
    · exact h.m c q
    · rw [List.mem_singleton.mp q]; exact hs
  · rw [List.map_append, List.map_append, ← List.cons_append, h.p]
    simp [he]
  · have e : (r.1 ++ [s]).map SD.st ++ [s.en] = (r.1.map SD.st ++ [r.2]) ++ [s.en] := by simp [he]
    show ((r.1 ++ [s]).map SD.st ++ [s.en]).Nodup
    rw [e, List.nodup_append]
    refine ⟨h.nd, by simp, fun a ha b hb => ?_⟩
    rw [List.mem_singleton.mp hb]
    rintro rfl
    rcases List.mem_append.mp ha with q | q
    · obtain ⟨c, hc, e'⟩ := List.mem_map.mp q
      exact hn (e' ▸ h.s c hc)
    · rw [List.mem_singleton.mp q] at hn
      exact hn hr
  · rcases List.mem_append.mp hc with q | q
    · exact h.s c q
    · rw [List.mem_singleton.mp q, he]; exact hr
theorem nodup_le {α : Type} [DecidableEq α] : ∀ {xs ys : List α}, xs.Nodup → (∀ x ∈ xs, x ∈ ys) → xs.length ≤ ys.length
  | [], _, _, _ => Nat.zero_le _
  | x :: xs, ys, nd, h => by
    rw [List.nodup_cons] at nd
    have hx := h x (List.mem_cons_self ..)
    have := nodup_le (xs := xs) (ys := ys.erase x) nd.2 fun y hy => (List.mem_erase_of_ne (fun (z : y = x) => nd.1 (z ▸ hy))).mpr (h y (List.mem_cons_of_mem _ hy))
    rw [List.length_erase_of_mem hx] at this
    have : 0 < ys.length := List.length_pos_of_mem hx
    simp
    trivial
def unmet (ls ms : List (List Nat)) : Nat := (ls.filter fun l => !ms.contains l).length
theorem unmet_lt {ls ms : List (List Nat)} {h : List Nat} (hl : h ∈ ls) (hm : h ∉ ms) : unmet ls (ms ++ [h]) < unmet ls ms := by
  unfold unmet
  have e : (ls.filter fun l => !(ms ++ [h]).contains l) = (ls.filter fun l => !ms.contains l).filter fun l => !(l == h) := by
    rw [List.filter_filter]
    congr 1
    funext l
    by_cases q : l = h <;> by_cases q2 : l ∈ ms <;> simp [q, q2]
  rw [e]
  apply List.length_filter_lt_length_iff_exists.mpr
  exact ⟨h, List.mem_filter.mpr ⟨hl, by simp [hm]⟩, by simp⟩
section
variable {P : Program} {w : World} {K : PySem.W.Frag} {mg : Str → Option Value} {base : Heap}
structure CoC (f e : List Nat) (ls : List (List Nat)) (ss cs : List SD) : Prop where
  m : ∀ c ∈ cs, c ∈ ss
  p : f :: cs.map SD.en = cs.map SD.st ++ [e]
  nd : (cs.map SD.st ++ [e]).Nodup
  l : cs.length ≤ ls.length
inductive spCourse_ (vs : List V) (H : Hp) (Q : VK) : Prop
  | mk (b sa ba : Addr) (f e : List Nat) (xs : List V) (ss : List SD) (ls bs : List (List Nat)) (t : Int) (h0 : vs = [.ref b, .ref sa, .str (S f), .str (S e), .ref ba]) (h1 : Bx H b t) (h2 : 0 ≤ t) (h3 : t ≤ 900000) (h4 : ¬ sa = b) (h5 : H sa = some (.lst xs)) (h6 : IsAll ED H xs (ss.map sD)) (h7 : ss.length ≤ 80) (h8 : H ba = some (.lst (bs.map strV))) (h9 : bs.length ≤ 10) (h10 : f ∈ ls) (h11 : (∀ s ∈ ss, s.en ∈ ls)) (h12 : ls.length ≤ 10) (h13 : (∀ t' H', SameE (Eb b) H H' → Bx H' b t' → t ≤ t' → t' ≤ t + 900 → Q .non H')) (h14 : ∀ C zs cs t' H', SameE (Eb b) H H' → Bx H' b t' → t ≤ t' → t' ≤ t + 900 → ¬ C = b → H' C = some (.lst zs) → IsAll ED H' zs (cs.map sD) → CoC f e ls ss cs → Q (.ref C) H')
def spCourse : Sp := fun vs H Q _ => spCourse_  vs H Q
theorem step_ED {E : Addr → Prop} {H : Hp} {v : V} {s : SD} (h : IsD E H v (sD s)) : IsD ED H v (sD s) := by
  obtain ⟨o, r, g, rfl, ho, hr, hg⟩ := step_inv h
  exact .tup ho (.cons (.int _) (.cons (.bl _) (.cons (.str _) (.cons (.str _) (.cons (isF (p := s.room) hr) (.cons (isF (p := s.gain) hg) .nil))))))
theorem steps_ED {E : Addr → Prop} {H : Hp} : ∀ {ss : List SD} {vs : List V}, IsAll E H vs (ss.map sD) → IsAll ED H vs (ss.map sD)
  | [], _, .nil => .nil
  | _ :: _, _, .cons h r => .cons (step_ED h) (steps_ED r)
theorem all_any {E : Addr → Prop} {H : Hp} {vs : List V} {ds : List PyData} (h : IsAll ED H vs ds) : IsAll E H vs ds := h.narrow fun _ _ => trivial
def E3 (b R M : Addr) : Addr → Prop := fun a => a = b ∨ a = R ∨ a = M
inductive CInv_ (b R M sa ba : Addr) (f e : List Nat) (ls : List (List Nat)) (ss : List SD) (G : Hp) (t : Int) (m : Nat) (σ : St) (H' : Hp) : Prop
  | mk (rvs : List V) (rs : List (List SD × List Nat)) (ms : List (List Nat)) (v7 v8 : Option V) (t' : Int) (h0 : σ = [some (.ref b), some (.ref sa), some (.str (S f)), some (.str (S e)), some (.ref ba), some (.ref R), some (.ref M), v7, v8]) (h1 : H' R = some (.lst rvs)) (h2 : IsAll (E3 b R M) H' rvs (rs.map rowD)) (h3 : H' M = some (.lst (ms.map strV))) (h4 : Bx H' b t') (h5 : SameE (E3 b R M) G H') (h6 : (∀ r ∈ rs, Rw f ls ss ms r)) (h7 : m = unmet ls ms * 81 + rs.length) (h8 : t ≤ t') (h9 : t' + (m : Int) ≤ t + 811) (h10 : ms.length + unmet ls ms ≤ 20)
def CInv (b R M sa ba : Addr) (f e : List Nat) (ls : List (List Nat)) (ss : List SD) (G : Hp) (t : Int) : Nat → St → Hp → Prop := fun m σ H' => CInv_ b R M sa ba f e ls ss G t m σ H'
theorem ok_l_course_by (T : Txt K mg) : FnOk P w K mg base CX0 2 T.f_l_course_by T.d_l_course_by ["_law_box_here", "_law_steps", "_law_first", "_law_end", "_law_barred"] spCourse := by
  have G_l_take := ok_take (P := P) (w := w) (base := base) T
  refine T.F_l_course_by.ok sc_l_course_by (fun vs H Q E h => ?_) (fun cdv A outer s H vs Q E hr h => ?_)
  · obtain ⟨b, sa, ba, f, e, xs, ss, ls, bs, t, rfl, _⟩ := h
    rfl
  · obtain ⟨b, sa, ba, f, e, xs, ss, ls, bs, t, rfl, B0, ht0, ht1, nsb, hsa, ixs, lss, hba, lbs, fls, sls, lls, k1, k2⟩ := h
    refine ⟨_, (@pss_cons _ _ _ _ _ (@ps_asg _ _ _ _ _ _ (@pe_tupA _ _ _ _ _ (@pa_c _ _ _ _ _ (@pe_lstA _ _ _ _ (@pa_c _ _ _ _ _ (@pe_tupA _ _ _ _ _ (@pa_c _ _ _ _ _ (@pe_lstA _ _ _ _ (@pa_nil _)) (@pa_c _ _ _ _ _ (@pw _ 2 _ _ (Or.inl k_l_course_by_l_first) (by rfl) (by decide) (by decide)) (@pa_nil _) rfl) rfl)) (@pa_nil _) rfl)) (@pa_c _ _ _ _ _ (@pe_callTy _ _ _ _ _ _ _ _ _ (@call_list_ofA _ (K) (by rfl)) k_l_course_by_list T.b_list (@boot_ty_list) (@pa_c _ _ _ _ _ (@pw _ 4 _ _ (Or.inl k_l_course_by_l_barred) (by rfl) (by decide) (by decide)) (@pa_nil _) rfl) (by decide) (by decide) (by rfl) (by rfl)) (@pa_nil _) rfl) rfl)) (@pg_tup_k _ (K) _ _ _ _ (2) rfl (@pgs_cons _ _ _ _ _ (@pg_name _ _ (5) _ sc_l_course_by.nd rfl (Or.inl k_l_course_by_l_rows) (by first | exact .inl rfl | exact .inr rfl | assumption)) (@pgs_cons _ _ _ _ _ (@pg_name _ _ (6) _ sc_l_course_by.nd rfl (Or.inr k_l_course_by_l_met) (by first | exact .inl rfl | exact .inr rfl | assumption)) (@pgs_nil _) (by rfl)) (by rfl)) (by rfl) (by rfl) (by rfl)) (by rfl) (by rfl) (by rfl)) (@pss_cons _ _ _ _ _ (@ps_while _ _ _ _ _ _ PassesOwn.never (@pt_cmpR _ _ _ _ _ _ _ _ (@op_neNil _ hr.units) (@pw _ 5 _ _ (Or.inl k_l_course_by_l_rows) (by rfl) (by decide) (by decide)) (@pe_lstA _ _ _ _ (@pa_nil _)) (@nomark _ _ (by decide) (by decide))) (@pss_cons _ _ _ _ _ (@ps_asg _ _ _ _ _ _ (@pe_bm_k _ (K) _ _ _ _ _ _ _ _ _ _ _ PySem.F.plainAttrs_list PySem.F.slot_list_pop PySem.F.type_list_pop (@mt_popA _) (@pw _ 5 _ _ (Or.inl k_l_course_by_l_rows) (by rfl) (by decide) (by decide)) (@pa_c _ _ _ _ _ (@pe_op _ _ _ _ _ _ _ _ (@op_sub _) (@pe_op _ _ _ _ _ _ _ _ (@op_sub _) (@pe_callB _ _ _ _ _ _ _ _ _ (@len_k _ (K) (by rfl)) k_l_course_by_len T.b_len (@boot_b_len) (@pa_c _ _ _ _ _ (@pw _ 5 _ _ (Or.inl k_l_course_by_l_rows) (by rfl) (by decide) (by decide)) (@pa_nil _) rfl) (by decide) (by decide) (by rfl) (by rfl)) (@pe_int _ _ _ _)) (@pe_call _ _ _ _ _ _ _ _ _ _ _ _ _ _ _ _ G_l_take (hr.mono (by decide)) k_l_course_by_l_take T.m_l_take T.F_l_take.kp T.B_l_take .nil (@pass0 _) (@pa_c _ _ _ _ _ (@pw _ 0 _ _ (Or.inl k_l_course_by_l_box_here) (by rfl) (by decide) (by decide)) (@pa_c _ _ _ _ _ (@pe_callB _ _ _ _ _ _ _ _ _ (@call_min2 _ rfl) k_l_course_by_min T.b_min (@boot_b_min) (@pa_c _ _ _ _ _ (@pe_callB _ _ _ _ _ _ _ _ _ (@len_k _ (K) (by rfl)) k_l_course_by_len T.b_len (@boot_b_len) (@pa_c _ _ _ _ _ (@pw _ 5 _ _ (Or.inl k_l_course_by_l_rows) (by rfl) (by decide) (by decide)) (@pa_nil _) rfl) (by decide) (by decide) (by rfl) (by rfl)) (@pa_c _ _ _ _ _ (@pe_int _ _ _ _) (@pa_nil _) rfl) rfl) (by decide) (by decide) (by rfl) (by rfl)) (@pa_nil _) rfl) rfl) (by decide) (by rfl) (by rfl))) (@pa_nil _) rfl) (by rfl) (by rfl) (by rfl) (by rfl) (by rfl) (by rfl)) (@pg_tup_k _ (K) _ _ _ _ (2) rfl (@pgs_cons _ _ _ _ _ (@pg_name _ _ (7) _ sc_l_course_by.nd rfl (Or.inr k_l_course_by_l_course) (by first | exact .inl rfl | exact .inr rfl | assumption)) (@pgs_cons _ _ _ _ _ (@pg_name _ _ (8) _ sc_l_course_by.nd rfl (Or.inr k_l_course_by_l_here) (by first | exact .inl rfl | exact .inr rfl | assumption)) (@pgs_nil _) (by rfl)) (by rfl)) (by rfl) (by rfl) (by rfl)) (by rfl) (by rfl) (by rfl)) (@pss_cons _ _ _ _ _ (@ps_if _ _ _ _ _ _ _ _ (@pt_cmpR _ _ _ _ _ _ _ _ (@op_eq _) (@pw _ 8 _ _ (Or.inr (Or.inl k_l_course_by_l_here)) (by rfl) (by decide) (by decide)) (@pw _ 3 _ _ (Or.inl k_l_course_by_l_end) (by rfl) (by decide) (by decide)) (@nomark _ _ (by decide) (by decide))) (@pss_one _ _ _ (@ps_ret _ _ _ _ (@pw _ 7 _ _ (Or.inr (Or.inl k_l_course_by_l_course)) (by rfl) (by decide) (by decide)))) (@pss_nil _)) (@pss_one _ _ _ (@ps_if _ _ _ _ _ _ _ _ (@pt_cmpR _ _ _ _ _ _ _ _ (@notIn_k _ (K) (by rfl)) (@pw _ 8 _ _ (Or.inr (Or.inl k_l_course_by_l_here)) (by rfl) (by decide) (by decide)) (@pw _ 6 _ _ (Or.inr (Or.inl k_l_course_by_l_met)) (by rfl) (by decide) (by decide)) rfl) (@pss_cons _ _ _ _ _ (@ps_expr _ _ _ _ (@pe_bm_k _ (K) _ _ _ _ _ _ _ _ _ _ _ PySem.F.plainAttrs_list PySem.F.slot_list_append PySem.F.type_list_append (@mt_appendA _) (@pw _ 6 _ _ (Or.inr (Or.inl k_l_course_by_l_met)) (by rfl) (by decide) (by decide)) (@pa_c _ _ _ _ _ (@pw _ 8 _ _ (Or.inr (Or.inl k_l_course_by_l_here)) (by rfl) (by decide) (by decide)) (@pa_nil _) rfl) (by rfl) (by rfl) (by rfl) (by rfl) (by rfl) (by rfl)) (by rfl)) (@pss_one _ _ _ (@ps_expr _ _ _ _ (@pe_bm_k _ (K) _ _ _ _ _ _ _ _ _ _ _ PySem.F.plainAttrs_list PySem.F.slot_list_extend PySem.F.type_list_extend (@mt_extendA _) (@pw _ 5 _ _ (Or.inl k_l_course_by_l_rows) (by rfl) (by decide) (by decide)) (@pa_c _ _ _ _ _ (@pe_comp _ _ _ _ _ _ _ (["_law_step", "_law_course", "_law_here", "_law_met"]) (1) ([7, 8, 6]) _ _ _ _ rfl (by kernel_rfl) (@pi_list_k _ (K) _ _ _ (@pw _ 1 _ _ (Or.inl k_l_course_by_l_steps) (by rfl) (by decide) (by decide)) (by rfl)) (fun _ _ _ _ _ _ => (@pg_name _ _ (0) _ (@nodupS _ (by kernel_rfl)) rfl (Or.inl (by kernel_rfl)) (by first | exact .inl rfl | exact .inr rfl | assumption))) (fun _ _ _ _ _ _ => (@pifs_one _ _ _ (@PW.pt _ _ _ (@pw_and _ _ _ _ _ _ _ (@pt_cmpR _ _ _ _ _ _ _ _ (@op_eq _) (@pe_ix _ _ _ _ _ _ _ (@ixT_k _ (K) (by rfl)) (@pw _ 0 _ _ (Or.inl (by kernel_rfl)) (by rfl) (by decide) (by decide)) (@pe_int _ _ _ _) (fun _ _ => rfl)) (@pw _ 2 _ _ (Or.inr (Or.inl (by kernel_rfl))) (by rfl) (by decide) (by decide)) (@nomark _ _ (by decide) (by decide))) (@pw_and1 _ _ _ _ (@pt_cmpR _ _ _ _ _ _ _ _ (@notIn_k _ (K) (by rfl)) (@pe_ix _ _ _ _ _ _ _ (@ixT_k _ (K) (by rfl)) (@pw _ 0 _ _ (Or.inl (by kernel_rfl)) (by rfl) (by decide) (by decide)) (@pe_int _ _ _ _) (fun _ _ => rfl)) (@pw _ 3 _ _ (Or.inr (Or.inl (by kernel_rfl))) (by rfl) (by decide) (by decide)) rfl)))))) (fun _ _ _ _ _ _ => (@pe_tupA _ _ _ _ _ (@pa_c _ _ _ _ _ (@pe_op _ _ _ _ _ _ _ _ (@op_catA _) (@pw _ 1 _ _ (Or.inr (Or.inl (by kernel_rfl))) (by rfl) (by decide) (by decide)) (@pe_lstA _ _ _ _ (@pa_c _ _ _ _ _ (@pw _ 0 _ _ (Or.inl (by kernel_rfl)) (by rfl) (by decide) (by decide)) (@pa_nil _) rfl))) (@pa_c _ _ _ _ _ (@pe_ix _ _ _ _ _ _ _ (@ixT_k _ (K) (by rfl)) (@pw _ 0 _ _ (Or.inl (by kernel_rfl)) (by rfl) (by decide) (by decide)) (@pe_int _ _ _ _) (fun _ _ => rfl)) (@pa_nil _) rfl) rfl))) (by intro _; rfl)) (@pa_nil _) rfl) (by rfl) (by rfl) (by rfl) (by rfl) (by rfl) (by rfl)) (by rfl)))) (@pss_nil _)))))) (@pss_one _ _ _ (@ps_ret _ _ _ _ (@pe_non _ _ _))))), ?_⟩
    refine ⟨(by show 0 ≤ 10000; decide), fun c0 G1 n1 => ⟨_, rfl, (by show 2 ≤ 10000; decide), fun T0 G2 n2 => ⟨(by show 1 ≤ 10000; decide), fun R G3 n3 => ⟨_, rfl, ba, _, rfl, .inl (SqL.of (n3.sm _ _ (n2.sm _ _ (n1.sm _ _ hba)))), fun M G4 n4 => ⟨(by show 2 ≤ 10000; decide), fun T1 G5 n5 => ⟨T1, _, rfl, SqT.of n5.at', rfl, _, _, rfl, _, _, rfl, rfl, ?_⟩⟩⟩⟩⟩⟩
    dsimp only
    have s05 : Same H G5 := (((n1.sm.trans n2.sm).trans n3.sm).trans n4.sm).trans n5.sm
    have hR5 : G5 R = some (.lst [.ref T0]) := n5.sm _ _ (n4.sm _ _ n3.at')
    have hM5 := n5.sm _ _ n4.at'
    have hc5 : G5 c0 = some (.lst []) := n5.sm _ _ (n4.sm _ _ (n3.sm _ _ (n2.sm _ _ n1.at')))
    have hT5 : G5 T0 = some (.tup [.ref c0, .str (S f)]) := n5.sm _ _ (n4.sm _ _ (n3.sm _ _ n2.at'))
    have B5 := B0.same s05
    have fR : H R = none := (n1.sm.trans n2.sm).free n3.fr
    have fM : H M = none := ((n1.sm.trans n2.sm).trans n3.sm).free n4.fr
    have nRb : ¬ R = b := fun z => B0.ne fR z.symm
    have nMb : ¬ M = b := fun z => B0.ne fM z.symm
    have nRM : ¬ R = M := fun z => by have q := n4.fr; rw [← z, n3.at'] at q; cases q
    have hsa5 := s05 _ _ hsa
    have nsR : ¬ sa = R := fun z => by rw [z, fR] at hsa; cases hsa
    have nsM : ¬ sa = M := fun z => by rw [z, fM] at hsa; cases hsa
    have nc : ¬ E3 b R M c0 := by
      rintro (z | z | z)
      · exact B0.ne n1.fr z.symm
      · have := n2.sm _ _ n1.at'; rw [z, n3.fr] at this; cases this
      · have := n3.sm _ _ (n2.sm _ _ n1.at'); rw [z, n4.fr] at this; cases this
    have out : ∀ {J : Hp}, SameE (E3 b R M) G5 J → SameE (Eb b) H J := fun h => ⟨fun a o na ha => h.old a o (by
      rintro (z | z | z)
      · exact na z
      · rw [z, fR] at ha; cases ha
      · rw [z, fM] at ha; cases ha) (s05 _ _ ha), fun a us ha => h.tup a us (s05 _ _ ha)⟩
    refine seqR fun DB nB rB => ?_
    have un0 : unmet ls bs ≤ 10 := Nat.le_trans (List.length_filter_le ..) lls
    refine ⟨CInv b R M sa ba f e ls ss G5 t, ⟨unmet ls bs * 81 + 1, [.ref T0], [([], f)], bs, none, none, t, rfl, hR5, .cons (.tup hT5 (.cons (.lst hc5 nc .nil) (.cons (.str _) .nil))) .nil, hM5, B5, SameE.refl _, ?_, rfl, by trivial, by trivial, by trivial⟩, ?_⟩
    · intro r hr'
      rw [List.mem_singleton.mp hr']
      exact ⟨(fun c hc => by cases hc), rfl, (by simp), (fun c hc => by cases hc), fls⟩
    rintro m σ J ⟨rvs, rs, ms, v7, v8, t', rfl, hR, iR, hM, B, sE, hrw, em, ht2, ht3, hms⟩
    have lrs : rvs.length = rs.length := by rw [iR.length, List.length_map]
    refine ⟨_, rfl, (by show 0 ≤ 10000; decide), fun z J1 m1 => ⟨R, z, rvs, rfl, rfl, m1.sm _ _ hR, m1.at', _, rfl, ?_⟩⟩
    have hR1 := m1.sm _ _ hR
    have B1 := B.same m1.sm
    have sE1 : SameE (E3 b R M) G5 J1 := sE.trans m1.sm.toE
    by_cases h0 : rvs = []
    · subst h0
      refine iteF (nB _ _ ?_)
      exact k1 t' J1 (out sE1) B1 (by trivial) (by trivial)
    have l1 : 1 ≤ rvs.length := by
      cases rvs with
      | nil => exact absurd rfl h0
      | cons => simp
    have e1 : (!rvs.isEmpty) = true := by
      cases rvs with
      | nil => exact absurd rfl h0
      | cons => rfl
    rw [e1]
    refine iteT ⟨fun σ' J' => ∃ m', m' < m ∧ CInv b R M sa ba f e ls ss G5 t m' σ' J', fun σ' J' z => z, ?_⟩
    have hmn : 0 < (if (3 : Int) < (rvs.length : Int) then (3 : Int) else (rvs.length : Int)) ∧ (if (3 : Int) < (rvs.length : Int) then (3 : Int) else (rvs.length : Int)) ≤ 3 ∧ (if (3 : Int) < (rvs.length : Int) then (3 : Int) else (rvs.length : Int)) ≤ rvs.length := by
      split <;> trivial
    refine ⟨_, rfl, .inl ⟨rfl, _, SqL.of hR1⟩, _, rfl, R, _, rfl, .inl (SqL.of hR1), _, _, rfl, rfl, _, rfl, _, rfl, R, _, rfl, .inl (SqL.of hR1), _, _, rfl, b, _, t', rfl, B1, hmn.1, log9 hmn.1 (by trivial), by trivial, by trivial, fun r t2 J2 r0 r1 h2a h2b j2 B2 => ?_⟩
    obtain ⟨i, ei, hi⟩ : ∃ i : Nat, (rvs.length : Int) - 1 - r = (i : Int) ∧ i < rvs.length := ⟨((rvs.length : Int) - 1 - r).toNat, by trivial, by trivial⟩
    obtain ⟨y, ey⟩ : ∃ y, rvs[i]? = some y := ⟨_, List.getElem?_eq_getElem hi⟩
    obtain ⟨row, er⟩ : ∃ row, rs[i]? = some row := ⟨_, List.getElem?_eq_getElem (by trivial)⟩
    have wb : SameE (E3 b R M) J1 J2 := SameE.weak (.inl rfl) j2
    have hR2 : J2 R = some (.lst rvs) := j2.old R _ nRb hR1
    have iR2 : IsAll (E3 b R M) J2 rvs (rs.map rowD) := (iR.mono m1.sm.toE).mono wb
    have hM2 := j2.old M _ nMb (m1.sm _ _ hM)
    refine ⟨_, _, rfl, rfl, R, rvs, i, y, rfl, congrArg (fun z => [V.int z]) ei, hR2, by trivial, ey, fun J3 c3 => ?_⟩
    have sC3 : SameE (E3 b R M) J2 J3 := ⟨fun a o na ha => c3.ol a o (fun z => na (.inr (.inl z))) ha, fun a us ha => c3.tup ha hR2⟩
    have iR3 := iR2.mono sC3
    obtain ⟨T', c, zs, rfl, hT', hc, ncE, izs⟩ := row_inv (iR3.nth i ey (by rw [List.getElem?_map, er]; rfl))
    have hrow := hrw row (List.mem_of_getElem? er)
    have hM3 := c3.ol M _ (fun z => nRM z.symm) hM2
    have B3 := B2.ch c3 (fun z => nRb z.symm)
    have sE3 : SameE (E3 b R M) G5 J3 := (sE1.trans wb).trans sC3
    have lpath : row.1.length + 1 ≤ ls.length := by
      have := nodup_le (ys := ls) hrow.nd fun x hx => by
        rw [← hrow.p] at hx
        rcases List.mem_cons.mp hx with q | q
        · rw [q]; exact fls
        · obtain ⟨c, hc, rfl⟩ := List.mem_map.mp q
          exact sls c (hrow.m c hc)
      simp at this
      trivial
    refine ⟨T', _, rfl, SqT.of hT', rfl, _, _, rfl, _, _, rfl, rfl, ?_⟩
    dsimp only
    have lrs' : (rs.eraseIdx i).length = rs.length - 1 := List.length_eraseIdx_of_lt (by trivial)
    have iE := all_erase i iR3
    rw [erase_map] at iE
    have mE : ∀ r ∈ rs.eraseIdx i, r ∈ rs := fun r hr' => List.mem_of_mem_eraseIdx hr'
    refine seqR fun DC nC rC => ?_
    refine ⟨_, rfl, _, rfl, rfl, _, rfl, ?_⟩
    rw [show decide (V.str (S row.2) = V.str (S e)) = decide (row.2 = e) from dec_str]
    by_cases he : row.2 = e
    · rw [decide_eq_true he]
      refine iteT ⟨_, rfl, rC _ _ (rB _ _ ?_)⟩
      have hrow' := hrow
      refine k2 c zs row.1 t2 J3 (out sE3) B3 (by trivial) (by trivial) (fun z => ncE (.inl z)) hc (steps_ED izs) ⟨hrow.m, ?_, ?_, by trivial⟩
      · rw [← he]; exact hrow.p
      · rw [← he]; exact hrow.nd
    rw [decide_eq_false he]
    refine iteF (nC _ _ ?_)
    refine ⟨_, rfl, _, rfl, M, _, rfl, .inl (SqL.of hM3), rfl, flatS ms, _, rfl, ?_⟩
    have einv : (if true = true then !inV (V.str (S row.2)) (ms.map strV) else inV (V.str (S row.2)) (ms.map strV)) = !ms.contains row.2 := by
      show (!inV (strV row.2) (ms.map strV)) = _
      rw [inS]
    rw [einv]
    by_cases hin : row.2 ∈ ms
    · rw [show (!ms.contains row.2) = false by simp [hin]]
      refine iteF ⟨unmet ls ms * 81 + (rs.length - 1), by trivial, rvs.eraseIdx i, rs.eraseIdx i, ms, _, _, t2, rfl, c3.at', iE, hM3, B3, sE3, fun r hr' => hrw r (mE r hr'), by rw [lrs'], by trivial, by trivial, hms⟩
    rw [show (!ms.contains row.2) = true by simp [hin]]
    have ult := unmet_lt hrow.l hin
    refine iteT ?_
    refine seqH fun DD nD => ?_
    refine ⟨_, rfl, .inl ⟨rfl, _, SqL.of hM3⟩, _, rfl, M, _, _, rfl, rfl, hM3, by rw [List.length_map]; trivial, fun J4 c4 => nD _ _ ?_⟩
    have hR4 := c4.ol R _ nRM c3.at'
    have sC4 : SameE (E3 b R M) J3 J4 := ⟨fun a o na ha => c4.ol a o (fun z => na (.inr (.inr z))) ha, fun a us ha => c4.tup ha hM3⟩
    have iE4 := iE.mono sC4
    have izs4 := izs.mono sC4
    have hc4 := c4.ol c _ (fun z => ncE (.inr (.inr z))) hc
    have B4 := B3.ch c4 (fun z => nMb z.symm)
    have sE4 := sE3.trans sC4
    have hsa4 : J4 sa = some (.lst xs) := sE4.old sa _ (fun z => z.elim nsb fun z => z.elim nsR nsM) hsa5
    have ixs4 : IsAll ED J4 xs (ss.map sD) := (ixs.mono s05.toE).tupS sE4
    have lxs : xs.length = ss.length := by rw [ixs.length, List.length_map]
    have hM4 : J4 M = some (.lst ((ms ++ [row.2]).map strV)) := by rw [c4.at', List.map_append]; rfl
    refine ⟨_, rfl, .inl ⟨rfl, _, SqL.of hR4⟩, _, rfl, sa, rfl, ⟨_, SqL.of hsa4⟩, fun D hD => comp_over (n := xs.length) (fun i H' ys => ∃ ns : List (List SD × List Nat), H' D = some (.lst ys) ∧ IsAll (fun a => E3 b R M a ∨ a = D) H' ys (ns.map rowD) ∧ ys.length ≤ i ∧ (∀ r ∈ ns, Rw f ls ss (ms ++ [row.2]) r) ∧ Same J4 H') (sz_of (by trivial)) ⟨[], upd_same, .nil, Nat.le_refl _, (fun r hr' => by cases hr'), Same.new hD⟩ ?_ ?_ ?_ ?_ ?_⟩
    · rintro i H' ys ⟨ns, e1, _, e3, _⟩
      exact ⟨e1, e3⟩
    · rintro i H' ys hi' ⟨ns, _, _, _, _, sm⟩
      exact ⟨xs, xs[i], SqL.of (sm _ _ hsa4), List.getElem?_eq_getElem hi'⟩
    · rintro H' ys ⟨ns, _, _, _, _, sm⟩
      exact ⟨xs, SqL.of (sm _ _ hsa4), Nat.le_refl _⟩
    · rintro i' H' ys x H'' hi' ⟨ns, hD', iD, lD, rD, sm⟩ ⟨rfl, ex⟩
      have exi := ex _ (SqL.of (sm _ _ hsa4))
      obtain ⟨dx, edx, gx⟩ := ixs4.get exi
      rw [List.getElem?_map] at edx
      obtain ⟨sd, esd, rfl⟩ := Option.map_eq_some_iff.mp edx
      have msd := List.mem_of_getElem? esd
      obtain ⟨o, orr, og, rfl, ho, hor, hog⟩ := step_inv gx
      have ho' := sm _ _ ho
      have hM' := sm _ _ hM4
      have hno : ∀ {J : Hp}, Same H'' J → ∃ ns : List (List SD × List Nat), J D = some (.lst ys) ∧ IsAll (fun a => E3 b R M a ∨ a = D) J ys (ns.map rowD) ∧ ys.length ≤ i' + 1 ∧ (∀ r ∈ ns, Rw f ls ss (ms ++ [row.2]) r) ∧ Same J4 J := fun sJ => ⟨ns, sJ _ _ hD', iD.mono sJ.toE, by trivial, rD, sm.trans sJ⟩
      refine ⟨back1, _, rfl, o, _, _, _, rfl, rfl, SqT.of ho', rfl, _, rfl, rfl, _, rfl, ?_⟩
      rw [show decide (V.str (S sd.st) = V.str (S row.2)) = decide (sd.st = row.2) from dec_str]
      by_cases h1 : sd.st = row.2
      · rw [decide_eq_true h1]
        refine iteT ⟨_, rfl, o, _, _, _, rfl, rfl, SqT.of ho', rfl, _, rfl, M, _, rfl, .inl (SqL.of hM'), rfl, flatS _, _, rfl, ?_⟩
        have einv2 : (if true = true then !inV (V.str (S sd.en)) ((ms ++ [row.2]).map strV) else inV (V.str (S sd.en)) ((ms ++ [row.2]).map strV)) = !(ms ++ [row.2]).contains sd.en := by
          show (!inV (strV sd.en) ((ms ++ [row.2]).map strV)) = _
          rw [inS]
        rw [einv2]
        by_cases h2 : sd.en ∈ ms ++ [row.2]
        · rw [show (!(ms ++ [row.2]).contains sd.en) = false by rw [List.contains_iff_mem.mpr h2]; rfl]
          exact iteF (hno (Same.refl _))
        · rw [show (!(ms ++ [row.2]).contains sd.en) = true by simpa using h2]
          refine iteT ⟨_, rfl, _, rfl, (by show 1 ≤ 10000; decide), fun l1 K1 q1 => ⟨c, l1, zs, _, rfl, rfl, q1.sm _ _ (sm _ _ hc4), q1.at', ?_, fun c' K2 q2 => ⟨_, rfl, o, _, _, _, rfl, rfl, SqT.of (q2.sm _ _ (q1.sm _ _ ho')), rfl, (by show 2 ≤ 10000; decide), fun T2 K3 q3 => ?_⟩⟩⟩
          · have : zs.length = row.1.length := by rw [izs.length, List.length_map]
            simp
            trivial
          have s3 := (q1.sm.trans q2.sm).trans q3.sm
          have hD3 := s3 _ _ hD'
          have ncD : ¬ (E3 b R M c' ∨ c' = D) := by
            rintro ((z | z | z) | z)
            · exact absurd z (fun z => (B4.same (sm.trans q1.sm)).ne q2.fr z.symm)
            · have := q1.sm _ _ (sm _ _ hR4); rw [← z, q2.fr] at this; cases this
            · have := q1.sm _ _ hM'; rw [← z, q2.fr] at this; cases this
            · have := q1.sm _ _ hD'; rw [← z, q2.fr] at this; cases this
          have sU : SameE (fun a => E3 b R M a ∨ a = D) K3 (upd K3 D (.lst (ys ++ [.ref T2]))) := by
            have c5 : Ch K3 D (ys ++ [.ref T2]) _ := Ch.mk'
            exact ⟨fun a o na ha => c5.ol a o (fun z => na (.inr z)) ha, fun a us ha => c5.tup ha hD3⟩
          refine ⟨hD3, ns ++ [(row.1 ++ [sd], sd.en)], upd_same, ?_, by rw [List.length_append]; simp; trivial, fun r hr' => ?_, same_lst hD (sm.trans s3)⟩
          · rw [List.map_append]
            refine ((iD.mono s3.toE).append (.cons ?_ .nil)).mono sU
            refine .tup q3.at' (.cons (.lst (q3.sm _ _ q2.at') ncD ?_) (.cons (.str _) .nil))
            rw [List.map_append]
            have z1 : IsAll ED K3 zs (row.1.map sD) := ((steps_ED izs4).mono (sm.trans s3).toE)
            exact (all_any z1).append (.cons ((gx.mono (sm.trans s3).toE).any) .nil)
          · rcases List.mem_append.mp hr' with q | q
            · exact rD r q
            · rw [List.mem_singleton.mp q]
              exact (hrow.up row.2).on msd h1 h2 (by simp) (sls sd msd)
      · rw [decide_eq_false h1]
        exact iteF (iteF (hno (Same.refl _)))
    · rintro J5 ys ⟨ns, hD5, iD5, lD5, rD5, sm5⟩
      have hR5' := sm5 _ _ hR4
      have lns : ys.length = ns.length := by rw [iD5.length, List.length_map]
      have lE : (rvs.eraseIdx i).length = rs.length - 1 := by rw [← lrs', iE.length, List.length_map]
      refine ⟨R, D, _, ys, rfl, rfl, hR5', hD5, by trivial, fun J6 c6 => ?_⟩
      have sC6 : SameE (E3 b R M) J5 J6 := ⟨fun a o na ha => c6.ol a o (fun z => na (.inr (.inl z))) ha, fun a us ha => c6.tup ha hR5'⟩
      refine ⟨unmet ls (ms ++ [row.2]) * 81 + (rs.eraseIdx i ++ ns).length, ?_, _, rs.eraseIdx i ++ ns, ms ++ [row.2], _, _, t2, rfl, c6.at', ?_, c6.ol M _ (fun z => nRM z.symm) (sm5 _ _ hM4), (B4.same sm5).ch c6 (fun z => nRb z.symm), (sE4.trans sm5.toE).trans sC6, fun r hr' => ?_, rfl, by trivial, ?_, ?_⟩
      · rw [List.length_append, lrs']; trivial
      · rw [List.map_append]
        exact (((iE4.mono sm5.toE)).append (iD5.narrow fun a z => .inl z)).mono sC6
      · rcases List.mem_append.mp hr' with q | q
        · exact (hrw r (mE r q)).up _
        · exact rD5 r q
      · rw [List.length_append, lrs']; trivial
      · rw [List.length_append]; simp; trivial
end
end K16
namespace K16
open PySem L2
set_option maxHeartbeats 4000000
abbrev prD (x : SD × KM.Fra) : PyData := .tuple [sD x.1, frD x.2]
theorem pr_inv {E : Addr → Prop} {H : Hp} {v : V} {x : SD × KM.Fra} (h : IsD E H v (prD x)) : Ex3 fun T o p => v = .ref T ∧ H T = some (.tup [.ref o, .ref p]) ∧ IsD E H (.ref o) (sD x.1) ∧ H p = some (fr x.2) := by
  cases h with
  | @tup a xs _ h r' =>
    cases r' with
    | @cons u1 _ _ _ h1 r' =>
    cases r' with
    | @cons u2 _ _ _ h2 r' =>
    cases r'
    obtain ⟨o, r, g, rfl, _⟩ := step_inv h1
    obtain ⟨p, rfl, hp⟩ := isF_inv h2
    exact ⟨a, o, p, rfl, h, h1, hp⟩
structure PrC (a b : Nat) (x : SD × KM.Fra) : Prop where
  r : Gb a b x.1.room
  g : Gb 6 6 x.1.gain
  g1 : 1 ≤ x.1.gain.1
  p : Gb 55 55 x.2
  p1 : 1 ≤ x.2.1
section
variable {P : Program} {w : World} {K : PySem.W.Frag} {mg : Str → Option Value} {base : Heap}
inductive spPartsOn_ (vs : List V) (H : Hp) (Q : VK) : Prop
  | mk (ca po : Addr) (zs : List V) (cs : List SD) (h0 : vs = [.ref ca, .ref po]) (h1 : H ca = some (.lst zs)) (h2 : IsAll ED H zs (cs.map sD)) (h3 : cs.length ≤ 10) (h4 : (∀ c ∈ cs, Gb 6 6 c.gain ∧ 1 ≤ c.gain.1)) (h5 : H po = some (fr (1, 1))) (h6 : ∀ T F q fs (xs : List (SD × KM.Fra)) H', Same H H' → H' T = some (.tup [.ref F, .ref q]) → H F = none → H' F = some (.lst fs) → IsAll ED H' fs (xs.map prD) → xs.map (·.1) = cs → (∀ x ∈ xs, Gb 55 55 x.2 ∧ 1 ≤ x.2.1) → Q (.ref T) H')
def spPartsOn : Sp := fun vs H Q _ => spPartsOn_  vs H Q
theorem ok_l_parts_on (T : Txt K mg) : FnOk P w K mg base CX0 3 T.f_l_parts_on T.d_l_parts_on ["_law_steps", "_law_part"] spPartsOn := by
  have G_l_product := ok_l_product (P := P) (w := w) (base := base) T
  refine T.F_l_parts_on.ok sc_l_parts_on (fun vs H Q E h => ?_) (fun cdv A outer s H vs Q E hr h => ?_)
  · obtain ⟨ca, po, zs, cs, rfl, _⟩ := h
    rfl
  · obtain ⟨ca, po, zs, cs, rfl, hca, izs, lcs, gcs, hpo, k⟩ := h
    have lzs : zs.length = cs.length := by rw [izs.length, List.length_map]
    refine ⟨_, (@pss_cons _ _ _ _ _ (@ps_set _ _ (2) _ _ _ _ sc_l_parts_on.nd rfl (Or.inl k_l_parts_on_l_found) (@pe_lstA _ _ _ _ (@pa_nil _)) (by rfl) (by first | exact .inl rfl | exact .inr rfl | assumption)) (@pss_cons _ _ _ _ _ (@ps_for _ _ _ _ _ _ _ _ PassesOwn.never rfl (@pi_list_k _ (K) _ _ _ (@pw _ 0 _ _ (Or.inl k_l_parts_on_l_steps) (by rfl) (by decide) (by decide)) (by rfl)) (@pg_name _ _ (3) _ sc_l_parts_on.nd rfl (Or.inl k_l_parts_on_l_step) (by first | exact .inl rfl | exact .inr rfl | assumption)) (@pss_cons _ _ _ _ _ (@ps_expr _ _ _ _ (@pe_bm_k _ (K) _ _ _ _ _ _ _ _ _ _ _ PySem.F.plainAttrs_list PySem.F.slot_list_append PySem.F.type_list_append (@mt_appendA _) (@pw _ 2 _ _ (Or.inl k_l_parts_on_l_found) (by rfl) (by decide) (by decide)) (@pa_c _ _ _ _ _ (@pe_tupA _ _ _ _ _ (@pa_c _ _ _ _ _ (@pw _ 3 _ _ (Or.inl k_l_parts_on_l_step) (by rfl) (by decide) (by decide)) (@pa_c _ _ _ _ _ (@pw _ 1 _ _ (Or.inl k_l_parts_on_l_part) (by rfl) (by decide) (by decide)) (@pa_nil _) rfl) rfl)) (@pa_nil _) rfl) (by rfl) (by rfl) (by rfl) (by rfl) (by rfl) (by rfl)) (by rfl)) (@pss_one _ _ _ (@ps_set _ _ (1) _ _ _ _ sc_l_parts_on.nd rfl (Or.inl k_l_parts_on_l_part) (@pe_call _ _ _ _ _ _ _ _ _ _ _ _ _ _ _ _ G_l_product (hr.mono (by decide)) k_l_parts_on_l_product T.m_l_product T.F_l_product.kp T.B_l_product .nil (@pass0 _) (@pa_c _ _ _ _ _ (@pw _ 1 _ _ (Or.inl k_l_parts_on_l_part) (by rfl) (by decide) (by decide)) (@pa_c _ _ _ _ _ (@pe_ix _ _ _ _ _ _ _ (@ixT_k _ (K) (by rfl)) (@pw _ 3 _ _ (Or.inl k_l_parts_on_l_step) (by rfl) (by decide) (by decide)) (@pe_int _ _ _ _) (fun _ _ => rfl)) (@pa_nil _) rfl) rfl) (by decide) (by rfl) (by rfl)) (by rfl) (by first | exact .inl rfl | exact .inr rfl | assumption)))) (by intro _; rfl)) (@pss_one _ _ _ (@ps_ret _ _ _ _ (@pe_tupA _ _ _ _ _ (@pa_c _ _ _ _ _ (@pw _ 2 _ _ (Or.inl k_l_parts_on_l_found) (by rfl) (by decide) (by decide)) (@pa_c _ _ _ _ _ (@pw _ 1 _ _ (Or.inl k_l_parts_on_l_part) (by rfl) (by decide) (by decide)) (@pa_nil _) rfl) rfl)))))), ?_⟩
    refine seqA fun Q1 nA => ⟨(by show 0 ≤ 10000; decide), fun F H1 n1 => nA _ _ ?_⟩
    refine seqH fun DB nB => ?_
    refine ⟨_, rfl, ca, rfl, ⟨_, SqL.of (n1.sm _ _ hca)⟩, for_list (xs := zs) (fun i σ H' => Ex5 fun po v3 fs xs pp => σ = [some (.ref ca), some (.ref po), some (.ref F), v3] ∧ H' po = some (fr pp) ∧ Gb (1 + 6 * i) (1 + 6 * i) pp ∧ 1 ≤ pp.1 ∧ H' F = some (.lst fs) ∧ IsAll ED H' fs (xs.map prD) ∧ xs.map (·.1) = cs.take i ∧ (∀ x ∈ xs, Gb 55 55 x.2 ∧ 1 ≤ x.2.1) ∧ Same H H') ⟨po, none, [], [], (1, 1), rfl, n1.sm _ _ hpo, gb11, by decide, n1.at', .nil, rfl, (fun x hx => by cases hx), n1.sm⟩ ?_ ?_ ?_⟩
    · rintro i σ H' _ ⟨_, _, _, _, _, _, _, _, _, _, _, _, _, sm⟩
      exact SqL.of (sm _ _ hca)
    · rintro i x σ J hx ⟨po, v3, fs, xs, pp, rfl, hpo, gpp, pp1, hF, iF, ex, gx, sm⟩
      have hi : i < zs.length := (List.getElem?_eq_some_iff.mp hx).1
      obtain ⟨dx, edx, gs⟩ := izs.get hx
      rw [List.getElem?_map] at edx
      obtain ⟨sd, esd, rfl⟩ := Option.map_eq_some_iff.mp edx
      obtain ⟨gg, g1⟩ := gcs sd (List.mem_of_getElem? esd)
      obtain ⟨o, orr, og, rfl, ho, hor, hog⟩ := step_inv gs
      have lxs : xs.length = i := by
        have := congrArg List.length ex
        rw [List.length_map, List.length_take] at this
        trivial
      have lfs : fs.length = i := by rw [iF.length, List.length_map, lxs]
      refine seqH fun DC nC => ?_
      refine ⟨_, rfl, .inl ⟨rfl, _, SqL.of hF⟩, _, rfl, _, rfl, (by show 2 ≤ 10000; decide), fun T2 J2 n2 => ⟨F, _, _, rfl, rfl, n2.sm _ _ hF, by trivial, fun J3 c3 => nC _ _ ?_⟩⟩
      have hF2 := n2.sm _ _ hF
      have s3 : Same H J3 := Same.ch (sm.trans n2.sm) c3 n1.fr
      have hpo3 := c3.tup (n2.sm _ _ hpo) hF2
      have ho3 := s3 _ _ ho
      refine ⟨_, rfl, _, rfl, o, _, _, _, rfl, rfl, SqT.of ho3, rfl, po, og, pp, sd.gain, _, _, _, _, rfl, hpo3, s3 _ _ hog, gpp, gg, by trivial, by trivial, by decide, by decide, (fun z => by cases z), fun q J4 n4 => ?_⟩
      refine ⟨q, _, fs ++ [.ref T2], xs ++ [(sd, pp)], _, rfl, n4.at', gpp.tim gg (by trivial) (by trivial), tim_pos pp1 gpp.pos g1 gg.pos, n4.sm _ _ c3.at', ?_, ?_, fun x hx => ?_, s3.trans n4.sm⟩
      · rw [List.map_append]
        refine (all_snoc c3 hF2 (iF.mono n2.sm.toE) ?_).mono n4.sm.toE
        exact .tup n2.at' (.cons ((gs.mono (sm.trans n2.sm).toE)) (.cons (isF (p := pp) (n2.sm _ _ hpo)) .nil))
      · rw [List.map_append, ex, List.take_succ, esd]; rfl
      · rcases List.mem_append.mp hx with q' | q'
        · exact gx x q'
        · rw [List.mem_singleton.mp q']
          exact ⟨gpp.mono (by trivial) (by trivial), pp1⟩
    · rintro σ J ⟨po, v3, fs, xs, pp, rfl, hpo, gpp, pp1, hF, iF, ex, gx, sm⟩
      rw [lzs, List.take_length] at ex
      refine nB _ _ ⟨_, rfl, _, rfl, (by show 2 ≤ 10000; decide), fun T2 J2 n2 => ?_⟩
      exact k T2 F po fs xs J2 (sm.trans n2.sm) n2.at' n1.fr (n2.sm _ _ hF) (iF.mono n2.sm.toE) ex gx
inductive spAlong_ (vs : List V) (H : Hp) (Q : VK) : Prop
  | mk (F : Addr) (fs : List V) (xs : List (SD × KM.Fra)) (a b : Nat) (h0 : vs = [.ref F]) (h1 : H F = some (.lst fs)) (h2 : IsAll ED H fs (xs.map prD)) (h3 : 1 ≤ xs.length) (h4 : (∀ x ∈ xs, PrC a b x)) (h5 : a ≤ 3000) (h6 : b ≤ 3000) (h7 : ∀ o z H', Same H H' → H' o = some (fr z) → Gb (a + 55) (b + 55) z → Q (.ref o) H')
def spAlong : Sp := fun vs H Q _ => spAlong_  vs H Q
theorem ok_l_much_along (T : Txt K mg) : FnOk P w K mg base CX0 3 T.f_l_much_along T.d_l_much_along ["_law_parts"] spAlong := by
  have G_l_over := ok_l_over (P := P) (w := w) (base := base) T
  have G_l_above := ok_l_above (P := P) (w := w) (base := base) T
  refine T.F_l_much_along.ok sc_l_much_along (fun vs H Q E h => ?_) (fun cdv A outer s H vs Q E hr h => ?_)
  · obtain ⟨F, fs, xs, a, b, rfl, _⟩ := h
    rfl
  · obtain ⟨F, fs, xs, a, b, rfl, hF, iF, l1, gx, ha, hb, k⟩ := h
    have lfs : fs.length = xs.length := by rw [iF.length, List.length_map]
    refine ⟨_, (@pss_cons _ _ _ _ _ (@ps_set _ _ (1) _ _ _ _ sc_l_much_along.nd rfl (Or.inl k_l_much_along_l_found) (@pe_non _ _ _) (by rfl) (by first | exact .inl rfl | exact .inr rfl | assumption)) (@pss_cons _ _ _ _ _ (@ps_for _ _ _ _ _ _ _ _ PassesOwn.never rfl (@pi_list_k _ (K) _ _ _ (@pw _ 0 _ _ (Or.inl k_l_much_along_l_parts) (by rfl) (by decide) (by decide)) (by rfl)) (@pg_tup_k _ (K) _ _ _ _ (2) rfl (@pgs_cons _ _ _ _ _ (@pg_name _ _ (2) _ sc_l_much_along.nd rfl (Or.inl k_l_much_along_l_step) (by first | exact .inl rfl | exact .inr rfl | assumption)) (@pgs_cons _ _ _ _ _ (@pg_name _ _ (3) _ sc_l_much_along.nd rfl (Or.inl k_l_much_along_l_part) (by first | exact .inl rfl | exact .inr rfl | assumption)) (@pgs_nil _) (by rfl)) (by rfl)) (by rfl) (by rfl) (by rfl)) (@pss_cons _ _ _ _ _ (@ps_set _ _ (4) _ _ _ _ sc_l_much_along.nd rfl (Or.inl k_l_much_along_l_one) (@pe_call _ _ _ _ _ _ _ _ _ _ _ _ _ _ _ _ G_l_over (hr.mono (by decide)) k_l_much_along_l_over T.m_l_over T.F_l_over.kp T.B_l_over .nil (@pass0 _) (@pa_c _ _ _ _ _ (@pe_ix _ _ _ _ _ _ _ (@ixT_k _ (K) (by rfl)) (@pw _ 2 _ _ (Or.inl k_l_much_along_l_step) (by rfl) (by decide) (by decide)) (@pe_int _ _ _ _) (fun _ _ => rfl)) (@pa_c _ _ _ _ _ (@pw _ 3 _ _ (Or.inl k_l_much_along_l_part) (by rfl) (by decide) (by decide)) (@pa_nil _) rfl) rfl) (by decide) (by rfl) (by rfl)) (by rfl) (by first | exact .inl rfl | exact .inr rfl | assumption)) (@pss_one _ _ _ (@ps_set _ _ (1) _ _ _ _ sc_l_much_along.nd rfl (Or.inl k_l_much_along_l_found) (@pe_ifExp _ _ _ _ _ _ _ _ (@PW.pt _ _ _ (@pw_or _ _ _ _ _ _ _ (@pt_cmpR _ _ _ _ _ _ _ _ (@op_isN _) (@pw _ 1 _ _ (Or.inl k_l_much_along_l_found) (by rfl) (by decide) (by decide)) (@pe_non _ _ _) (@nomark _ _ (by decide) (by decide))) (@pw_or1 _ _ _ _ (@pt_cmpR _ _ _ _ _ _ _ _ (@op_gt _) (@pe_call _ _ _ _ _ _ _ _ _ _ _ _ _ _ _ _ G_l_above (hr.mono (by decide)) k_l_much_along_l_above T.m_l_above T.F_l_above.kp T.B_l_above .nil (@pass0 _) (@pa_c _ _ _ _ _ (@pw _ 1 _ _ (Or.inl k_l_much_along_l_found) (by rfl) (by decide) (by decide)) (@pa_c _ _ _ _ _ (@pw _ 4 _ _ (Or.inl k_l_much_along_l_one) (by rfl) (by decide) (by decide)) (@pa_nil _) rfl) rfl) (by decide) (by rfl) (by rfl)) (@pe_int _ _ _ _) (@nomark _ _ (by decide) (by decide)))))) (@pw _ 4 _ _ (Or.inl k_l_much_along_l_one) (by rfl) (by decide) (by decide)) (@pw _ 1 _ _ (Or.inl k_l_much_along_l_found) (by rfl) (by decide) (by decide))) (by rfl) (by first | exact .inl rfl | exact .inr rfl | assumption)))) (by intro _; rfl)) (@pss_one _ _ _ (@ps_ret _ _ _ _ (@pw _ 1 _ _ (Or.inl k_l_much_along_l_found) (by rfl) (by decide) (by decide)))))), ?_⟩
    refine seqA fun Q1 nA => nA _ _ ?_
    refine seqH fun DB nB => ?_
    refine ⟨_, rfl, F, rfl, ⟨_, SqL.of hF⟩, for_list (xs := fs) (fun i σ H' => Ex4 fun v1 v2 v3 v4 => σ = [some (.ref F), some v1, v2, v3, v4] ∧ (i = 0 → v1 = .non) ∧ (1 ≤ i → Ex2 fun o z => v1 = .ref o ∧ H' o = some (fr z) ∧ Gb (a + 55) (b + 55) z) ∧ Same H H') ⟨.non, _, _, _, rfl, (fun _ => rfl), (fun z => by trivial), Same.refl _⟩ ?_ ?_ ?_⟩
    · rintro i σ H' _ ⟨_, _, _, _, _, _, _, sm⟩
      exact SqL.of (sm _ _ hF)
    · rintro i x σ J hx ⟨v1, v2, v3, v4, rfl, hz, hnz, sm⟩
      obtain ⟨dx, edx, gs⟩ := iF.get hx
      rw [List.getElem?_map] at edx
      obtain ⟨pr, epr, rfl⟩ := Option.map_eq_some_iff.mp edx
      have pc := gx pr (List.mem_of_getElem? epr)
      obtain ⟨T2, o, p, rfl, hT2, gst, hp⟩ := pr_inv gs
      obtain ⟨o', orr, og, eo, ho, hor, hog⟩ := step_inv gst
      cases eo
      refine ⟨T2, _, rfl, SqT.of (sm _ _ hT2), rfl, _, _, rfl, _, _, rfl, rfl, ?_⟩
      dsimp only
      refine seqA fun Q2 nA2 => ⟨_, rfl, o, _, _, _, rfl, rfl, SqT.of (sm _ _ ho), rfl, _, rfl, orr, p, pr.1.room, pr.2, _, _, _, _, rfl, sm _ _ hor, sm _ _ hp, pc.r, pc.p, by trivial, by trivial, by decide, by decide, (fun _ => pc.p1), fun q J2 n2 => nA2 _ _ ?_⟩
      have gq : Gb (a + 55) (b + 55) (lOvr pr.1.room pr.2) := pc.r.ovr pc.p pc.p1 (by trivial) (by trivial)
      have fin : ∀ J' v, Same J2 J' → (Ex2 fun o z => v = .ref o ∧ J' o = some (fr z) ∧ Gb (a + 55) (b + 55) z) → Ex4 fun v1 v2 v3 v4 => [some (V.ref F), some v, some (.ref o), some (.ref p), some (.ref q)] = [some (.ref F), some v1, v2, v3, v4] ∧ (i + 1 = 0 → v1 = .non) ∧ (1 ≤ i + 1 → Ex2 fun o z => v1 = .ref o ∧ J' o = some (fr z) ∧ Gb (a + 55) (b + 55) z) ∧ Same H J' := fun J' v sJ hv => ⟨v, _, _, _, rfl, (fun z => by trivial), (fun _ => hv), (sm.trans n2.sm).trans sJ⟩
      by_cases h0 : i = 0
      · obtain rfl := hz h0
        refine ⟨_, rfl, rfl, _, rfl, ?_⟩
        refine iteT (iteT ⟨_, rfl, ?_⟩)
        exact fin J2 _ (Same.refl _) ⟨q, _, rfl, n2.at', gq⟩
      · obtain ⟨oz, z, rfl, hoz, gz'⟩ := hnz (by trivial)
        refine ⟨_, rfl, rfl, _, rfl, ?_⟩
        refine iteF ⟨_, rfl, _, rfl, oz, q, z, _, rfl, n2.sm _ _ hoz, n2.at', gz'.n.mono (by trivial), gz'.d.mono (by trivial), gq.n.mono (by trivial), gq.d.mono (by trivial), _, _, rfl, rfl, _, rfl, ite2 (fun c => ⟨_, rfl, ?_⟩) (fun c => ⟨_, rfl, ?_⟩)⟩
        · exact fin J2 _ (Same.refl _) ⟨q, _, rfl, n2.at', gq⟩
        · exact fin J2 _ (Same.refl _) ⟨oz, z, rfl, n2.sm _ _ hoz, gz'⟩
    · rintro σ J ⟨v1, v2, v3, v4, rfl, hz, hnz, sm⟩
      obtain ⟨o, z, rfl, ho, gz'⟩ := hnz (by trivial)
      exact nB _ _ ⟨_, rfl, k o z J sm ho gz'⟩
end
end K16
namespace K16
open PySem L2
set_option maxHeartbeats 4000000
theorem ixN_nat {n j : Nat} (h : j < n) : ixN n (j : Int) = some j := by
  unfold ixN
  simp [h]
section
variable {P : Program} {w : World} {K : PySem.W.Frag} {mg : Str → Option Value} {base : Heap}
inductive spPut_ (vs : List V) (H : Hp) (Q : VK) : Prop
  | mk (sa F mo : Addr) (ys fs : List V) (ps : List KM.Fra) (xs : List (SD × KM.Fra)) (mz : KM.Fra) (a1 b1 a2 b2 a b e f : Nat) (h0 : vs = [.ref sa, .ref F, .ref mo]) (h1 : H sa = some (.lst ys)) (h2 : IsAll ED H ys (ps.map frD)) (h3 : H F = some (.lst fs)) (h4 : IsAll ED H fs (xs.map prD)) (h5 : (∀ x ∈ xs, PrC a b x)) (h6 : (∀ x ∈ xs, x.1.n < ps.length)) (h7 : (xs.map (·.1.n)).Nodup) (h8 : H mo = some (fr mz)) (h9 : Gb a2 b2 mz) (h10 : (∀ p ∈ ps, Gb a1 b1 p)) (h11 : a1 ≤ 2000) (h12 : b1 ≤ 2000) (h13 : a2 ≤ 2000) (h14 : b2 ≤ 2000) (h15 : a1 + (b2 + 61) < e) (h16 : (a2 + 61) + b1 < e) (h17 : b1 + (b2 + 61) ≤ f) (h18 : ps.length ≤ 40) (h19 : ∀ (L : Addr) (ys' : List V) (ps' : List KM.Fra) (H' : Hp), Same H H' → H L = none → H' L = some (.lst ys') → IsAll ED H' ys' (ps'.map frD) → ps'.length = ps.length → (∀ p ∈ ps', Gb e f p) → Q (.ref L) H')
def spPut : Sp := fun vs H Q _ => spPut_  vs H Q
theorem ok_l_put (T : Txt K mg) : FnOk P w K mg base CX0 3 T.f_l_put T.d_l_put ["_law_stream", "_law_parts", "_law_much"] spPut := by
  have G_l_product := ok_l_product (P := P) (w := w) (base := base) T
  have G_l_minus := ok_l_minus (P := P) (w := w) (base := base) T
  have G_l_sum := ok_l_sum (P := P) (w := w) (base := base) T
  refine T.F_l_put.ok sc_l_put (fun vs H Q E h => ?_) (fun cdv A outer s H vs Q E hr h => ?_)
  · obtain ⟨sa, F, mo, ys, fs, ps, xs, mz, a1, b1, a2, b2, a, b, e, f, rfl, _⟩ := h
    rfl
  · obtain ⟨sa, F, mo, ys, fs, ps, xs, mz, a1, b1, a2, b2, a, b, e, f, rfl, hsa, iys, hF, iF, px, nx, nd, hmo, gm, gp, ha1, hb1, ha2, hb2, he1, he2, hf, hps, k⟩ := h
    have lys : ys.length = ps.length := by rw [iys.length, List.length_map]
    have lfs : fs.length = xs.length := by rw [iF.length, List.length_map]
    refine ⟨_, (@pss_cons _ _ _ _ _ (@ps_set _ _ (3) _ _ _ _ sc_l_put.nd rfl (Or.inl k_l_put_l_made) (@pe_callTy _ _ _ _ _ _ _ _ _ (@call_list_ofA _ (K) (by rfl)) k_l_put_list T.b_list (@boot_ty_list) (@pa_c _ _ _ _ _ (@pw _ 0 _ _ (Or.inl k_l_put_l_stream) (by rfl) (by decide) (by decide)) (@pa_nil _) rfl) (by decide) (by decide) (by rfl) (by rfl)) (by rfl) (by first | exact .inl rfl | exact .inr rfl | assumption)) (@pss_cons _ _ _ _ _ (@ps_for _ _ _ _ _ _ _ _ PassesOwn.never rfl (@pi_list_k _ (K) _ _ _ (@pw _ 1 _ _ (Or.inl k_l_put_l_parts) (by rfl) (by decide) (by decide)) (by rfl)) (@pg_tup_k _ (K) _ _ _ _ (2) rfl (@pgs_cons _ _ _ _ _ (@pg_name _ _ (4) _ sc_l_put.nd rfl (Or.inl k_l_put_l_step) (by first | exact .inl rfl | exact .inr rfl | assumption)) (@pgs_cons _ _ _ _ _ (@pg_name _ _ (5) _ sc_l_put.nd rfl (Or.inl k_l_put_l_part) (by first | exact .inl rfl | exact .inr rfl | assumption)) (@pgs_nil _) (by rfl)) (by rfl)) (by rfl) (by rfl) (by rfl)) (@pss_cons _ _ _ _ _ (@ps_set _ _ (6) _ _ _ _ sc_l_put.nd rfl (Or.inl k_l_put_l_goes) (@pe_call _ _ _ _ _ _ _ _ _ _ _ _ _ _ _ _ G_l_product (hr.mono (by decide)) k_l_put_l_product T.m_l_product T.F_l_product.kp T.B_l_product .nil (@pass0 _) (@pa_c _ _ _ _ _ (@pw _ 2 _ _ (Or.inl k_l_put_l_much) (by rfl) (by decide) (by decide)) (@pa_c _ _ _ _ _ (@pw _ 5 _ _ (Or.inl k_l_put_l_part) (by rfl) (by decide) (by decide)) (@pa_nil _) rfl) rfl) (by decide) (by rfl) (by rfl)) (by rfl) (by first | exact .inl rfl | exact .inr rfl | assumption)) (@pss_one _ _ _ (@ps_if _ _ _ _ _ _ _ _ (@pt_val _ _ _ (@pe_ix _ _ _ _ _ _ _ (@ixT_k _ (K) (by rfl)) (@pw _ 4 _ _ (Or.inl k_l_put_l_step) (by rfl) (by decide) (by decide)) (@pe_int _ _ _ _) (fun _ _ => rfl)) (by intro _; rfl)) (@pss_one _ _ _ (@ps_asg _ _ _ _ _ _ (@pe_call _ _ _ _ _ _ _ _ _ _ _ _ _ _ _ _ G_l_minus (hr.mono (by decide)) k_l_put_l_minus T.m_l_minus T.F_l_minus.kp T.B_l_minus .nil (@pass0 _) (@pa_c _ _ _ _ _ (@pe_ix _ _ _ _ _ _ _ (@ixL_k _ (K) (by rfl)) (@pw _ 3 _ _ (Or.inl k_l_put_l_made) (by rfl) (by decide) (by decide)) (@pe_ix _ _ _ _ _ _ _ (@ixT_k _ (K) (by rfl)) (@pw _ 4 _ _ (Or.inl k_l_put_l_step) (by rfl) (by decide) (by decide)) (@pe_int _ _ _ _) (fun _ _ => rfl)) (fun _ _ => rfl)) (@pa_c _ _ _ _ _ (@pe_call _ _ _ _ _ _ _ _ _ _ _ _ _ _ _ _ G_l_product (hr.mono (by decide)) k_l_put_l_product T.m_l_product T.F_l_product.kp T.B_l_product .nil (@pass0 _) (@pa_c _ _ _ _ _ (@pw _ 6 _ _ (Or.inl k_l_put_l_goes) (by rfl) (by decide) (by decide)) (@pa_c _ _ _ _ _ (@pe_ix _ _ _ _ _ _ _ (@ixT_k _ (K) (by rfl)) (@pw _ 4 _ _ (Or.inl k_l_put_l_step) (by rfl) (by decide) (by decide)) (@pe_int _ _ _ _) (fun _ _ => rfl)) (@pa_nil _) rfl) rfl) (by decide) (by rfl) (by rfl)) (@pa_nil _) rfl) rfl) (by decide) (by rfl) (by rfl)) (@pg_sub _ _ _ _ _ _ _ (@pw _ 3 _ _ (Or.inl k_l_put_l_made) (by rfl) (by decide) (by decide)) (@pe_ix _ _ _ _ _ _ _ (@ixT_k _ (K) (by rfl)) (@pw _ 4 _ _ (Or.inl k_l_put_l_step) (by rfl) (by decide) (by decide)) (@pe_int _ _ _ _) (fun _ _ => rfl)) (@set_listA _) (by intro _; rfl)) (by rfl) (by rfl) (by rfl))) (@pss_one _ _ _ (@ps_asg _ _ _ _ _ _ (@pe_call _ _ _ _ _ _ _ _ _ _ _ _ _ _ _ _ G_l_sum (hr.mono (by decide)) k_l_put_l_sum T.m_l_sum T.F_l_sum.kp T.B_l_sum .nil (@pass0 _) (@pa_c _ _ _ _ _ (@pe_ix _ _ _ _ _ _ _ (@ixL_k _ (K) (by rfl)) (@pw _ 3 _ _ (Or.inl k_l_put_l_made) (by rfl) (by decide) (by decide)) (@pe_ix _ _ _ _ _ _ _ (@ixT_k _ (K) (by rfl)) (@pw _ 4 _ _ (Or.inl k_l_put_l_step) (by rfl) (by decide) (by decide)) (@pe_int _ _ _ _) (fun _ _ => rfl)) (fun _ _ => rfl)) (@pa_c _ _ _ _ _ (@pw _ 6 _ _ (Or.inl k_l_put_l_goes) (by rfl) (by decide) (by decide)) (@pa_nil _) rfl) rfl) (by decide) (by rfl) (by rfl)) (@pg_sub _ _ _ _ _ _ _ (@pw _ 3 _ _ (Or.inl k_l_put_l_made) (by rfl) (by decide) (by decide)) (@pe_ix _ _ _ _ _ _ _ (@ixT_k _ (K) (by rfl)) (@pw _ 4 _ _ (Or.inl k_l_put_l_step) (by rfl) (by decide) (by decide)) (@pe_int _ _ _ _) (fun _ _ => rfl)) (@set_listA _) (by intro _; rfl)) (by rfl) (by rfl) (by rfl)))))) (by intro _; rfl)) (@pss_one _ _ _ (@ps_ret _ _ _ _ (@pw _ 3 _ _ (Or.inl k_l_put_l_made) (by rfl) (by decide) (by decide)))))), ?_⟩
    refine seqA fun Q1 nA => ⟨_, rfl, sa, _, rfl, .inl (SqL.of hsa), fun L H1 n1 => nA _ _ ?_⟩
    refine seqH fun DB nB => ?_
    refine ⟨_, rfl, F, rfl, ⟨_, SqL.of (n1.sm _ _ hF)⟩, for_list (xs := fs) (fun i σ H' => Ex5 fun (v4 v5 v6 : Option V) (ys' : List V) (ps' : List KM.Fra) => σ = [some (.ref sa), some (.ref F), some (.ref mo), some (.ref L), v4, v5, v6] ∧ H' L = some (.lst ys') ∧ IsAll ED H' ys' (ps'.map frD) ∧ ps'.length = ps.length ∧ (∀ p ∈ ps', Gb e f p) ∧ (∀ (j : Nat), (∀ x ∈ xs.take i, x.1.n ≠ j) → ps'[j]? = ps[j]?) ∧ Same H H') ⟨_, _, _, ys, ps, rfl, n1.at', iys.mono n1.sm.toE, rfl, (fun p hp => (gp p hp).mono (by trivial) (by trivial)), (fun j _ => rfl), n1.sm⟩ ?_ ?_ ?_⟩
    · rintro i σ H' _ ⟨_, _, _, _, _, _, _, _, _, _, _, sm⟩
      exact SqL.of (sm _ _ hF)
    · rintro i x σ J hx ⟨v4, v5, v6, ys', ps', rfl, hL, iL, lL, gL, sL, sm⟩
      have hi : i < fs.length := (List.getElem?_eq_some_iff.mp hx).1
      obtain ⟨dx, edx, gs⟩ := iF.get hx
      rw [List.getElem?_map] at edx
      obtain ⟨pr, epr, rfl⟩ := Option.map_eq_some_iff.mp edx
      have mpr := List.mem_of_getElem? epr
      have pc := px pr mpr
      have pn := nx pr mpr
      obtain ⟨T2, o, p, rfl, hT2, gst, hp⟩ := pr_inv gs
      obtain ⟨o', orr, og, eo, ho, hor, hog⟩ := step_inv gst
      cases eo
      have fresh : ∀ x ∈ xs.take i, x.1.n ≠ pr.1.n := fun x hx' z => by
        obtain ⟨j, hj⟩ := List.getElem?_of_mem hx'
        have hji : j < i := by
          have := (List.getElem?_eq_some_iff.mp hj).1
          rw [List.length_take] at this
          trivial
        rw [List.getElem?_take, if_pos hji] at hj
        have hl1 := (List.getElem?_eq_some_iff.mp hj).1
        have hl2 := (List.getElem?_eq_some_iff.mp epr).1
        have z' := nodup_inj (ls := xs.map (·.1.n)) nd (i := j) (j := i) (by rw [List.length_map]; exact hl1) (by rw [List.length_map]; exact hl2) (by
          rw [List.getElem_map, List.getElem_map, (List.getElem?_eq_some_iff.mp hj).2, (List.getElem?_eq_some_iff.mp epr).2]; exact z)
        trivial
      have eq0 := sL pr.1.n fresh
      obtain ⟨q0, eq1⟩ : ∃ q0, ps[pr.1.n]? = some q0 := ⟨_, List.getElem?_eq_getElem pn⟩
      rw [eq1] at eq0
      have gq0 := gp q0 (List.mem_of_getElem? eq1)
      have lY : ys'.length = ps.length := by rw [iL.length, List.length_map, lL]
      obtain ⟨yv, ey⟩ : ∃ yv, ys'[pr.1.n]? = some yv := ⟨_, List.getElem?_eq_getElem (by trivial)⟩
      have gy := iL.nth pr.1.n ey (by rw [List.getElem?_map, eq0]; rfl)
      obtain ⟨oy, rfl, hoy⟩ := isF_inv gy
      refine ⟨T2, _, rfl, SqT.of (sm _ _ hT2), rfl, _, _, rfl, _, _, rfl, rfl, ?_⟩
      dsimp only
      refine seqA fun Q2 nA2 => ⟨_, rfl, _, rfl, mo, p, mz, pr.2, _, _, _, _, rfl, sm _ _ hmo, sm _ _ hp, gm, pc.p, by trivial, by trivial, by decide, by decide, (fun z => by cases z), fun q J2 n2 => nA2 _ _ ?_⟩
      have gq : Gb (a2 + 55) (b2 + 55) (KM.lTim mz pr.2) := gm.tim pc.p (by trivial) (by trivial)
      have s2 := sm.trans n2.sm
      have hL2 := n2.sm _ _ hL
      have ho2 := s2 _ _ ho
      have fin : ∀ (w : Addr) (z : KM.Fra) (J' J'' : Hp), Same J2 J' → J' w = some (fr z) → Gb e f z → Ch J' L (ys'.set pr.1.n (.ref w)) J'' → Ex5 fun (v4 v5 v6 : Option V) (ys' : List V) (ps' : List KM.Fra) => [some (V.ref sa), some (.ref F), some (.ref mo), some (.ref L), some (.ref o), some (.ref p), some (.ref q)] = [some (.ref sa), some (.ref F), some (.ref mo), some (.ref L), v4, v5, v6] ∧ J'' L = some (.lst ys') ∧ IsAll ED J'' ys' (ps'.map frD) ∧ ps'.length = ps.length ∧ (∀ p ∈ ps', Gb e f p) ∧ (∀ (j : Nat), (∀ x ∈ xs.take (i + 1), x.1.n ≠ j) → ps'[j]? = ps[j]?) ∧ Same H J'' := fun w z J' J'' s' hw gw c' => by
        have hL' := s' _ _ hL2
        refine ⟨_, _, _, _, ps'.set pr.1.n z, rfl, c'.at', ?_, by rw [List.length_set, lL], fun p hp => ?_, fun j hj => ?_, Same.ch (s2.trans s') c' n1.fr⟩
        · have : (ps'.set pr.1.n z).map frD = (ps'.map frD).set pr.1.n (frD z) := by rw [List.map_set]
          rw [this]
          have i' : IsAll ED J' ys' (ps'.map frD) := (iL.mono n2.sm.toE).mono s'.toE
          exact (i'.set (isF hw) pr.1.n).mono ⟨fun _ _ n _ => absurd trivial n, fun _ _ e => c'.tup e hL'⟩
        · rcases List.mem_or_eq_of_mem_set hp with h | h
          · exact gL p h
          · rw [h]; exact gw
        · have n1' : pr.1.n ≠ j := hj pr (by rw [List.take_succ, epr]; simp)
          rw [List.getElem?_set_ne n1']
          exact sL j fun x hx' => hj x (by rw [List.take_succ]; exact List.mem_append_left _ hx')
      have ixn : ixN ys'.length (pr.1.n : Int) = some pr.1.n := ixN_nat (by trivial)
      refine ⟨_, rfl, o, _, _, _, rfl, rfl, SqT.of ho2, rfl, ?_⟩
      cases hbk : pr.1.bk with
      | true =>
        refine ⟨_, rfl, iteT ?_⟩
        refine ⟨_, rfl, _, rfl, o, _, _, _, rfl, rfl, SqT.of ho2, rfl, L, _, _, _, rfl, rfl, SqL.of hL2, atI_nat ey, _, rfl, _, rfl, o, _, _, _, rfl, rfl, SqT.of ho2, rfl, q, og, _, pr.1.gain, _, _, _, _, rfl, n2.at', s2 _ _ hog, gq, pc.g, by trivial, by trivial, by decide, by decide, (fun z => by cases z), fun q3 J3 n3 => ?_⟩
        have gz3 : Gb (a2 + 61) (b2 + 61) (KM.lTim (KM.lTim mz pr.2) pr.1.gain) := gq.tim pc.g (by trivial) (by trivial)
        refine ⟨oy, q3, q0, _, _, _, _, _, rfl, n3.sm _ _ (n2.sm _ _ hoy), n3.at', gq0, gz3, by trivial, by trivial, by trivial, by trivial, (fun z => by cases z), fun q4 J4 n4 => ?_⟩
        have s4 := n3.sm.trans n4.sm
        refine ⟨_, rfl, _, rfl, o, _, _, _, rfl, rfl, SqT.of (s4 _ _ ho2), rfl, L, ys', _, pr.1.n, rfl, rfl, s4 _ _ hL2, ixn, fun J5 c5 => fin q4 _ J4 J5 s4 n4.at' ?_ c5⟩
        exact gq0.min gz3 (by trivial) (by trivial) (by trivial)
      | false =>
        refine ⟨_, rfl, iteF ?_⟩
        refine ⟨_, rfl, _, rfl, o, _, _, _, rfl, rfl, SqT.of ho2, rfl, L, _, _, _, rfl, rfl, SqL.of hL2, atI_nat ey, _, rfl, oy, q, q0, _, _, _, _, _, rfl, n2.sm _ _ hoy, n2.at', gq0, gq, by trivial, by trivial, by trivial, by trivial, (fun z => by cases z), fun q4 J4 n4 => ?_⟩
        refine ⟨_, rfl, _, rfl, o, _, _, _, rfl, rfl, SqT.of (n4.sm _ _ ho2), rfl, L, ys', _, pr.1.n, rfl, rfl, n4.sm _ _ hL2, ixn, fun J5 c5 => fin q4 _ J4 J5 n4.sm n4.at' ?_ c5⟩
        exact gq0.add gq (by trivial) (by trivial) (by trivial)
    · rintro σ J ⟨v4, v5, v6, ys', ps', rfl, hL, iL, lL, gL, sL, sm⟩
      exact nB _ _ ⟨_, rfl, k L ys' ps' J sm n1.fr hL iL lL gL⟩
end
end K16
namespace K16
open PySem L2
set_option maxHeartbeats 4000000
theorem rep_flat {α : Type} (n : Nat) (x : α) : (List.replicate n [x]).flatten = List.replicate n x := by
  induction n with
  | zero => rfl
  | succ n ih => rw [List.replicate_succ, List.flatten_cons, ih, List.replicate_succ]; rfl
theorem isAll_rep {E : Addr → Prop} {H : Hp} {v : V} {d : PyData} (h : IsD E H v d) : ∀ n, IsAll E H (List.replicate n v) (List.replicate n d)
  | 0 => .nil
  | n + 1 => .cons h (isAll_rep h n)
def nb : Nat → Nat
  | 0 => 1
  | 1 => 141
  | 2 => 392
  | 3 => 893
  | _ => 1894
def db : Nat → Nat
  | 0 => 1
  | 1 => 126
  | 2 => 376
  | 3 => 876
  | _ => 1876
def rn (i : Nat) : Nat := max (21 + db i) (nb i + 6)
def rd (i : Nat) : Nat := db i + 6
theorem bits {i : Nat} (h : i < 4) : nb i ≤ nb (i + 1) ∧ db i ≤ db (i + 1) ∧ nb i ≤ 1894 ∧ db i ≤ 1876 ∧ nb i + (rd i + 57 + 61) < nb (i + 1) ∧ (rn i + 56 + 61) + db i < nb (i + 1) ∧ db i + (rd i + 57 + 61) ≤ db (i + 1) ∧ rn i ≤ 1900 ∧ rd i ≤ 1900 := by
  obtain rfl | rfl | rfl | rfl : i = 0 ∨ i = 1 ∨ i = 2 ∨ i = 3 := by trivial
  all_goals decide
theorem bits_le {i : Nat} (h : i ≤ 4) : nb i ≤ 1894 ∧ db i ≤ 1876 := by
  obtain rfl | rfl | rfl | rfl | rfl : i = 0 ∨ i = 1 ∨ i = 2 ∨ i = 3 ∨ i = 4 := by trivial
  all_goals decide
theorem nodup_q {α : Type} {ls : List α} (nd : ls.Nodup) {i j : Nat} {x : α} (h1 : ls[i]? = some x) (h2 : ls[j]? = some x) : i = j := by
  obtain ⟨a1, e1⟩ := List.getElem?_eq_some_iff.mp h1
  obtain ⟨a2, e2⟩ := List.getElem?_eq_some_iff.mp h2
  exact nodup_inj nd a1 a2 (e1.trans e2.symm)
structure StC (ls : List (List Nat)) (ts : List TieD) (a b : Nat) (s : SD) : Prop where
  n : s.n < ts.length
  e : s.en ∈ ls
  w : ∃ t, ts[s.n]? = some t ∧ t.bg ≠ t.en ∧ ((s.st = t.bg ∧ s.en = t.en) ∨ (s.st = t.en ∧ s.en = t.bg))
  r : Gb a b s.room
  g : Gb 6 6 s.gain
  g1 : 1 ≤ s.gain.1
theorem ovr11 {g : KM.Fra} (h : Gb 6 6 g) (h1 : 1 ≤ g.1) : Gb 6 6 (lOvr (1, 1) g) ∧ 1 ≤ (lOvr (1, 1) g).1 := by
  have e : lOvr (1, 1) g = KM.low (1 * g.2) (1 * g.1) := rfl
  refine ⟨?_, ovr_pos (by decide) (by decide) h1 h.pos⟩
  rw [e, Int.one_mul, Int.one_mul]
  exact gb_low h.d h.n (by trivial)
theorem steps_c {ls : List (List Nat)} {ts : List TieD} {ps : List KM.Fra} {a b c d : Nat} (tc : ∀ t ∈ ts, TGd ls t) (gp : ∀ p ∈ ps, Gb a b p) (h1 : 21 + b ≤ c) (h2 : a + 6 ≤ c) (h3 : b + 6 ≤ d) : ∀ s ∈ stepsN ts ps ts.length, StC ls ts c d s := by
  intro s hs
  unfold stepsN at hs
  obtain ⟨j, hj, hs⟩ := List.mem_flatMap.mp hs
  have hj' := List.mem_range.mp hj
  have et := List.getElem?_eq_getElem hj'
  unfold stepsAt at hs
  rw [et] at hs
  cases ep : ps[j]? with
  | none => rw [ep] at hs; cases hs
  | some p =>
    rw [ep] at hs
    have tt := tc _ (List.mem_of_getElem? et)
    have pp := gp p (List.mem_of_getElem? ep)
    generalize ts[j] = t at hs tt et
    unfold stepsT at hs
    rcases List.mem_append.mp hs with q | q
    · by_cases c1 : p.1 * t.most.2 < t.most.1 * p.2
      · rw [if_pos c1] at q
        rw [List.mem_singleton.mp q]
        exact ⟨hj', tt.e, ⟨t, et, tt.ne, .inl ⟨rfl, rfl⟩⟩, tt.fm.min pp (by trivial) (by trivial) (by trivial), tt.fg, tt.g1⟩
      · rw [if_neg c1] at q; cases q
    · by_cases c1 : 0 < p.1
      · rw [if_pos c1] at q
        rw [List.mem_singleton.mp q]
        have o := ovr11 tt.fg tt.g1
        exact ⟨hj', tt.b, ⟨t, et, tt.ne, .inr ⟨rfl, rfl⟩⟩, pp.tim tt.fg (by trivial) (by trivial), o.1, o.2⟩
      · rw [if_neg c1] at q; cases q
theorem course_nd {ls : List (List Nat)} {ts : List TieD} {a b : Nat} {f e : List Nat} {ss cs : List SD} (hs : ∀ s ∈ ss, StC ls ts a b s) (h : CoC f e ls ss cs) : (cs.map SD.n).Nodup := by
  have P1 : ∀ (i : Nat) c, cs[i]? = some c → (cs.map SD.st ++ [e])[i]? = some c.st := fun i c hc => by
    have := (List.getElem?_eq_some_iff.mp hc).1
    rw [List.getElem?_append_left (by rw [List.length_map]; exact this), List.getElem?_map, hc]; rfl
  have P2 : ∀ (i : Nat) c, cs[i]? = some c → (cs.map SD.st ++ [e])[i + 1]? = some c.en := fun i c hc => by
    rw [← h.p, List.getElem?_cons_succ, List.getElem?_map, hc]; rfl
  rw [List.nodup_iff_pairwise_ne, List.pairwise_iff_getElem]
  intro i j hi hj hij z
  rw [List.length_map] at hi hj
  have ei := List.getElem?_eq_getElem hi
  have ej := List.getElem?_eq_getElem hj
  rw [List.getElem_map, List.getElem_map] at z
  obtain ⟨t, e1, ne, w1⟩ := (hs _ (h.m _ (List.mem_of_getElem? ei))).w
  obtain ⟨t2, e2, _, w2⟩ := (hs _ (h.m _ (List.mem_of_getElem? ej))).w
  rw [z, e2] at e1
  cases e1
  have a1 := P1 i _ ei
  have a2 := P2 i _ ei
  have b1 := P1 j _ ej
  have b2 := P2 j _ ej
  rcases w1 with ⟨q1, q2⟩ | ⟨q1, q2⟩ <;> rcases w2 with ⟨q3, q4⟩ | ⟨q3, q4⟩
  · rw [q1] at a1; rw [q3] at b1; have := nodup_q h.nd a1 b1; trivial
  · rw [q1] at a1; rw [q4] at b2; have := nodup_q h.nd a1 b2; trivial
  · rw [q1] at a1; rw [q4] at b2; have := nodup_q h.nd a1 b2; trivial
  · rw [q1] at a1; rw [q3] at b1; have := nodup_q h.nd a1 b1; trivial
section
variable {P : Program} {w : World} {K : PySem.W.Frag} {mg : Str → Option Value} {base : Heap}
inductive spStr_ (vs : List V) (H : Hp) (Q : VK) : Prop
  | mk (b : Addr) (v : V) (ls : List (List Nat)) (ts : List TieD) (f e : List Nat) (t : Int) (h0 : vs = [.ref b, v, .str (S f), .str (S e)]) (h1 : Bx H b t) (h2 : 0 ≤ t) (h3 : t ≤ 800000) (h4 : IsD ED H v (netD ls ts)) (h5 : (∀ t ∈ ts, TGd ls t)) (h6 : ts.length ≤ 40) (h7 : f ∈ ls) (h8 : f ≠ e) (h9 : ls.length ≤ 10) (h10 : ∀ (L : Addr) (ys : List V) (ps : List KM.Fra) (t' : Int) (H' : Hp), SameE (Eb b) H H' → Bx H' b t' → t ≤ t' → t' ≤ t + 5000 → H L = none → H' L = some (.lst ys) → IsAll ED H' ys (ps.map frD) → ps.length = ts.length → (∀ p ∈ ps, Gb 1894 1876 p) → Q (.ref L) H')
def spStr : Sp := fun vs H Q _ => spStr_  vs H Q
theorem ok_l_stream_by (T : Txt K mg) : FnOk P w K mg base CX0 4 T.f_l_stream_by T.d_l_stream_by ["_law_box_here", "_law_net", "_law_begin", "_law_end"] spStr := by
  have G_l_take := ok_take (P := P) (w := w) (base := base) T
  have G_l_steps_of := ok_l_steps_of (P := P) (w := w) (base := base) T
  have G_l_course_by := ok_l_course_by (P := P) (w := w) (base := base) T
  have G_l_parts_on := ok_l_parts_on (P := P) (w := w) (base := base) T
  have G_l_much_along := ok_l_much_along (P := P) (w := w) (base := base) T
  have G_l_product := ok_l_product (P := P) (w := w) (base := base) T
  have G_l_put := ok_l_put (P := P) (w := w) (base := base) T
  refine T.F_l_stream_by.ok sc_l_stream_by (fun vs H Q E h => ?_) (fun cdv A outer s H vs Q E hr h => ?_)
  · obtain ⟨b, v, ls, ts, f, e, t, rfl, _⟩ := h
    rfl
  · obtain ⟨b, v, ls, ts, f, e, t, rfl, B0, ht0, ht1, hv, tc, h40, fls, fe, lls, k⟩ := h
    obtain ⟨na, pa, ta, tys, rfl, hna, hpa, hta, ity⟩ := net_inv2 hv
    have lty : tys.length = ts.length := by rw [ity.length, List.length_map]
    refine ⟨_, (@pss_cons _ _ _ _ _ (@ps_set _ _ (4) _ _ _ _ sc_l_stream_by.nd rfl (Or.inl k_l_stream_by_l_stream) (@pe_op _ _ _ _ _ _ _ _ (@op_repA _) (@pe_lstA _ _ _ _ (@pa_c _ _ _ _ _ (@pe_tupA _ _ _ _ _ (@pa_c _ _ _ _ _ (@pe_int _ _ _ _) (@pa_c _ _ _ _ _ (@pe_int _ _ _ _) (@pa_nil _) rfl) rfl)) (@pa_nil _) rfl)) (@pe_callB _ _ _ _ _ _ _ _ _ (@len_k _ (K) (by rfl)) k_l_stream_by_len T.b_len (@boot_b_len) (@pa_c _ _ _ _ _ (@pe_ix _ _ _ _ _ _ _ (@ixT_k _ (K) (by rfl)) (@pw _ 1 _ _ (Or.inl k_l_stream_by_l_net) (by rfl) (by decide) (by decide)) (@pe_int _ _ _ _) (fun _ _ => rfl)) (@pa_nil _) rfl) (by decide) (by decide) (by rfl) (by rfl))) (by rfl) (by first | exact .inl rfl | exact .inr rfl | assumption)) (@pss_cons _ _ _ _ _ (@ps_for _ _ _ _ _ _ _ _ PassesOwn.never rfl (@pi_range1 _ _ _ _ _ _ k_l_stream_by_range T.b_range (@pa_c _ _ _ _ _ (@pe_call _ _ _ _ _ _ _ _ _ _ _ _ _ _ _ _ G_l_take (hr.mono (by decide)) k_l_stream_by_l_take T.m_l_take T.F_l_take.kp T.B_l_take .nil (@pass0 _) (@pa_c _ _ _ _ _ (@pw _ 0 _ _ (Or.inl k_l_stream_by_l_box_here) (by rfl) (by decide) (by decide)) (@pa_c _ _ _ _ _ (@pe_int _ _ _ _) (@pa_nil _) rfl) rfl) (by decide) (by rfl) (by rfl)) (@pa_nil _) rfl) (by rfl)) (@pg_name _ _ (5) _ sc_l_stream_by.nd rfl (Or.inl k_l_stream_by_l_turn) (by first | exact .inl rfl | exact .inr rfl | assumption)) (@pss_cons _ _ _ _ _ (@ps_set _ _ (6) _ _ _ _ sc_l_stream_by.nd rfl (Or.inl k_l_stream_by_l_course) (@pe_call _ _ _ _ _ _ _ _ _ _ _ _ _ _ _ _ G_l_course_by (hr.mono (by decide)) k_l_stream_by_l_course_by T.m_l_course_by T.F_l_course_by.kp T.B_l_course_by .nil (@pass0 _) (@pa_c _ _ _ _ _ (@pw _ 0 _ _ (Or.inl k_l_stream_by_l_box_here) (by rfl) (by decide) (by decide)) (@pa_c _ _ _ _ _ (@pe_call _ _ _ _ _ _ _ _ _ _ _ _ _ _ _ _ G_l_steps_of (hr.mono (by decide)) k_l_stream_by_l_steps_of T.m_l_steps_of T.F_l_steps_of.kp T.B_l_steps_of .nil (@pass0 _) (@pa_c _ _ _ _ _ (@pw _ 1 _ _ (Or.inl k_l_stream_by_l_net) (by rfl) (by decide) (by decide)) (@pa_c _ _ _ _ _ (@pw _ 4 _ _ (Or.inl k_l_stream_by_l_stream) (by rfl) (by decide) (by decide)) (@pa_nil _) rfl) rfl) (by decide) (by rfl) (by rfl)) (@pa_c _ _ _ _ _ (@pw _ 2 _ _ (Or.inl k_l_stream_by_l_begin) (by rfl) (by decide) (by decide)) (@pa_c _ _ _ _ _ (@pw _ 3 _ _ (Or.inl k_l_stream_by_l_end) (by rfl) (by decide) (by decide)) (@pa_c _ _ _ _ _ (@pe_lstA _ _ _ _ (@pa_nil _)) (@pa_nil _) rfl) rfl) rfl) rfl) rfl) (by decide) (by rfl) (by rfl)) (by rfl) (by first | exact .inl rfl | exact .inr rfl | assumption)) (@pss_one _ _ _ (@ps_if _ _ _ _ _ _ _ _ (@pt_cmpR _ _ _ _ _ _ _ _ (@op_notN _) (@pw _ 6 _ _ (Or.inl k_l_stream_by_l_course) (by rfl) (by decide) (by decide)) (@pe_non _ _ _) (@nomark _ _ (by decide) (by decide))) (@pss_cons _ _ _ _ _ (@ps_set _ _ (7) _ _ _ _ sc_l_stream_by.nd rfl (Or.inl k_l_stream_by_l_parts) (@pe_ix _ _ _ _ _ _ _ (@ixT_k _ (K) (by rfl)) (@pe_call _ _ _ _ _ _ _ _ _ _ _ _ _ _ _ _ G_l_parts_on (hr.mono (by decide)) k_l_stream_by_l_parts_on T.m_l_parts_on T.F_l_parts_on.kp T.B_l_parts_on .nil (@pass0 _) (@pa_c _ _ _ _ _ (@pw _ 6 _ _ (Or.inl k_l_stream_by_l_course) (by rfl) (by decide) (by decide)) (@pa_c _ _ _ _ _ (@pe_tupA _ _ _ _ _ (@pa_c _ _ _ _ _ (@pe_int _ _ _ _) (@pa_c _ _ _ _ _ (@pe_int _ _ _ _) (@pa_nil _) rfl) rfl)) (@pa_nil _) rfl) rfl) (by decide) (by rfl) (by rfl)) (@pe_int _ _ _ _) (fun _ _ => rfl)) (by rfl) (by first | exact .inl rfl | exact .inr rfl | assumption)) (@pss_cons _ _ _ _ _ (@ps_set _ _ (8) _ _ _ _ sc_l_stream_by.nd rfl (Or.inl k_l_stream_by_l_share) (@pe_ix _ _ _ _ _ _ _ (@ixL_k _ (K) (by rfl)) (@pe_lstA _ _ _ _ (@pa_c _ _ _ _ _ (@pe_tupA _ _ _ _ _ (@pa_c _ _ _ _ _ (@pe_int _ _ _ _) (@pa_c _ _ _ _ _ (@pe_int _ _ _ _) (@pa_nil _) rfl) rfl)) (@pa_c _ _ _ _ _ (@pe_tupA _ _ _ _ _ (@pa_c _ _ _ _ _ (@pe_int _ _ _ _) (@pa_c _ _ _ _ _ (@pe_int _ _ _ _) (@pa_nil _) rfl) rfl)) (@pa_c _ _ _ _ _ (@pe_tupA _ _ _ _ _ (@pa_c _ _ _ _ _ (@pe_int _ _ _ _) (@pa_c _ _ _ _ _ (@pe_int _ _ _ _) (@pa_nil _) rfl) rfl)) (@pa_c _ _ _ _ _ (@pe_tupA _ _ _ _ _ (@pa_c _ _ _ _ _ (@pe_int _ _ _ _) (@pa_c _ _ _ _ _ (@pe_int _ _ _ _) (@pa_nil _) rfl) rfl)) (@pa_nil _) rfl) rfl) rfl) rfl)) (@pe_call _ _ _ _ _ _ _ _ _ _ _ _ _ _ _ _ G_l_take (hr.mono (by decide)) k_l_stream_by_l_take T.m_l_take T.F_l_take.kp T.B_l_take .nil (@pass0 _) (@pa_c _ _ _ _ _ (@pw _ 0 _ _ (Or.inl k_l_stream_by_l_box_here) (by rfl) (by decide) (by decide)) (@pa_c _ _ _ _ _ (@pe_int _ _ _ _) (@pa_nil _) rfl) rfl) (by decide) (by rfl) (by rfl)) (fun _ _ => rfl)) (by rfl) (by first | exact .inl rfl | exact .inr rfl | assumption)) (@pss_one _ _ _ (@ps_set _ _ (4) _ _ _ _ sc_l_stream_by.nd rfl (Or.inl k_l_stream_by_l_stream) (@pe_call _ _ _ _ _ _ _ _ _ _ _ _ _ _ _ _ G_l_put (hr.mono (by decide)) k_l_stream_by_l_put T.m_l_put T.F_l_put.kp T.B_l_put .nil (@pass0 _) (@pa_c _ _ _ _ _ (@pw _ 4 _ _ (Or.inl k_l_stream_by_l_stream) (by rfl) (by decide) (by decide)) (@pa_c _ _ _ _ _ (@pw _ 7 _ _ (Or.inl k_l_stream_by_l_parts) (by rfl) (by decide) (by decide)) (@pa_c _ _ _ _ _ (@pe_call _ _ _ _ _ _ _ _ _ _ _ _ _ _ _ _ G_l_product (hr.mono (by decide)) k_l_stream_by_l_product T.m_l_product T.F_l_product.kp T.B_l_product .nil (@pass0 _) (@pa_c _ _ _ _ _ (@pe_call _ _ _ _ _ _ _ _ _ _ _ _ _ _ _ _ G_l_much_along (hr.mono (by decide)) k_l_stream_by_l_much_along T.m_l_much_along T.F_l_much_along.kp T.B_l_much_along .nil (@pass0 _) (@pa_c _ _ _ _ _ (@pw _ 7 _ _ (Or.inl k_l_stream_by_l_parts) (by rfl) (by decide) (by decide)) (@pa_nil _) rfl) (by decide) (by rfl) (by rfl)) (@pa_c _ _ _ _ _ (@pw _ 8 _ _ (Or.inl k_l_stream_by_l_share) (by rfl) (by decide) (by decide)) (@pa_nil _) rfl) rfl) (by decide) (by rfl) (by rfl)) (@pa_nil _) rfl) rfl) rfl) (by decide) (by rfl) (by rfl)) (by rfl) (by first | exact .inl rfl | exact .inr rfl | assumption))))) (@pss_nil _)))) (by intro _; rfl)) (@pss_one _ _ _ (@ps_ret _ _ _ _ (@pw _ 4 _ _ (Or.inl k_l_stream_by_l_stream) (by rfl) (by decide) (by decide)))))), ?_⟩
    refine seqA fun Q1 nA => ⟨(by show 2 ≤ 10000; decide), fun o0 H1 n1 => ⟨(by show 1 ≤ 10000; decide), fun l0 H2 n2 => ⟨_, rfl, na, _, _, _, rfl, rfl, SqT.of (n2.sm _ _ (n1.sm _ _ hna)), rfl, ta, _, rfl, .inr (SqT.of (n2.sm _ _ (n1.sm _ _ hta))), l0, _, _, rfl, rfl, n2.at', by trivial, by trivial, by simp; trivial, fun L0 H3 n3 => nA _ _ ?_⟩⟩⟩
    have s3 := (n1.sm.trans n2.sm).trans n3.sm
    have B3 := B0.same s3
    have ho0 := n3.sm _ _ (n2.sm _ _ n1.at')
    have hL0 : H3 L0 = some (.lst (List.replicate ts.length (.ref o0))) := by
      have := n3.at'
      rw [rep_flat, lty, Int.toNat_natCast] at this
      exact this
    have iL0 : IsAll ED H3 (List.replicate ts.length (.ref o0)) ((List.replicate ts.length (0, 1)).map frD) := by
      rw [List.map_replicate]
      exact isAll_rep (isF (p := (0, 1)) ho0) _
    have fL0 := (n1.sm.trans n2.sm).free n3.fr
    refine seqH fun DB nB => ?_
    refine ⟨_, rfl, b, 5, t, rfl, B3, by decide, by decide, ht0, by trivial, fun r t1 H4 r0 r1 h1a h1b s4 B4 => ⟨r, rfl, by trivial, by trivial, ?_⟩⟩
    have nLb : ∀ {L : Addr}, H L = none → ¬ L = b := fun h z => B0.ne h z.symm
    refine for_range (fun i σ H' => Ex8 fun (L : Addr) (ys : List V) (ps : List KM.Fra) (v5 v6 v7 v8 : Option V) (t' : Int) => σ = [some (.ref b), some (.ref na), some (.str (S f)), some (.str (S e)), some (.ref L), v5, v6, v7, v8] ∧ H' L = some (.lst ys) ∧ IsAll ED H' ys (ps.map frD) ∧ ps.length = ts.length ∧ (∀ p ∈ ps, Gb (nb i) (db i) p) ∧ Bx H' b t' ∧ t ≤ t' ∧ t' ≤ t1 + 905 * i ∧ SameE (Eb b) H H' ∧ H L = none) ⟨L0, _, List.replicate ts.length (0, 1), _, _, _, _, t1, rfl, s4.old L0 _ (nLb fL0) hL0, iL0.tupS s4, by simp, ?_, B4, by trivial, by trivial, s3.toE.trans s4, fL0⟩ ?_ ?_
    · intro p hp
      rw [List.eq_of_mem_replicate hp]
      exact ⟨show (0 : Int).natAbs < 2 ^ 1 by decide, show (1 : Int).natAbs < 2 ^ 1 by decide, by decide⟩
    · rintro i σ J hi ⟨L, ys, ps, v5, v6, v7, v8, t', rfl, hL, iL, lps, gp, B, ht2, ht3, sE, fL⟩
      obtain ⟨b1, b2, b3, b4, b5, b6, b7, b8, b9⟩ := bits (show i < 4 by trivial)
      refine bodyH (t := tSeq _ _) fun DC nC => ?_
      refine seqA fun Q2 nA2 => ?_
      refine ⟨_, rfl, _, rfl, _, rfl, .ref na, L, ls, ts, ys, ps, nb i, db i, rfl, hv.tupS (F := ED) sE, tc, h40, hL, iL, lps, gp, by trivial, by trivial, fun SA zs J1 s1 fSA hSA iSA => ⟨_, rfl, _, rfl, (by show 0 ≤ 10000; decide), fun ba J2 n2 => ?_⟩⟩
      have s2 := s1.trans n2.sm
      have B2 := B.same s2
      have sc := steps_c (c := rn i) (d := rd i) tc gp (by unfold rn; trivial) (by unfold rn; trivial) (Nat.le_refl _)
      have nL := nLb fL
      refine ⟨b, SA, ba, f, e, zs, stepsN ts ps ts.length, ls, [], t', rfl, B2, by trivial, by trivial, (fun z => B.ne fSA z.symm), n2.sm _ _ hSA, iSA.mono n2.sm.toE, Nat.le_trans (stepsN_len ts ps _) (by trivial), n2.at', by decide, fls, fun s hs => (sc s hs).e, lls, fun t3 J3 s3 B3 h3a h3b => nA2 _ _ ?_, fun C czs cs t3 J3 s3 B3 h3a h3b nCb hC iC coc => nA2 _ _ ?_⟩
      · have sJ := s2.toE.trans s3
        exact ⟨_, rfl, rfl, _, rfl, iteF (nC _ _ ⟨L, ys, ps, _, _, _, _, t3, rfl, sJ.old L _ nL hL, iL.tupS sJ, lps, fun p hp => (gp p hp).mono b1 b2, B3, by trivial, by trivial, sE.trans sJ, fL⟩)⟩
      have sJ := s2.toE.trans s3
      have hL3 := sJ.old L _ nL hL
      have iL3 := iL.tupS sJ
      have cok : ∀ c ∈ cs, StC ls ts (rn i) (rd i) c := fun c hc => sc c (coc.m c hc)
      have lcs : 1 ≤ cs.length := by
        cases cs with
        | nil => exact absurd (List.cons.inj coc.p).1 fe
        | cons => simp
      refine ⟨_, rfl, rfl, _, rfl, iteT ?_⟩
      refine seqA fun Q3 nA3 => ⟨_, rfl, (by show 2 ≤ 10000; decide), fun po J4 n4 => ⟨C, po, czs, cs, rfl, n4.sm _ _ hC, iC.mono n4.sm.toE, by have := coc.l; trivial, (fun c hc => ⟨(cok c hc).g, (cok c hc).g1⟩), n4.at', fun T5 F q5 fs xs J5 s5 hT5 fF hF iF exs gxs => ⟨T5, _, _, _, rfl, rfl, SqT.of hT5, rfl, nA3 _ _ ?_⟩⟩⟩
      have s45 := n4.sm.trans s5
      have nFb : ¬ F = b := fun z => (B3.same n4.sm).ne fF z.symm
      have mxs : ∀ x ∈ xs, x.1 ∈ cs := fun x hx => by rw [← exs]; exact List.mem_map_of_mem hx
      have px : ∀ x ∈ xs, PrC (rn i) (rd i) x := fun x hx => ⟨(cok _ (mxs x hx)).r, (cok _ (mxs x hx)).g, (cok _ (mxs x hx)).g1, (gxs x hx).1, (gxs x hx).2⟩
      have lxs : xs.length = cs.length := by rw [← exs, List.length_map]
      have ndx : (xs.map (·.1.n)).Nodup := by
        have := course_nd sc coc
        rw [← exs, List.map_map] at this
        exact this
      have B5 := B3.same s45
      refine seqA fun Q4 nA4 => ⟨(by show 2 ≤ 10000; decide), fun u1 K1 m1 => ⟨(by show 2 ≤ 10000; decide), fun u2 K2 m2 => ⟨(by show 2 ≤ 10000; decide), fun u3 K3 m3 => ⟨(by show 2 ≤ 10000; decide), fun u4 K4 m4 => ⟨(by show 4 ≤ 10000; decide), fun l5 K5 m5 => ⟨_, rfl, b, 4, t3, rfl, B5.same ((((m1.sm.trans m2.sm).trans m3.sm).trans m4.sm).trans m5.sm), by decide, by decide, by trivial, by trivial, fun r6 t6 K6 r60 r61 h6a h6b s6 B6 => ?_⟩⟩⟩⟩⟩⟩
      have sm := (((m1.sm.trans m2.sm).trans m3.sm).trans m4.sm).trans m5.sm
      have nl5 : ¬ l5 = b := fun z => (B5.same (((m1.sm.trans m2.sm).trans m3.sm).trans m4.sm)).ne m5.fr z.symm
      have hl5 := s6.old l5 _ nl5 m5.at'
      have t1' : ∀ {u : Addr} {us : List V}, K5 u = some (.tup us) → K6 u = some (.tup us) := fun h => s6.tup _ _ h
      obtain ⟨so, z, eso, hso, gz'⟩ : Ex2 fun so z => atI [V.ref u1, V.ref u2, V.ref u3, V.ref u4] r6 = some (.ref so) ∧ K6 so = some (fr z) ∧ Gb 1 2 z := by
        have g12 : ∀ {d : Int}, 1 ≤ d → d < 4 → Gb 1 2 (1, d) := fun h h' => ⟨show (1 : Int).natAbs < 2 ^ 1 by decide, (by show Int.natAbs _ < 4; trivial), h⟩
        obtain rfl | rfl | rfl | rfl : r6 = 0 ∨ r6 = 1 ∨ r6 = 2 ∨ r6 = 3 := by trivial
        · exact ⟨u1, (1, 1), rfl, t1' (m5.sm _ _ (m4.sm _ _ (m3.sm _ _ (m2.sm _ _ m1.at')))), g12 (by decide) (by decide)⟩
        · exact ⟨u2, (1, 1), rfl, t1' (m5.sm _ _ (m4.sm _ _ (m3.sm _ _ m2.at'))), g12 (by decide) (by decide)⟩
        · exact ⟨u3, (1, 2), rfl, t1' (m5.sm _ _ (m4.sm _ _ m3.at')), g12 (by decide) (by decide)⟩
        · exact ⟨u4, (1, 3), rfl, t1' (m5.sm _ _ m4.at'), g12 (by decide) (by decide)⟩
      refine ⟨l5, _, _, _, rfl, rfl, SqL.of hl5, eso, nA4 _ _ ?_⟩
      have sF : SameE (Eb b) J5 K6 := sm.toE.trans s6
      have hF6 := sF.old F _ nFb hF
      have iF6 := iF.tupS sF
      have s36 : SameE (Eb b) J3 K6 := s45.toE.trans sF
      have hL6 := s36.old L _ nL hL3
      refine ⟨_, rfl, _, rfl, _, rfl, F, fs, xs, rn i, rd i, rfl, hF6, iF6, by trivial, px, by trivial, by trivial, fun mo mz K7 s7 hmo gmz => ⟨_, rfl, mo, so, mz, z, _, _, _, _, rfl, hmo, s7 _ _ hso, gmz, gz', by trivial, by trivial, by decide, by decide, (fun z => by cases z), fun mm K8 n8 => ?_⟩⟩
      have s78 := s7.trans n8.sm
      refine ⟨L, F, mm, ys, fs, ps, xs, _, nb i, db i, rn i + 56, rd i + 57, rn i, rd i, nb (i + 1), db (i + 1), rfl, s78 _ _ hL6, (iL3.tupS s36).mono s78.toE, s78 _ _ hF6, iF6.mono s78.toE, px, (fun x hx => by rw [lps]; exact (cok _ (mxs x hx)).n), ndx, n8.at', gmz.tim gz' (by trivial) (by trivial), gp, by trivial, by trivial, by trivial, by trivial, b5, b6, b7, by trivial, fun L' ys' ps' K9 s9 fL' hL' iL' lL' gL' => nC _ _ ?_⟩
      have s39 : SameE (Eb b) J3 K9 := s36.trans (s78.trans s9).toE
      have sAll : SameE (Eb b) H K9 := (sE.trans sJ).trans s39
      refine ⟨L', ys', ps', _, _, _, _, t6, rfl, hL', iL', by trivial, gL', (B6.same s78).same s9, by trivial, by trivial, sAll, ?_⟩
      have f8 : K6 L' = none := s78.free fL'
      have : SameE (Eb b) H K6 := (sE.trans sJ).trans s36
      exact this.free B6 f8
    · rintro σ J ⟨L, ys, ps, v5, v6, v7, v8, t', rfl, hL, iL, lps, gp, B, ht2, ht3, sE, fL⟩
      have bl := bits_le (show r.toNat ≤ 4 by trivial)
      exact nB _ _ ⟨_, rfl, k L ys ps t' J sE B ht2 (by trivial) fL hL iL lps fun p hp => (gp p hp).mono bl.1 bl.2⟩
end
end K16
namespace K16
open PySem L2
set_option maxHeartbeats 4000000
section
variable {P : Program} {w : World} {K : PySem.W.Frag} {mg : Str → Option Value} {base : Heap}
inductive spGB_ (a b : Nat) (vs : List V) (H : Hp) (Q : VK) : Prop
  | mk (bx : Addr) (t : Int) (h0 : vs = [.ref bx]) (h1 : Bx H bx t) (h2 : 0 ≤ t) (h3 : t ≤ 900000) (h4 : ∀ (o : Addr) (z : KM.Fra) (t' : Int) (H' : Hp), SameE (Eb bx) H H' → H' o = some (fr z) → Gb a b z → 0 ≤ z.1 → Bx H' bx t' → t ≤ t' → t' ≤ t + 2 → Q (.ref o) H')
def spGB (a b : Nat) : Sp := fun vs H Q _ => spGB_ a b vs H Q
theorem gb_c {a b : Nat} {n d : Int} (h1 : n.natAbs < 2 ^ a) (h2 : d.natAbs < 2 ^ b) (h3 : 1 ≤ d) : Gb a b (n, d) := ⟨h1, h2, h3⟩
theorem low_nn {n d : Int} (hd : 0 < d) (h : 0 ≤ n) : 0 ≤ (KM.low n d).1 := by
  have := (KM.low_sgn (n := n) hd).2
  by_cases q : (KM.low n d).1 < 0
  · have := this.mp q; trivial
  · trivial
theorem ok_any_much16 (T : Txt K mg) : FnOk P w K mg base CX0 2 T.f_l_any_much T.d_l_any_much ["_law_box_here"] (spGB 20 3) := by
  have G_l_take := ok_take (P := P) (w := w) (base := base) T
  have G_l_frac := ok_frac (P := P) (w := w) (base := base) T
  refine T.F_l_any_much.ok sc_l_any_much (fun vs H Q E h => ?_) (fun cdv A outer s H vs Q E hr h => ?_)
  · obtain ⟨b, t, rfl, _⟩ := h
    rfl
  · obtain ⟨b, t, rfl, B, ht0, ht1, k⟩ := h
    refine ⟨_, (@pss_cons _ _ _ _ _ (@ps_set _ _ (1) _ _ _ _ sc_l_any_much.nd rfl (Or.inl k_l_any_much_l_way) (@pe_call _ _ _ _ _ _ _ _ _ _ _ _ _ _ _ _ G_l_take (hr.mono (by decide)) k_l_any_much_l_take T.m_l_take T.F_l_take.kp T.B_l_take .nil (@pass0 _) (@pa_c _ _ _ _ _ (@pw _ 0 _ _ (Or.inl k_l_any_much_l_box_here) (by rfl) (by decide) (by decide)) (@pa_c _ _ _ _ _ (@pe_int _ _ _ _) (@pa_nil _) rfl) rfl) (by decide) (by rfl) (by rfl)) (by rfl) (by first | exact .inl rfl | exact .inr rfl | assumption)) (@pss_cons _ _ _ _ _ (@ps_if _ _ _ _ _ _ _ _ (@pt_cmpR _ _ _ _ _ _ _ _ (@op_eq _) (@pw _ 1 _ _ (Or.inl k_l_any_much_l_way) (by rfl) (by decide) (by decide)) (@pe_int _ _ _ _) (@nomark _ _ (by decide) (by decide))) (@pss_one _ _ _ (@ps_ret _ _ _ _ (@pe_tupA _ _ _ _ _ (@pa_c _ _ _ _ _ (@pe_int _ _ _ _) (@pa_c _ _ _ _ _ (@pe_int _ _ _ _) (@pa_nil _) rfl) rfl)))) (@pss_nil _)) (@pss_cons _ _ _ _ _ (@ps_if _ _ _ _ _ _ _ _ (@pt_cmpR _ _ _ _ _ _ _ _ (@op_eq _) (@pw _ 1 _ _ (Or.inl k_l_any_much_l_way) (by rfl) (by decide) (by decide)) (@pe_int _ _ _ _) (@nomark _ _ (by decide) (by decide))) (@pss_one _ _ _ (@ps_ret _ _ _ _ (@pe_tupA _ _ _ _ _ (@pa_c _ _ _ _ _ (@pe_op _ _ _ _ _ _ _ _ (@op_pow _) (@pe_int _ _ _ _) (@pe_int _ _ _ _)) (@pa_c _ _ _ _ _ (@pe_int _ _ _ _) (@pa_nil _) rfl) rfl)))) (@pss_nil _)) (@pss_one _ _ _ (@ps_ret _ _ _ _ (@pe_call _ _ _ _ _ _ _ _ _ _ _ _ _ _ _ _ G_l_frac (hr.mono (by decide)) k_l_any_much_l_frac T.m_l_frac T.F_l_frac.kp T.B_l_frac .nil (@pass0 _) (@pa_c _ _ _ _ _ (@pe_op _ _ _ _ _ _ _ _ (@op_add _) (@pe_int _ _ _ _) (@pe_call _ _ _ _ _ _ _ _ _ _ _ _ _ _ _ _ G_l_take (hr.mono (by decide)) k_l_any_much_l_take T.m_l_take T.F_l_take.kp T.B_l_take .nil (@pass0 _) (@pa_c _ _ _ _ _ (@pw _ 0 _ _ (Or.inl k_l_any_much_l_box_here) (by rfl) (by decide) (by decide)) (@pa_c _ _ _ _ _ (@pe_int _ _ _ _) (@pa_nil _) rfl) rfl) (by decide) (by rfl) (by rfl))) (@pa_c _ _ _ _ _ (@pe_ix _ _ _ _ _ _ _ (@ixL_k _ (K) (by rfl)) (@pe_lstA _ _ _ _ (@pa_c _ _ _ _ _ (@pe_int _ _ _ _) (@pa_c _ _ _ _ _ (@pe_int _ _ _ _) (@pa_c _ _ _ _ _ (@pe_int _ _ _ _) (@pa_c _ _ _ _ _ (@pe_int _ _ _ _) (@pa_c _ _ _ _ _ (@pe_int _ _ _ _) (@pa_c _ _ _ _ _ (@pe_int _ _ _ _) (@pa_nil _) rfl) rfl) rfl) rfl) rfl) rfl)) (@pe_op _ _ _ _ _ _ _ _ (@op_sub _) (@pw _ 1 _ _ (Or.inl k_l_any_much_l_way) (by rfl) (by decide) (by decide)) (@pe_int _ _ _ _)) (fun _ _ => rfl)) (@pa_nil _) rfl) rfl) (by decide) (by rfl) (by rfl))))))), ?_⟩
    refine ⟨_, rfl, b, 8, t, rfl, B, by decide, by decide, ht0, by trivial, fun wy t1 H1 w0 w1 h1a h1b s1 B1 => ?_⟩
    refine ⟨_, rfl, rfl, _, rfl, ite2 (fun c => ?_) (fun c => ?_)⟩
    · exact ⟨(by show 2 ≤ 10000; decide), fun o H2 n2 => k o (0, 1) t1 H2 (s1.trans n2.sm.toE) n2.at' (gb_c (by decide) (by decide) (by decide)) (by decide) (B1.same n2.sm) (by trivial) (by trivial)⟩
    refine ⟨_, rfl, rfl, _, rfl, ite2 (fun c' => ?_) (fun c' => ?_)⟩
    · have q6 : (10 : Int) ^ (6 : Int).toNat = 1000000 := by decide
      refine ⟨_, _, rfl, rfl, ⟨by decide, by decide, by decide⟩, (by show 2 ≤ 10000; decide), fun o H2 n2 => k o (1000000, 1) t1 H2 (s1.trans n2.sm.toE) ?_ (gb_c (by decide) (by decide) (by decide)) (by decide) (B1.same n2.sm) (by trivial) (by trivial)⟩
      rw [n2.at']
      show some (HO.tup [V.int ((10 : Int) ^ (6 : Int).toNat), V.int 1]) = _
      rw [q6]
    have hw : wy ≠ 0 := fun z => c (by rw [z]; decide)
    have hw' : wy ≠ 1 := fun z => c' (by rw [z]; decide)
    refine ⟨_, rfl, b, 12, t1, rfl, B1, by decide, by decide, by trivial, by trivial, fun r2 t2 H2 a20 a21 _ _ s2 B2 => ⟨_, _, rfl, rfl, (by show 6 ≤ 10000; decide), fun l5 H5 n5 => ?_⟩⟩
    obtain ⟨e, ee, he0, he1⟩ : ∃ e : Int, atI [V.int 1, V.int 1, V.int 1, V.int 2, V.int 3, V.int 7] (wy - 2) = some (V.int e) ∧ 1 ≤ e ∧ e ≤ 7 := by
      obtain rfl | rfl | rfl | rfl | rfl | rfl : wy = 2 ∨ wy = 3 ∨ wy = 4 ∨ wy = 5 ∨ wy = 6 ∨ wy = 7 := by trivial
      · exact ⟨1, rfl, by decide, by decide⟩
      · exact ⟨1, rfl, by decide, by decide⟩
      · exact ⟨1, rfl, by decide, by decide⟩
      · exact ⟨2, rfl, by decide, by decide⟩
      · exact ⟨3, rfl, by decide, by decide⟩
      · exact ⟨7, rfl, by decide, by decide⟩
    have f : Gb 20 3 (KM.low (1 + r2) e) := gb_low (show (1 + r2).natAbs < 1048576 by trivial) (show e.natAbs < 8 by trivial) (by trivial)
    exact ⟨_, rfl, _, _, rfl, rfl, l5, _, _, _, rfl, rfl, SqL.of n5.at', ee, _, _, rfl, by trivial, Sz.mono (m := 40) (by show e.natAbs < 1099511627776; trivial) (by decide), fun o H6 n6 => k o _ t2 H6 (((s1.trans s2).trans n5.sm.toE).trans n6.sm.toE) n6.at' f (low_nn (by trivial) (by trivial)) ((B2.same n5.sm).same n6.sm) (by trivial) (by trivial)⟩
theorem ok_any_price (T : Txt K mg) : FnOk P w K mg base CX0 2 T.f_l_any_price T.d_l_any_price ["_law_box_here"] (spGB 24 24) := by
  have G_l_take := ok_take (P := P) (w := w) (base := base) T
  have G_l_frac := ok_frac (P := P) (w := w) (base := base) T
  refine T.F_l_any_price.ok sc_l_any_price (fun vs H Q E h => ?_) (fun cdv A outer s H vs Q E hr h => ?_)
  · obtain ⟨b, t, rfl, _⟩ := h
    rfl
  · obtain ⟨b, t, rfl, B, ht0, ht1, k⟩ := h
    refine ⟨_, (@pss_cons _ _ _ _ _ (@ps_set _ _ (1) _ _ _ _ sc_l_any_price.nd rfl (Or.inl k_l_any_price_l_way) (@pe_call _ _ _ _ _ _ _ _ _ _ _ _ _ _ _ _ G_l_take (hr.mono (by decide)) k_l_any_price_l_take T.m_l_take T.F_l_take.kp T.B_l_take .nil (@pass0 _) (@pa_c _ _ _ _ _ (@pw _ 0 _ _ (Or.inl k_l_any_price_l_box_here) (by rfl) (by decide) (by decide)) (@pa_c _ _ _ _ _ (@pe_int _ _ _ _) (@pa_nil _) rfl) rfl) (by decide) (by rfl) (by rfl)) (by rfl) (by first | exact .inl rfl | exact .inr rfl | assumption)) (@pss_one _ _ _ (@ps_ret _ _ _ _ (@pe_ifExp _ _ _ _ _ _ _ _ (@pt_cmpR _ _ _ _ _ _ _ _ (@op_eq _) (@pw _ 1 _ _ (Or.inl k_l_any_price_l_way) (by rfl) (by decide) (by decide)) (@pe_int _ _ _ _) (@nomark _ _ (by decide) (by decide))) (@pe_tupA _ _ _ _ _ (@pa_c _ _ _ _ _ (@pe_int _ _ _ _) (@pa_c _ _ _ _ _ (@pe_int _ _ _ _) (@pa_nil _) rfl) rfl)) (@pe_call _ _ _ _ _ _ _ _ _ _ _ _ _ _ _ _ G_l_frac (hr.mono (by decide)) k_l_any_price_l_frac T.m_l_frac T.F_l_frac.kp T.B_l_frac .nil (@pass0 _) (@pa_c _ _ _ _ _ (@pe_call _ _ _ _ _ _ _ _ _ _ _ _ _ _ _ _ G_l_take (hr.mono (by decide)) k_l_any_price_l_take T.m_l_take T.F_l_take.kp T.B_l_take .nil (@pass0 _) (@pa_c _ _ _ _ _ (@pw _ 0 _ _ (Or.inl k_l_any_price_l_box_here) (by rfl) (by decide) (by decide)) (@pa_c _ _ _ _ _ (@pe_int _ _ _ _) (@pa_nil _) rfl) rfl) (by decide) (by rfl) (by rfl)) (@pa_c _ _ _ _ _ (@pe_ix _ _ _ _ _ _ _ (@ixL_k _ (K) (by rfl)) (@pe_lstA _ _ _ _ (@pa_c _ _ _ _ _ (@pe_int _ _ _ _) (@pa_c _ _ _ _ _ (@pe_int _ _ _ _) (@pa_c _ _ _ _ _ (@pe_int _ _ _ _) (@pa_nil _) rfl) rfl) rfl)) (@pe_op _ _ _ _ _ _ _ _ (@op_sub _) (@pw _ 1 _ _ (Or.inl k_l_any_price_l_way) (by rfl) (by decide) (by decide)) (@pe_int _ _ _ _)) (fun _ _ => rfl)) (@pa_nil _) rfl) rfl) (by decide) (by rfl) (by rfl)))))), ?_⟩
    refine ⟨_, rfl, b, 4, t, rfl, B, by decide, by decide, ht0, by trivial, fun wy t1 H1 w0 w1 h1a h1b s1 B1 => ?_⟩
    refine ⟨_, rfl, rfl, _, rfl, ite2 (fun c => ?_) (fun c => ?_)⟩
    · exact ⟨(by show 2 ≤ 10000; decide), fun o H2 n2 => k o (0, 1) t1 H2 (s1.trans n2.sm.toE) n2.at' (gb_c (by decide) (by decide) (by decide)) (by decide) (B1.same n2.sm) (by trivial) (by trivial)⟩
    have hw : wy ≠ 0 := fun z => c (by rw [z]; decide)
    refine ⟨_, rfl, b, 20, t1, rfl, B1, by decide, by decide, by trivial, by trivial, fun r2 t2 H2 a20 a21 _ _ s2 B2 => ⟨(by show 3 ≤ 10000; decide), fun l5 H5 n5 => ?_⟩⟩
    obtain ⟨e, ee, he0, he1⟩ : ∃ e : Int, atI [V.int 1, V.int 1, V.int 6] (wy - 1) = some (V.int e) ∧ 1 ≤ e ∧ e ≤ 7 := by
      obtain rfl | rfl | rfl : wy = 1 ∨ wy = 2 ∨ wy = 3 := by trivial
      · exact ⟨1, rfl, by decide, by decide⟩
      · exact ⟨1, rfl, by decide, by decide⟩
      · exact ⟨6, rfl, by decide, by decide⟩
    have f : Gb 24 24 (KM.low r2 e) := gb_low (show r2.natAbs < 16777216 by trivial) (show e.natAbs < 16777216 by trivial) (by trivial)
    exact ⟨_, rfl, _, _, rfl, rfl, l5, _, _, _, rfl, rfl, SqL.of n5.at', ee, _, _, rfl, by trivial, Sz.mono (m := 40) (by show e.natAbs < 1099511627776; trivial) (by decide), fun o H6 n6 => k o _ t2 H6 (((s1.trans s2).trans n5.sm.toE).trans n6.sm.toE) n6.at' f (low_nn (by trivial) (by trivial)) ((B2.same n5.sm).same n6.sm) (by trivial) (by trivial)⟩
inductive spEnds_ (vs : List V) (H : Hp) (Q : VK) : Prop
  | mk (b : Addr) (v : V) (ls : List (List Nat)) (ts : List TieD) (t : Int) (h0 : vs = [.ref b, v]) (h1 : Bx H b t) (h2 : 0 ≤ t) (h3 : t ≤ 900000) (h4 : IsD ED H v (netD ls ts)) (h5 : 2 ≤ ls.length) (h6 : ls.length ≤ 10) (h7 : ls.Nodup) (h8 : ∀ (T : Addr) (f e : List Nat) (t' : Int) (H' : Hp), SameE (Eb b) H H' → H' T = some (.tup [.str (S f), .str (S e)]) → f ∈ ls → e ∈ ls → f ≠ e → Bx H' b t' → t ≤ t' → t' ≤ t + 2 → Q (.ref T) H')
def spEnds : Sp := fun vs H Q _ => spEnds_  vs H Q
theorem ok_ends_by (T : Txt K mg) : FnOk P w K mg base CX0 2 T.f_l_ends_by T.d_l_ends_by ["_law_box_here", "_law_net"] spEnds := by
  have G_l_take := ok_take (P := P) (w := w) (base := base) T
  refine T.F_l_ends_by.ok sc_l_ends_by (fun vs H Q E h => ?_) (fun cdv A outer s H vs Q E hr h => ?_)
  · obtain ⟨b, v, ls, ts, t, rfl, _⟩ := h
    rfl
  · obtain ⟨b, v, ls, ts, t, rfl, B, ht0, ht1, hv, l2, l10, nd, k⟩ := h
    obtain ⟨na, pa, ta, tys, rfl, hna, hpa, hta, ity⟩ := net_inv2 hv
    have es : ((ls.map strV).length : Int) = (ls.length : Int) := by rw [List.length_map]
    refine ⟨_, (@pss_cons _ _ _ _ _ (@ps_set _ _ (2) _ _ _ _ sc_l_ends_by.nd rfl (Or.inl k_l_ends_by_l_at) (@pe_call _ _ _ _ _ _ _ _ _ _ _ _ _ _ _ _ G_l_take (hr.mono (by decide)) k_l_ends_by_l_take T.m_l_take T.F_l_take.kp T.B_l_take .nil (@pass0 _) (@pa_c _ _ _ _ _ (@pw _ 0 _ _ (Or.inl k_l_ends_by_l_box_here) (by rfl) (by decide) (by decide)) (@pa_c _ _ _ _ _ (@pe_callB _ _ _ _ _ _ _ _ _ (@len_k _ (K) (by rfl)) k_l_ends_by_len T.b_len (@boot_b_len) (@pa_c _ _ _ _ _ (@pe_ix _ _ _ _ _ _ _ (@ixT_k _ (K) (by rfl)) (@pw _ 1 _ _ (Or.inl k_l_ends_by_l_net) (by rfl) (by decide) (by decide)) (@pe_int _ _ _ _) (fun _ _ => rfl)) (@pa_nil _) rfl) (by decide) (by decide) (by rfl) (by rfl)) (@pa_nil _) rfl) rfl) (by decide) (by rfl) (by rfl)) (by rfl) (by first | exact .inl rfl | exact .inr rfl | assumption)) (@pss_one _ _ _ (@ps_ret _ _ _ _ (@pe_tupA _ _ _ _ _ (@pa_c _ _ _ _ _ (@pe_ix _ _ _ _ _ _ _ (@ixT_k _ (K) (by rfl)) (@pe_ix _ _ _ _ _ _ _ (@ixT_k _ (K) (by rfl)) (@pw _ 1 _ _ (Or.inl k_l_ends_by_l_net) (by rfl) (by decide) (by decide)) (@pe_int _ _ _ _) (fun _ _ => rfl)) (@pw _ 2 _ _ (Or.inl k_l_ends_by_l_at) (by rfl) (by decide) (by decide)) (fun _ _ => rfl)) (@pa_c _ _ _ _ _ (@pe_ix _ _ _ _ _ _ _ (@ixT_k _ (K) (by rfl)) (@pe_ix _ _ _ _ _ _ _ (@ixT_k _ (K) (by rfl)) (@pw _ 1 _ _ (Or.inl k_l_ends_by_l_net) (by rfl) (by decide) (by decide)) (@pe_int _ _ _ _) (fun _ _ => rfl)) (@pe_op _ _ _ _ _ _ _ _ (@op_mod _) (@pe_op _ _ _ _ _ _ _ _ (@op_add _) (@pe_op _ _ _ _ _ _ _ _ (@op_add _) (@pw _ 2 _ _ (Or.inl k_l_ends_by_l_at) (by rfl) (by decide) (by decide)) (@pe_int _ _ _ _)) (@pe_call _ _ _ _ _ _ _ _ _ _ _ _ _ _ _ _ G_l_take (hr.mono (by decide)) k_l_ends_by_l_take T.m_l_take T.F_l_take.kp T.B_l_take .nil (@pass0 _) (@pa_c _ _ _ _ _ (@pw _ 0 _ _ (Or.inl k_l_ends_by_l_box_here) (by rfl) (by decide) (by decide)) (@pa_c _ _ _ _ _ (@pe_op _ _ _ _ _ _ _ _ (@op_sub _) (@pe_callB _ _ _ _ _ _ _ _ _ (@len_k _ (K) (by rfl)) k_l_ends_by_len T.b_len (@boot_b_len) (@pa_c _ _ _ _ _ (@pe_ix _ _ _ _ _ _ _ (@ixT_k _ (K) (by rfl)) (@pw _ 1 _ _ (Or.inl k_l_ends_by_l_net) (by rfl) (by decide) (by decide)) (@pe_int _ _ _ _) (fun _ _ => rfl)) (@pa_nil _) rfl) (by decide) (by decide) (by rfl) (by rfl)) (@pe_int _ _ _ _)) (@pa_nil _) rfl) rfl) (by decide) (by rfl) (by rfl))) (@pe_callB _ _ _ _ _ _ _ _ _ (@len_k _ (K) (by rfl)) k_l_ends_by_len T.b_len (@boot_b_len) (@pa_c _ _ _ _ _ (@pe_ix _ _ _ _ _ _ _ (@ixT_k _ (K) (by rfl)) (@pw _ 1 _ _ (Or.inl k_l_ends_by_l_net) (by rfl) (by decide) (by decide)) (@pe_int _ _ _ _) (fun _ _ => rfl)) (@pa_nil _) rfl) (by decide) (by decide) (by rfl) (by rfl))) (fun _ _ => rfl)) (@pa_nil _) rfl) rfl))))), ?_⟩
    refine ⟨_, rfl, _, rfl, na, _, _, _, rfl, rfl, SqT.of hna, rfl, pa, _, rfl, .inr (SqT.of hpa), b, _, t, rfl, B, by trivial, log9 (by trivial) (by trivial), by trivial, by trivial, fun f t1 H1 f0 f1 h1a h1b s1 B1 => ?_⟩
    have hna1 := s1.tup _ _ hna
    have hpa1 := s1.tup _ _ hpa
    refine ⟨_, rfl, na, _, _, _, rfl, rfl, SqT.of hna1, rfl, _, rfl, pa, _, _, _, rfl, rfl, SqT.of hpa1, atI_map f0 (by trivial), _, rfl, na, _, _, _, rfl, rfl, SqT.of hna1, rfl, _, rfl, _, _, rfl, rfl, _, rfl, _, rfl, na, _, _, _, rfl, rfl, SqT.of hna1, rfl, pa, _, rfl, .inr (SqT.of hpa1), _, _, rfl, rfl, b, _, t1, rfl, B1, by trivial, log9 (by trivial) (by trivial), by trivial, by trivial, fun r t2 H2 r0 r1 h2a h2b s2 B2 => ?_⟩
    have hna2 := s2.tup _ _ hna1
    have hpa2 := s2.tup _ _ hpa1
    obtain ⟨q0, q1, q2⟩ := step_on (n := (ls.length : Int)) (f := f) (r := r) f0 (by trivial) r0 (by trivial)
    obtain ⟨la, ela⟩ : ∃ la, la = (f + 1 + r) % (ls.length : Int) := ⟨_, rfl⟩
    rw [← ela] at q0 q1 q2
    have hat : atI (ls.map strV) ((f + 1 + r) % ((ls.map strV).length : Int)) = some (strV ls[la.toNat]) := by rw [es, ← ela]; exact atI_map q0 (by trivial)
    refine ⟨_, _, rfl, rfl, _, rfl, na, _, _, _, rfl, rfl, SqT.of hna2, rfl, pa, _, rfl, .inr (SqT.of hpa2), _, _, rfl, rfl, (by show (0 : Int) < ((ls.map strV).length : Int); trivial), pa, _, _, _, rfl, rfl, SqT.of hpa2, hat, (by show 2 ≤ 10000; decide), fun T2 H3 n3 => ?_⟩
    refine k T2 ls[f.toNat] ls[la.toNat] t2 H3 ((s1.trans s2).trans n3.sm.toE) n3.at' (List.getElem_mem _) (List.getElem_mem _) (fun z => ?_) (B2.same n3.sm) (by trivial) (by trivial)
    have := nodup_inj nd (by trivial) (by trivial) z
    trivial
inductive spAnyS_ (vs : List V) (H : Hp) (Q : VK) : Prop
  | mk (b : Addr) (v : V) (ls : List (List Nat)) (ts : List TieD) (t : Int) (h0 : vs = [.ref b, v]) (h1 : Bx H b t) (h2 : 0 ≤ t) (h3 : t ≤ 900000) (h4 : IsD ED H v (netD ls ts)) (h5 : (∀ t ∈ ts, TGd ls t)) (h6 : ts.length ≤ 40) (h7 : ∀ (L : Addr) (ys : List V) (ps : List KM.Fra) (t' : Int) (H' : Hp), SameE (Eb b) H H' → Bx H' b t' → t ≤ t' → t' ≤ t + 40 → H L = none → H' L = some (.lst ys) → IsAll ED H' ys (ps.map frD) → ps.length = ts.length → (∀ p ∈ ps, Gb 1894 1876 p) → Q (.ref L) H')
def spAnyS : Sp := fun vs H Q _ => spAnyS_  vs H Q
theorem ok_any_stream (T : Txt K mg) : FnOk P w K mg base CX0 3 T.f_l_any_stream T.d_l_any_stream ["_law_box_here", "_law_net"] spAnyS := by
  have G_l_take := ok_take (P := P) (w := w) (base := base) T
  have G_l_product := ok_l_product (P := P) (w := w) (base := base) T
  refine T.F_l_any_stream.ok sc_l_any_stream (fun vs H Q E h => ?_) (fun cdv A outer s H vs Q E hr h => ?_)
  · obtain ⟨b, v, ls, ts, t, rfl, _⟩ := h
    rfl
  · obtain ⟨b, v, ls, ts, t, rfl, B, ht0, ht1, hv, tc, h40, k⟩ := h
    obtain ⟨na, pa, ta, tys, rfl, hna, hpa, hta, ity⟩ := net_inv2 hv
    have lty : tys.length = ts.length := by rw [ity.length, List.length_map]
    refine ⟨_, (@pss_cons _ _ _ _ _ (@ps_set _ _ (2) _ _ _ _ sc_l_any_stream.nd rfl (Or.inr k_l_any_stream_l_shares) (@pe_lstA _ _ _ _ (@pa_c _ _ _ _ _ (@pe_tupA _ _ _ _ _ (@pa_c _ _ _ _ _ (@pe_int _ _ _ _) (@pa_c _ _ _ _ _ (@pe_int _ _ _ _) (@pa_nil _) rfl) rfl)) (@pa_c _ _ _ _ _ (@pe_tupA _ _ _ _ _ (@pa_c _ _ _ _ _ (@pe_int _ _ _ _) (@pa_c _ _ _ _ _ (@pe_int _ _ _ _) (@pa_nil _) rfl) rfl)) (@pa_c _ _ _ _ _ (@pe_tupA _ _ _ _ _ (@pa_c _ _ _ _ _ (@pe_int _ _ _ _) (@pa_c _ _ _ _ _ (@pe_int _ _ _ _) (@pa_nil _) rfl) rfl)) (@pa_c _ _ _ _ _ (@pe_tupA _ _ _ _ _ (@pa_c _ _ _ _ _ (@pe_int _ _ _ _) (@pa_c _ _ _ _ _ (@pe_int _ _ _ _) (@pa_nil _) rfl) rfl)) (@pa_nil _) rfl) rfl) rfl) rfl)) (by rfl) (by first | exact .inl rfl | exact .inr rfl | assumption)) (@pss_one _ _ _ (@ps_ret _ _ _ _ (@pe_comp _ _ _ _ _ _ _ (["_law_tie", "_law_box_here", "_law_shares"]) (1) ([0, 2]) _ _ _ _ rfl (by kernel_rfl) (@pi_tup_k _ (K) _ _ _ (@pe_ix _ _ _ _ _ _ _ (@ixT_k _ (K) (by rfl)) (@pw _ 1 _ _ (Or.inl k_l_any_stream_l_net) (by rfl) (by decide) (by decide)) (@pe_int _ _ _ _) (fun _ _ => rfl)) (by rfl)) (fun _ _ _ _ _ _ => (@pg_name _ _ (0) _ (@nodupS _ (by kernel_rfl)) rfl (Or.inl (by kernel_rfl)) (by first | exact .inl rfl | exact .inr rfl | assumption))) (fun _ _ _ _ _ _ => @pifs_nil _) (fun _ _ _ _ _ _ => (@pe_call _ _ _ _ _ _ _ _ _ _ _ _ _ _ _ _ G_l_product (hr.mono (by decide)) (by show _ = _; kernel_rfl) T.m_l_product T.F_l_product.kp T.B_l_product .nil (@pass0 _) (@pa_c _ _ _ _ _ (@pe_ix _ _ _ _ _ _ _ (@ixT_k _ (K) (by rfl)) (@pw _ 0 _ _ (Or.inl (by kernel_rfl)) (by rfl) (by decide) (by decide)) (@pe_int _ _ _ _) (fun _ _ => rfl)) (@pa_c _ _ _ _ _ (@pe_ix _ _ _ _ _ _ _ (@ixL_k _ (K) (by rfl)) (@pw _ 2 _ _ (Or.inr (Or.inl (by kernel_rfl))) (by rfl) (by decide) (by decide)) (@pe_call _ _ _ _ _ _ _ _ _ _ _ _ _ _ _ _ G_l_take (hr.mono (by decide)) (by show _ = _; kernel_rfl) T.m_l_take T.F_l_take.kp T.B_l_take .nil (@pass0 _) (@pa_c _ _ _ _ _ (@pw _ 1 _ _ (Or.inr (Or.inl (by kernel_rfl))) (by rfl) (by decide) (by decide)) (@pa_c _ _ _ _ _ (@pe_int _ _ _ _) (@pa_nil _) rfl) rfl) (by decide) (by rfl) (by rfl)) (fun _ _ => rfl)) (@pa_nil _) rfl) rfl) (by decide) (by rfl) (by rfl))) (by intro _; rfl))))), ?_⟩
    refine seqA fun Q4 nA4 => ⟨(by show 2 ≤ 10000; decide), fun u1 K1 m1 => ⟨(by show 2 ≤ 10000; decide), fun u2 K2 m2 => ⟨(by show 2 ≤ 10000; decide), fun u3 K3 m3 => ⟨(by show 2 ≤ 10000; decide), fun u4 K4 m4 => ⟨(by show 4 ≤ 10000; decide), fun l5 K5 m5 => nA4 _ _ ?_⟩⟩⟩⟩⟩
    have sm := (((m1.sm.trans m2.sm).trans m3.sm).trans m4.sm).trans m5.sm
    have fl5 : H l5 = none := (((m1.sm.trans m2.sm).trans m3.sm).trans m4.sm).free m5.fr
    have nl5 : ¬ l5 = b := fun z => B.ne fl5 z.symm
    have B5 := B.same sm
    refine ⟨_, rfl, na, _, _, _, rfl, rfl, SqT.of (sm _ _ hna), rfl, ta, rfl, ⟨_, SqT.of (sm _ _ hta)⟩, fun D hD => comp_each (n := tys.length) (fun i H' xs => Ex2 fun (ps : List KM.Fra) (t' : Int) => H' D = some (.lst xs) ∧ IsAll ED H' xs (ps.map frD) ∧ ps.length = i ∧ (∀ p ∈ ps, Gb 1894 1876 p) ∧ Bx H' b t' ∧ t ≤ t' ∧ t' ≤ t + i ∧ SameE (Eb b) K5 H') (sz_of (by trivial)) ⟨[], t, upd_same, .nil, rfl, (fun p hp => by cases hp), B5.same (Same.new hD), by trivial, by trivial, (Same.new hD).toE⟩ ?_ ?_ ?_ ?_ ?_⟩
    · rintro i H' xs ⟨ps, t', e1, e2, rfl, _⟩
      exact ⟨e1, by rw [e2.length, List.length_map]; exact Nat.le_refl _⟩
    · rintro i H' xs hi ⟨ps, t', _, _, _, _, _, _, _, sE⟩
      exact ⟨tys, tys[i], SqT.of (sE.tup _ _ (sm _ _ hta)), List.getElem?_eq_getElem hi⟩
    · rintro H' xs ⟨ps, t', _, _, _, _, _, _, _, sE⟩
      exact ⟨tys, SqT.of (sE.tup _ _ (sm _ _ hta)), Nat.le_refl _⟩
    · have nDb : ¬ D = b := fun z => B5.ne hD z.symm
      rintro i Ha xs x Hb hi ⟨ps, t', eD, iD, lD, gD, BD, h1, h2, sE⟩ ⟨rfl, ex⟩
      have exi := ex _ (SqT.of (sE.tup _ _ (sm _ _ hta)))
      obtain ⟨dy, edy, gy⟩ := ity.get exi
      rw [List.getElem?_map] at edy
      obtain ⟨tt, et, rfl⟩ := Option.map_eq_some_iff.mp edy
      have tg := tc tt (List.mem_of_getElem? et)
      obtain ⟨o, om, og, op, rfl, ho, hom, hog, hop⟩ := tie_inv2 gy
      have up : ∀ {a : Addr} {us : List V}, H a = some (.tup us) → Hb a = some (.tup us) := fun h => sE.tup _ _ (sm _ _ h)
      refine ⟨back1, _, rfl, o, _, _, _, rfl, rfl, SqT.of (up ho), rfl, _, rfl, _, rfl, b, 4, t', rfl, BD, by decide, by decide, by trivial, by trivial, fun r6 t6 K6 r60 r61 h6a h6b s6 B6 => ?_⟩
      have hl6 : K6 l5 = some (.lst [.ref u1, .ref u2, .ref u3, .ref u4]) := s6.old l5 _ nl5 (sE.old l5 _ nl5 m5.at')
      have t1' : ∀ {u : Addr} {us : List V}, K5 u = some (.tup us) → K6 u = some (.tup us) := fun h => s6.tup _ _ (sE.tup _ _ h)
      obtain ⟨so, z, eso, hso, gz'⟩ : Ex2 fun so z => atI [V.ref u1, V.ref u2, V.ref u3, V.ref u4] r6 = some (.ref so) ∧ K6 so = some (fr z) ∧ Gb 3 3 z := by
        obtain rfl | rfl | rfl | rfl : r6 = 0 ∨ r6 = 1 ∨ r6 = 2 ∨ r6 = 3 := by trivial
        · exact ⟨u1, (0, 1), rfl, t1' (m5.sm _ _ (m4.sm _ _ (m3.sm _ _ (m2.sm _ _ m1.at')))), gb_c (by decide) (by decide) (by decide)⟩
        · exact ⟨u2, (1, 1), rfl, t1' (m5.sm _ _ (m4.sm _ _ (m3.sm _ _ m2.at'))), gb_c (by decide) (by decide) (by decide)⟩
        · exact ⟨u3, (1, 2), rfl, t1' (m5.sm _ _ (m4.sm _ _ m3.at')), gb_c (by decide) (by decide) (by decide)⟩
        · exact ⟨u4, (1, 7), rfl, t1' (m5.sm _ _ m4.at'), gb_c (by decide) (by decide) (by decide)⟩
      refine ⟨l5, _, _, _, rfl, rfl, SqL.of hl6, eso, om, so, tt.most, z, _, _, _, _, rfl, s6.tup _ _ (up hom), hso, tg.fm, gz', by decide, by decide, by decide, by decide, (fun z => by cases z), fun q K7 n7 => ?_⟩
      have js : SameE (Eb b) Hb K7 := s6.trans n7.sm.toE
      have eD7 := js.old D _ nDb eD
      have c' : Ch K7 D (xs ++ [.ref q]) (upd K7 D (.lst (xs ++ [.ref q]))) := Ch.mk'
      refine ⟨eD7, ps ++ [KM.lTim tt.most z], t6, upd_same, ?_, by rw [List.length_append, lD]; rfl, fun p hp => ?_, (B6.same n7.sm).ch c' (fun z => nDb z.symm), by trivial, by trivial, (sE.trans js).up hD⟩
      · rw [List.map_append]
        exact all_snoc c' eD7 (iD.tupS js) (isF (p := KM.lTim tt.most z) n7.at')
      · rcases List.mem_append.mp hp with q | q
        · exact gD p q
        · rw [List.mem_singleton.mp q]
          exact tg.fm.tim gz' (by decide) (by decide)
    · rintro H' xs ⟨ps, t', eD, iD, lD, gD, BD, h1, h2, sE⟩
      exact k D xs ps t' H' (sm.toE.trans sE) BD h1 (by trivial) (sm.free hD) eD iD (by trivial) gD
end
end K16
namespace K16
open PySem L2
set_option maxHeartbeats 4000000
abbrev ED3 := List Nat × List Nat × KM.Fra
abbrev trD (x : ED3) : PyData := .tuple [.str (S x.1), .str (S x.2.1), frD x.2.2]
structure TrC (ls : List (List Nat)) (x : ED3) : Prop where
  b : x.1 ∈ ls
  e : x.2.1 ∈ ls
  ne : x.1 ≠ x.2.1
  g : Gb 6 6 x.2.2
  g1 : 1 ≤ x.2.2.1
theorem low_c {n d : Int} (hn : 1 ≤ n) (hn2 : n < 64) (hd : 1 ≤ d) (hd2 : d < 64) : Gb 6 6 (KM.low n d) ∧ 1 ≤ (KM.low n d).1 :=
  ⟨gb_low (show n.natAbs < 64 by trivial) (show d.natAbs < 64 by trivial) (by trivial), (KM.low_sgn (by trivial)).1.mpr (by trivial)⟩
theorem all_of {E : Addr → Prop} {H : Hp} {α : Type} {f : α → PyData} : ∀ {vs : List V} {xs : List α}, vs.length = xs.length → (∀ (i : Nat) v x, vs[i]? = some v → xs[i]? = some x → IsD E H v (f x)) → IsAll E H vs (xs.map f)
  | [], [], _, _ => .nil
  | [], _ :: _, h, _ => by simp at h
  | _ :: _, [], h, _ => by simp at h
  | v :: vs, x :: xs, h, k => .cons (k 0 v x rfl rfl) (all_of (by simpa using h) fun i v' x' h1 h2 => k (i + 1) v' x' (by simpa using h1) (by simpa using h2))
theorem mod_ne {n f i j : Int} (h0 : 0 < n) (hij : i < j) (hn : j - i < n) : (f + i) % n ≠ (f + j) % n := fun z => by
  have h1 : ((f + j) - (f + i)) % n = 0 := by
    rw [Int.sub_emod, z, Int.sub_self, Int.zero_emod]
  have h2 : (f + j) - (f + i) = j - i := by trivial
  rw [h2, Int.emod_eq_of_lt (by trivial) hn] at h1
  trivial
section
variable {P : Program} {w : World} {K : PySem.W.Frag} {mg : Str → Option Value} {base : Heap}
inductive spPlant_ (vs : List V) (H : Hp) (Q : VK) : Prop
  | mk (b pl : Addr) (ls : List (List Nat)) (t : Int) (h0 : vs = [.ref b, .ref pl]) (h1 : Bx H b t) (h2 : 0 ≤ t) (h3 : t ≤ 900000) (h4 : H pl = some (.tup (ls.map strV))) (h5 : 2 ≤ ls.length) (h6 : ls.length ≤ 10) (h7 : ls.Nodup) (h8 : ∀ (L : Addr) (ys : List V) (es : List ED3) (t' : Int) (H' : Hp), SameE (Eb b) H H' → H L = none → H' L = some (.lst ys) → IsAll ED H' ys (es.map trD) → es.length ≤ 10 → (∀ x ∈ es, TrC ls x) → Bx H' b t' → t ≤ t' → t' ≤ t + 5 → Q (.ref L) H')
def spPlant : Sp := fun vs H Q _ => spPlant_  vs H Q
theorem ok_planted (T : Txt K mg) : FnOk P w K mg base CX0 2 T.f_l_planted T.d_l_planted ["_law_box_here", "_law_places"] spPlant := by
  have G_l_take := ok_take (P := P) (w := w) (base := base) T
  have G_l_frac := ok_frac (P := P) (w := w) (base := base) T
  refine T.F_l_planted.ok sc_l_planted (fun vs H Q E h => ?_) (fun cdv A outer s H vs Q E hr h => ?_)
  · obtain ⟨b, pl, ls, t, rfl, _⟩ := h
    rfl
  · obtain ⟨b, pl, ls, t, rfl, B, ht0, ht1, hpl, l2, l10, nd, k⟩ := h
    have es : ((ls.map strV).length : Int) = (ls.length : Int) := by rw [List.length_map]
    refine ⟨_, (@pss_cons _ _ _ _ _ (@ps_set _ _ (2) _ _ _ _ sc_l_planted.nd rfl (Or.inl k_l_planted_l_many) (@pe_op _ _ _ _ _ _ _ _ (@op_add _) (@pe_int _ _ _ _) (@pe_call _ _ _ _ _ _ _ _ _ _ _ _ _ _ _ _ G_l_take (hr.mono (by decide)) k_l_planted_l_take T.m_l_take T.F_l_take.kp T.B_l_take .nil (@pass0 _) (@pa_c _ _ _ _ _ (@pw _ 0 _ _ (Or.inl k_l_planted_l_box_here) (by rfl) (by decide) (by decide)) (@pa_c _ _ _ _ _ (@pe_op _ _ _ _ _ _ _ _ (@op_sub _) (@pe_callB _ _ _ _ _ _ _ _ _ (@len_k _ (K) (by rfl)) k_l_planted_len T.b_len (@boot_b_len) (@pa_c _ _ _ _ _ (@pw _ 1 _ _ (Or.inr (Or.inl k_l_planted_l_places)) (by rfl) (by decide) (by decide)) (@pa_nil _) rfl) (by decide) (by decide) (by rfl) (by rfl)) (@pe_int _ _ _ _)) (@pa_nil _) rfl) rfl) (by decide) (by rfl) (by rfl))) (by rfl) (by first | exact .inl rfl | exact .inr rfl | assumption)) (@pss_cons _ _ _ _ _ (@ps_asg _ _ _ _ _ _ (@pe_tupA _ _ _ _ _ (@pa_c _ _ _ _ _ (@pe_call _ _ _ _ _ _ _ _ _ _ _ _ _ _ _ _ G_l_take (hr.mono (by decide)) k_l_planted_l_take T.m_l_take T.F_l_take.kp T.B_l_take .nil (@pass0 _) (@pa_c _ _ _ _ _ (@pw _ 0 _ _ (Or.inl k_l_planted_l_box_here) (by rfl) (by decide) (by decide)) (@pa_c _ _ _ _ _ (@pe_callB _ _ _ _ _ _ _ _ _ (@len_k _ (K) (by rfl)) k_l_planted_len T.b_len (@boot_b_len) (@pa_c _ _ _ _ _ (@pw _ 1 _ _ (Or.inr (Or.inl k_l_planted_l_places)) (by rfl) (by decide) (by decide)) (@pa_nil _) rfl) (by decide) (by decide) (by rfl) (by rfl)) (@pa_nil _) rfl) rfl) (by decide) (by rfl) (by rfl)) (@pa_c _ _ _ _ _ (@pe_op _ _ _ _ _ _ _ _ (@op_add _) (@pe_int _ _ _ _) (@pe_call _ _ _ _ _ _ _ _ _ _ _ _ _ _ _ _ G_l_take (hr.mono (by decide)) k_l_planted_l_take T.m_l_take T.F_l_take.kp T.B_l_take .nil (@pass0 _) (@pa_c _ _ _ _ _ (@pw _ 0 _ _ (Or.inl k_l_planted_l_box_here) (by rfl) (by decide) (by decide)) (@pa_c _ _ _ _ _ (@pe_int _ _ _ _) (@pa_nil _) rfl) rfl) (by decide) (by rfl) (by rfl))) (@pa_c _ _ _ _ _ (@pe_op _ _ _ _ _ _ _ _ (@op_add _) (@pe_int _ _ _ _) (@pe_call _ _ _ _ _ _ _ _ _ _ _ _ _ _ _ _ G_l_take (hr.mono (by decide)) k_l_planted_l_take T.m_l_take T.F_l_take.kp T.B_l_take .nil (@pass0 _) (@pa_c _ _ _ _ _ (@pw _ 0 _ _ (Or.inl k_l_planted_l_box_here) (by rfl) (by decide) (by decide)) (@pa_c _ _ _ _ _ (@pe_int _ _ _ _) (@pa_nil _) rfl) rfl) (by decide) (by rfl) (by rfl))) (@pa_nil _) rfl) rfl) rfl)) (@pg_tup_k _ (K) _ _ _ _ (3) rfl (@pgs_cons _ _ _ _ _ (@pg_name _ _ (3) _ sc_l_planted.nd rfl (Or.inr k_l_planted_l_first) (by first | exact .inl rfl | exact .inr rfl | assumption)) (@pgs_cons _ _ _ _ _ (@pg_name _ _ (4) _ sc_l_planted.nd rfl (Or.inl k_l_planted_l_a) (by first | exact .inl rfl | exact .inr rfl | assumption)) (@pgs_cons _ _ _ _ _ (@pg_name _ _ (5) _ sc_l_planted.nd rfl (Or.inl k_l_planted_l_b) (by first | exact .inl rfl | exact .inr rfl | assumption)) (@pgs_nil _) (by rfl)) (by rfl)) (by rfl)) (by rfl) (by rfl) (by rfl)) (by rfl) (by rfl) (by rfl)) (@pss_cons _ _ _ _ _ (@ps_set _ _ (6) _ _ _ _ sc_l_planted.nd rfl (Or.inl k_l_planted_l_more) (@pe_op _ _ _ _ _ _ _ _ (@op_add _) (@pe_int _ _ _ _) (@pe_call _ _ _ _ _ _ _ _ _ _ _ _ _ _ _ _ G_l_take (hr.mono (by decide)) k_l_planted_l_take T.m_l_take T.F_l_take.kp T.B_l_take .nil (@pass0 _) (@pa_c _ _ _ _ _ (@pw _ 0 _ _ (Or.inl k_l_planted_l_box_here) (by rfl) (by decide) (by decide)) (@pa_c _ _ _ _ _ (@pe_int _ _ _ _) (@pa_nil _) rfl) rfl) (by decide) (by rfl) (by rfl))) (by rfl) (by first | exact .inl rfl | exact .inr rfl | assumption)) (@pss_cons _ _ _ _ _ (@ps_set _ _ (7) _ _ _ _ sc_l_planted.nd rfl (Or.inl k_l_planted_l_gains) (@pe_op _ _ _ _ _ _ _ _ (@op_catA _) (@pe_lstA _ _ _ _ (@pa_c _ _ _ _ _ (@pe_call _ _ _ _ _ _ _ _ _ _ _ _ _ _ _ _ G_l_frac (hr.mono (by decide)) k_l_planted_l_frac T.m_l_frac T.F_l_frac.kp T.B_l_frac .nil (@pass0 _) (@pa_c _ _ _ _ _ (@pw _ 4 _ _ (Or.inl k_l_planted_l_a) (by rfl) (by decide) (by decide)) (@pa_c _ _ _ _ _ (@pw _ 5 _ _ (Or.inl k_l_planted_l_b) (by rfl) (by decide) (by decide)) (@pa_nil _) rfl) rfl) (by decide) (by rfl) (by rfl)) (@pa_c _ _ _ _ _ (@pe_call _ _ _ _ _ _ _ _ _ _ _ _ _ _ _ _ G_l_frac (hr.mono (by decide)) k_l_planted_l_frac T.m_l_frac T.F_l_frac.kp T.B_l_frac .nil (@pass0 _) (@pa_c _ _ _ _ _ (@pe_op _ _ _ _ _ _ _ _ (@op_mul _) (@pw _ 5 _ _ (Or.inl k_l_planted_l_b) (by rfl) (by decide) (by decide)) (@pe_op _ _ _ _ _ _ _ _ (@op_add _) (@pw _ 6 _ _ (Or.inl k_l_planted_l_more) (by rfl) (by decide) (by decide)) (@pe_int _ _ _ _))) (@pa_c _ _ _ _ _ (@pe_op _ _ _ _ _ _ _ _ (@op_mul _) (@pw _ 4 _ _ (Or.inl k_l_planted_l_a) (by rfl) (by decide) (by decide)) (@pw _ 6 _ _ (Or.inl k_l_planted_l_more) (by rfl) (by decide) (by decide))) (@pa_nil _) rfl) rfl) (by decide) (by rfl) (by rfl)) (@pa_nil _) rfl) rfl)) (@pe_op _ _ _ _ _ _ _ _ (@op_repA _) (@pe_lstA _ _ _ _ (@pa_c _ _ _ _ _ (@pe_tupA _ _ _ _ _ (@pa_c _ _ _ _ _ (@pe_int _ _ _ _) (@pa_c _ _ _ _ _ (@pe_int _ _ _ _) (@pa_nil _) rfl) rfl)) (@pa_nil _) rfl)) (@pe_op _ _ _ _ _ _ _ _ (@op_sub _) (@pw _ 2 _ _ (Or.inl k_l_planted_l_many) (by rfl) (by decide) (by decide)) (@pe_int _ _ _ _)))) (by rfl) (by first | exact .inl rfl | exact .inr rfl | assumption)) (@pss_cons _ _ _ _ _ (@ps_setComp _ _ _ _ _ _ _ (["_law_k", "_law_first", "_law_places"]) (1) ([3, 1]) _ _ _ _ (8) _ _ _ sc_l_planted.nd rfl k_l_planted_l_spots (by kernel_rfl) rfl (by kernel_rfl) (@pi_range1 _ _ _ _ _ _ k_l_planted_range T.b_range (@pa_c _ _ _ _ _ (@pw _ 2 _ _ (Or.inl k_l_planted_l_many) (by rfl) (by decide) (by decide)) (@pa_nil _) rfl) (by rfl)) (fun _ _ _ _ _ _ => (@pg_name _ _ (0) _ (@nodupS _ (by kernel_rfl)) rfl (Or.inl (by kernel_rfl)) (by first | exact .inl rfl | exact .inr rfl | assumption))) (fun _ _ _ _ _ _ => @pifs_nil _) (fun _ _ _ _ _ _ => (@pe_ix _ _ _ _ _ _ _ (@ixT_k _ (K) (by rfl)) (@pw _ 2 _ _ (Or.inr (Or.inl (by kernel_rfl))) (by rfl) (by decide) (by decide)) (@pe_op _ _ _ _ _ _ _ _ (@op_mod _) (@pe_op _ _ _ _ _ _ _ _ (@op_add _) (@pw _ 1 _ _ (Or.inr (Or.inl (by kernel_rfl))) (by rfl) (by decide) (by decide)) (@pw _ 0 _ _ (Or.inl (by kernel_rfl)) (by rfl) (by decide) (by decide))) (@pe_callB _ _ _ _ _ _ _ _ _ (@len_k _ (K) (by rfl)) (by show _ = _; kernel_rfl) T.b_len (@boot_b_len) (@pa_c _ _ _ _ _ (@pw _ 2 _ _ (Or.inr (Or.inl (by kernel_rfl))) (by rfl) (by decide) (by decide)) (@pa_nil _) rfl) (by decide) (by decide) (by rfl) (by rfl))) (fun _ _ => rfl))) (by intro _; rfl)) (@pss_one _ _ _ (@ps_ret _ _ _ _ (@pe_listZ3 _ (K) _ _ _ _ _ _ _ _ rfl k_l_planted_list T.b_list k_l_planted_zip T.b_zip (@pa_c _ _ _ _ _ (@pw _ 8 _ _ (Or.inl k_l_planted_l_spots) (by rfl) (by decide) (by decide)) (@pa_c _ _ _ _ _ (@pe_op _ _ _ _ _ _ _ _ (@op_catA _) (@pe_slice _ _ _ _ _ _ _ _ _ _ (@sl_listA _ (K) (by rfl)) (@pw _ 8 _ _ (Or.inl k_l_planted_l_spots) (by rfl) (by decide) (by decide)) (@po_some _ _ _ (@pe_int _ _ _ _)) (@po_none _)) (@pe_slice _ _ _ _ _ _ _ _ _ _ (@sl_listA _ (K) (by rfl)) (@pw _ 8 _ _ (Or.inl k_l_planted_l_spots) (by rfl) (by decide) (by decide)) (@po_none _) (@po_some _ _ _ (@pe_int _ _ _ _)))) (@pa_c _ _ _ _ _ (@pw _ 7 _ _ (Or.inl k_l_planted_l_gains) (by rfl) (by decide) (by decide)) (@pa_nil _) rfl) rfl) rfl) (by rfl) (by rfl) (by rfl) (by rfl))))))))), ?_⟩
    refine seqA fun Q1 nA1 => ⟨_, rfl, _, rfl, pl, _, rfl, .inr (SqT.of hpl), _, _, rfl, rfl, b, _, t, rfl, B, by trivial, log9 (by trivial) (by trivial), by trivial, by trivial, fun r1 t1 H1 r10 r11 h1a h1b s1 B1 => ⟨_, _, rfl, rfl, nA1 _ _ ?_⟩⟩
    have hpl1 := s1.tup _ _ hpl
    refine ⟨_, rfl, _, rfl, pl, _, rfl, .inr (SqT.of hpl1), b, _, t1, rfl, B1, by trivial, log9 (by trivial) (by trivial), by trivial, by trivial, fun f t2 H2 f0 f1 h2a h2b s2 B2 => ?_⟩
    refine ⟨_, rfl, b, 6, t2, rfl, B2, by decide, by decide, by trivial, by trivial, fun a t3 H3 a0 a1 h3a h3b s3 B3 => ⟨_, _, rfl, rfl, ?_⟩⟩
    refine ⟨_, rfl, b, 6, t3, rfl, B3, by decide, by decide, by trivial, by trivial, fun c t4 H4 c0 c1 h4a h4b s4 B4 => ⟨_, _, rfl, rfl, (by show 3 ≤ 10000; decide), fun T5 H5 n5 => ⟨T5, _, rfl, SqT.of n5.at', rfl, _, _, rfl, _, _, rfl, _, _, rfl, rfl, ?_⟩⟩⟩
    dsimp only
    refine seqA fun Q2 nA2 => ⟨_, rfl, b, 6, t4, rfl, B4.same n5.sm, by decide, by decide, by trivial, by trivial, fun m t6 H6 m0 m1 h6a h6b s6 B6 => ⟨_, _, rfl, rfl, nA2 _ _ ?_⟩⟩
    have s06 : SameE (Eb b) H H6 := ((((s1.trans s2).trans s3).trans s4).trans n5.sm.toE).trans s6
    have q1 : 1 ≤ (1 + a) * (1 + m) := by
      have := Int.mul_le_mul (show (1 : Int) ≤ 1 + a by trivial) (show (1 : Int) ≤ 1 + m by trivial) (by decide) (by trivial); trivial
    have q2 : (1 + a) * (1 + m) ≤ 6 * 6 := Int.mul_le_mul (by trivial) (by trivial) (by trivial) (by decide)
    have q3 : 1 ≤ (1 + c) * (1 + m + 1) := by
      have := Int.mul_le_mul (show (1 : Int) ≤ 1 + c by trivial) (show (1 : Int) ≤ 1 + m + 1 by trivial) (by decide) (by trivial); trivial
    have q4 : (1 + c) * (1 + m + 1) ≤ 6 * 7 := Int.mul_le_mul (by trivial) (by trivial) (by trivial) (by decide)
    have g1 := low_c (n := 1 + a) (d := 1 + c) (by trivial) (by trivial) (by trivial) (by trivial)
    have g2 := low_c q3 (by trivial) q1 (by trivial)
    refine seqA fun Q3 nA3 => ?_
    refine ⟨_, rfl, _, rfl, 1 + a, 1 + c, rfl, by trivial, Sz.mono (m := 40) (by show (1 + c).natAbs < 1099511627776; trivial) (by decide), fun o1 H7 n7 => ?_⟩
    refine ⟨_, rfl, _, rfl, _, _, rfl, rfl, _, _, rfl, rfl, .inr ⟨by trivial, by trivial⟩, _, rfl, _, rfl, _, _, rfl, rfl, .inr ⟨by trivial, by trivial⟩, (1 + c) * (1 + m + 1), (1 + a) * (1 + m), rfl, by trivial, Sz.mono (m := 40) (by show ((1 + a) * (1 + m)).natAbs < 1099511627776; trivial) (by decide), fun o2 H8 n8 => ?_⟩
    refine ⟨(by show 2 ≤ 10000; decide), fun l9 H9 n9 => ⟨(by show 2 ≤ 10000; decide), fun o3 H10 n10 => ⟨(by show 1 ≤ 10000; decide), fun l11 H11 n11 => ?_⟩⟩⟩
    refine ⟨_, rfl, _, _, rfl, rfl, l11, _, _, rfl, rfl, n11.at', by trivial, by trivial, by simp; trivial, fun l12 H12 n12 => ⟨l9, l12, _, _, rfl, rfl, n12.sm _ _ (n11.sm _ _ (n10.sm _ _ n9.at')), n12.at', ?_, fun G H13 n13 => nA3 _ _ ?_⟩⟩
    · rw [rep_flat, List.length_replicate]; simp; trivial
    obtain ⟨mn, emn, hmn⟩ : ∃ mn : Nat, 2 + r1 = (mn : Int) ∧ 2 ≤ mn ∧ mn ≤ ls.length := ⟨(2 + r1).toNat, by trivial, by trivial, by trivial⟩
    have s613 : Same H6 H13 := ((((((n7.sm.trans n8.sm).trans n9.sm).trans n10.sm).trans n11.sm).trans n12.sm).trans n13.sm)
    have hG : H13 G = some (.lst ([.ref o1, .ref o2] ++ List.replicate (mn - 2) (.ref o3))) := by
      have := n13.at'
      rw [rep_flat, show (2 + r1 - 2).toNat = mn - 2 by trivial] at this
      exact this
    have ho1 : H13 o1 = some (fr (KM.low (1 + a) (1 + c))) := n13.sm _ _ (n12.sm _ _ (n11.sm _ _ (n10.sm _ _ (n9.sm _ _ (n8.sm _ _ n7.at')))))
    have ho2 : H13 o2 = some (fr (KM.low ((1 + c) * (1 + m + 1)) ((1 + a) * (1 + m)))) := n13.sm _ _ (n12.sm _ _ (n11.sm _ _ (n10.sm _ _ (n9.sm _ _ n8.at'))))
    have ho3 : H13 o3 = some (fr (1, 1)) := n13.sm _ _ (n12.sm _ _ (n11.sm _ _ n10.at'))
    have hplE : H13 pl = some (.tup (ls.map strV)) := s613 _ _ (s06.tup _ _ hpl)
    have ix : ∀ i : Nat, ∃ l, ls[((f + (i : Int)) % (ls.length : Int)).toNat]? = some l ∧ 0 ≤ (f + (i : Int)) % (ls.length : Int) ∧ ((f + (i : Int)) % (ls.length : Int)).toNat < ls.length := fun i => by
      have a1 := Int.emod_nonneg (f + (i : Int)) (show (ls.length : Int) ≠ 0 by trivial)
      have a2 := Int.emod_lt_of_pos (f + (i : Int)) (show (0 : Int) < ls.length by trivial)
      exact ⟨_, List.getElem?_eq_getElem (by trivial), a1, by trivial⟩
    obtain ⟨sp, hsp⟩ : ∃ sp : Nat → List Nat, ∀ i : Nat, ls[((f + (i : Int)) % (ls.length : Int)).toNat]? = some (sp i) := ⟨fun i => Classical.choose (ix i), fun i => (Classical.choose_spec (ix i)).1⟩
    have spm : ∀ i, sp i ∈ ls := fun i => List.mem_of_getElem? (hsp i)
    have spn : ∀ i j : Nat, i < j → j < ls.length → sp i ≠ sp j := fun i j hij hj z => by
      have h1 := hsp i
      have h2 := hsp j
      rw [z] at h1
      have := nodup_q nd h1 h2
      obtain ⟨_, _, p1, _⟩ := ix i
      obtain ⟨_, _, p2, _⟩ := ix j
      exact mod_ne (n := (ls.length : Int)) (f := f) (i := i) (j := j) (by trivial) (by trivial) (by trivial) (by trivial)
    refine seqA fun Q4 nA4 => ⟨_, rfl, _, rfl, by trivial, by trivial, fun D hD => ?_⟩
    rw [emn, Int.toNat_natCast]
    refine comp_mapJ (n := mn) (fun k => strV (sp k)) (by trivial) hD (fun i H' hi sm => hi) (fun H' sm => Nat.le_refl _) ?_ ?_
    · rintro i x H' H'' R hi sm ⟨rfl, rfl⟩ kk
      have hplX := sm _ _ hplE
      obtain ⟨_, _, p1, p2⟩ := ix i
      have hat : atI (ls.map strV) ((f + (0 + (i : Int))) % ((ls.map strV).length : Int)) = some (strV (sp i)) := by
        rw [es, Int.zero_add, atI_map p1 p2]
        have := hsp i
        rw [List.getElem?_eq_getElem p2] at this
        rw [Option.some.inj this]
      exact ⟨back1, _, rfl, _, rfl, _, rfl, _, _, rfl, rfl, _, rfl, pl, _, rfl, .inr (SqT.of hplX), _, _, rfl, rfl, (by show (0 : Int) < ((ls.map strV).length : Int); trivial), pl, _, _, _, rfl, rfl, SqT.of hplX, hat, kk _ (Same.refl _)⟩
    intro J sJ hDJ
    refine nA4 _ _ ?_
    have ml : ((List.range mn).map fun k => strV (sp k)).length = mn := by simp
    refine ⟨_, rfl, _, rfl, _, rfl, D, _, rfl, SqL.of hDJ, fun p1 J1 j1 => ⟨_, rfl, _, rfl, D, _, rfl, SqL.of (j1.sm _ _ hDJ), fun p2 J2 j2 => ⟨p1, p2, _, _, rfl, rfl, j2.sm _ _ j1.at', j2.at', ?_, fun p3 J3 j3 => ?_⟩⟩⟩
    · rw [cutV_drop1, cutV_take (by decide), List.length_drop, List.length_take, ml]
      show mn - 1 + min 1 mn ≤ 10000
      trivial
    have e3 : J3 p3 = some (.lst (((List.range mn).map fun k => strV (sp k)).drop 1 ++ ((List.range mn).map fun k => strV (sp k)).take 1)) := by
      rw [j3.at', cutV_drop1, cutV_take (by decide)]; rfl
    have sJ3 : Same H13 J3 := sJ.trans ((j1.sm.trans j2.sm).trans j3.sm)
    refine ⟨_, rfl, D, p3, G, _, _, _, rfl, SqL.of (j3.sm _ _ (j2.sm _ _ (j1.sm _ _ hDJ))), SqL.of e3, SqL.of (sJ3 _ _ hG), ?_, ?_, by rw [ml]; trivial, fun L ts J4 s4' fL hL lts hts => ?_⟩
    · rw [List.length_append, List.length_drop, List.length_take, ml]; trivial
    · rw [List.length_append, List.length_replicate, ml]; simp; trivial
    rw [ml] at lts
    have s134 := sJ3.trans s4'
    have gz : ∀ i : Nat, i < mn → ∃ z : Addr × KM.Fra, ([V.ref o1, .ref o2] ++ List.replicate (mn - 2) (.ref o3))[i]? = some (.ref z.1) ∧ J4 z.1 = some (fr z.2) ∧ Gb 6 6 z.2 ∧ 1 ≤ z.2.1 := fun i hi => by
      match i, hi with
      | 0, _ => exact ⟨(o1, _), rfl, s134 _ _ ho1, g1.1, g1.2⟩
      | 1, _ => exact ⟨(o2, _), rfl, s134 _ _ ho2, g2.1, g2.2⟩
      | i + 2, hi =>
        refine ⟨(o3, (1, 1)), ?_, s134 _ _ ho3, gb_c (by decide) (by decide) (by decide), (by show (1 : Int) ≤ 1; decide)⟩
        show (List.replicate (mn - 2) (V.ref o3))[i]? = _
        rw [List.getElem?_replicate, if_pos (by trivial)]
    obtain ⟨zl, lzl, hzl⟩ := list_of mn gz
    obtain ⟨g, hg⟩ : ∃ g : Nat → KM.Fra, ∀ i, i < mn → ∃ o, ([V.ref o1, .ref o2] ++ List.replicate (mn - 2) (.ref o3))[i]? = some (.ref o) ∧ J4 o = some (fr (g i)) ∧ Gb 6 6 (g i) ∧ 1 ≤ (g i).1 := by
      refine ⟨fun i => ((zl[i]?).map Prod.snd).getD (1, 1), fun i hi => ?_⟩
      obtain ⟨z, ez⟩ : ∃ z, zl[i]? = some z := ⟨_, List.getElem?_eq_getElem (by trivial)⟩
      have q := hzl i z ez
      refine ⟨z.1, q.1, ?_⟩
      show J4 z.1 = some (fr (((zl[i]?).map Prod.snd).getD (1, 1))) ∧ Gb 6 6 (((zl[i]?).map Prod.snd).getD (1, 1)) ∧ 1 ≤ (((zl[i]?).map Prod.snd).getD (1, 1)).1
      rw [ez]
      exact q.2
    have s6' : SameE (Eb b) H J4 := s06.trans (s613.trans s134).toE
    refine k L (ts.map V.ref) ((List.range mn).map fun i => (sp i, (if i + 1 < mn then sp (i + 1) else sp 0), g i)) t6 J4 s6' ?_ hL ?_ (by simp; trivial) ?_ (B6.same (s613.trans s134)) (by trivial) (by trivial)
    · have : H13 L = none := sJ3.free fL
      exact s06.free B6 (s613.free this)
    · refine all_of (by simp [lts]) fun i v x hv hx => ?_
      rw [List.getElem?_map] at hv hx
      obtain ⟨tt, ht, rfl⟩ := Option.map_eq_some_iff.mp hv
      obtain ⟨i', hi', rfl⟩ := Option.map_eq_some_iff.mp hx
      obtain ⟨il, e'⟩ := List.getElem?_eq_some_iff.mp hi'
      rw [List.getElem_range] at e'
      subst e'
      rw [List.length_range] at il
      obtain ⟨x, y, z, hx', hy', hz', hT⟩ := hts i tt ht
      obtain ⟨o, ho, ho', _⟩ := hg i il
      rw [ho] at hz'
      cases hz'
      rw [List.getElem?_map, List.getElem?_range il] at hx'
      cases hx'
      have ey : y = strV (if i + 1 < mn then sp (i + 1) else sp 0) := by
        by_cases c1 : i + 1 < mn
        · rw [List.getElem?_append_left (by rw [List.length_drop, ml]; trivial), List.getElem?_drop, List.getElem?_map, show 1 + i = i + 1 by trivial, List.getElem?_range c1] at hy'
          rw [if_pos c1]
          exact (Option.some.inj hy').symm
        · rw [List.getElem?_append_right (by rw [List.length_drop, ml]; trivial), List.length_drop, ml, show i - (mn - 1) = 0 by trivial, List.getElem?_take, if_pos (by decide), List.getElem?_map, List.getElem?_range (by trivial)] at hy'
          rw [if_neg c1]
          exact (Option.some.inj hy').symm
      rw [ey] at hT
      exact .tup hT (.cons (.str _) (.cons (.str _) (.cons (isF ho') .nil)))
    · intro x hx
      obtain ⟨i, hi, rfl⟩ := List.mem_map.mp hx
      have il := List.mem_range.mp hi
      obtain ⟨o, _, _, gg, gg1⟩ := hg i il
      refine ⟨spm i, ?_, ?_, gg, gg1⟩
      · show (if i + 1 < mn then sp (i + 1) else sp 0) ∈ ls
        split
        · exact spm _
        · exact spm _
      · show sp i ≠ (if i + 1 < mn then sp (i + 1) else sp 0)
        split
        · exact spn i (i + 1) (by trivial) (by trivial)
        · exact fun z => spn 0 i (by trivial) (by trivial) z.symm
end
end K16
namespace K16
open PySem L2
set_option maxHeartbeats 4000000
theorem keys_nodup {ls : List (List Nat)} (h : ls.Nodup) : (ls.map fun l => (Sum.inr (S l) : Key)).Nodup := by
  rw [List.nodup_iff_pairwise_ne, List.pairwise_map]
  refine List.Pairwise.imp (fun {a b} hab z => ?_) (List.nodup_iff_pairwise_ne.mp h)
  injection z with z
  exact hab (S_inj z)
abbrev WC (z : KM.Fra) : Prop := 1 ≤ z.1 ∧ z.1 ≤ 3 ∧ 1 ≤ z.2 ∧ z.2 ≤ 3
theorem wgain {p q z : KM.Fra} (hp : WC p) (hq : WC q) (hz : 1 ≤ z.1 ∧ z.1 ≤ 5 ∧ 1 ≤ z.2 ∧ z.2 ≤ 6) : Gb 6 6 (KM.lTim (lOvr p q) z) ∧ 1 ≤ (KM.lTim (lOvr p q) z).1 := by
  obtain ⟨a1, a2, a3, a4⟩ := hp
  obtain ⟨b1, b2, b3, b4⟩ := hq
  obtain ⟨c1, c2, c3, c4⟩ := hz
  have m1 : p.1 * q.2 ≤ 3 * 3 := Int.mul_le_mul a2 b4 (by trivial) (by decide)
  have m2 : p.2 * q.1 ≤ 3 * 3 := Int.mul_le_mul a4 b2 (by trivial) (by decide)
  have p1 : 0 < p.1 * q.2 := Int.mul_pos (by trivial) (by trivial)
  have p2 : 0 < p.2 * q.1 := Int.mul_pos (by trivial) (by trivial)
  have sp := KM.low_spec (p.1 * q.2) (p.2 * q.1) (by trivial)
  have o1 : 1 ≤ (lOvr p q).1 := ovr_pos a1 a3 b1 b3
  obtain ⟨s1, _, _, s2, s3⟩ := sp
  have o2 : (lOvr p q).1 ≤ 9 := by
    have : (lOvr p q).1.natAbs ≤ (p.1 * q.2).natAbs := s2
    trivial
  have o3 : 1 ≤ (lOvr p q).2 := s1
  have o4 : (lOvr p q).2 ≤ 9 := by
    have : (lOvr p q).2.natAbs ≤ (p.2 * q.1).natAbs := s3
    trivial
  have n1 : (lOvr p q).1 * z.1 ≤ 9 * 5 := Int.mul_le_mul o2 c2 (by trivial) (by decide)
  have n2 : (lOvr p q).2 * z.2 ≤ 9 * 6 := Int.mul_le_mul o4 c4 (by trivial) (by decide)
  have n3 : 0 < (lOvr p q).1 * z.1 := Int.mul_pos (by trivial) (by trivial)
  have n4 : 0 < (lOvr p q).2 * z.2 := Int.mul_pos (by trivial) (by trivial)
  exact low_c (by trivial) (by trivial) (by trivial) (by trivial)
theorem wc_gb {z : KM.Fra} (h : WC z) : Gb 2 2 z := ⟨show z.1.natAbs < 4 by have := h.1; have := h.2.1; trivial, show z.2.natAbs < 4 by have := h.2.2.1; have := h.2.2.2; trivial, h.2.2.1⟩
section
variable {P : Program} {w : World} {K : PySem.W.Frag} {mg : Str → Option Value} {base : Heap}
inductive spNetB_ (vs : List V) (H : Hp) (Q : VK) : Prop
  | mk (b : Addr) (mp mt t : Int) (h0 : vs = [.ref b, .int mp, .int mt]) (h1 : Bx H b t) (h2 : 0 ≤ t) (h3 : t ≤ 800000) (h4 : 2 ≤ mp) (h5 : mp ≤ 10) (h6 : 1 ≤ mt) (h7 : mt ≤ 24) (h8 : ∀ (v : V) (ls : List (List Nat)) (ts : List TieD) (t' : Int) (H' : Hp), SameE (Eb b) H H' → IsD ED H' v (netD ls ts) → 2 ≤ ls.length → ls.length ≤ 10 → ls.Nodup → (∀ l ∈ ls, NameC l) → 1 ≤ ts.length → ts.length ≤ 24 → (∀ t ∈ ts, TGd ls t) → Bx H' b t' → t ≤ t' → t' ≤ t + 700 → Q v H')
def spNetB : Sp := fun vs H Q _ => spNetB_  vs H Q
theorem ok_net_by (T : Txt K mg) : FnOk P w K mg base CX0 3 T.f_l_net_by T.d_l_net_by ["_law_box_here", "_law_most_places", "_law_most_ties"] spNetB := by
  have G_l_take := ok_take (P := P) (w := w) (base := base) T
  have G_l_names_by := ok_names_by (P := P) (w := w) (base := base) T
  have G_l_planted := ok_planted (P := P) (w := w) (base := base) T
  have G_l_any_gain := ok_any_gain (P := P) (w := w) (base := base) T
  have G_l_any_much := ok_any_much16 (P := P) (w := w) (base := base) T
  have G_l_any_price := ok_any_price (P := P) (w := w) (base := base) T
  have G_l_product := ok_l_product (P := P) (w := w) (base := base) T
  have G_l_over := ok_l_over (P := P) (w := w) (base := base) T
  refine T.F_l_net_by.ok sc_l_net_by (fun vs H Q E h => ?_) (fun cdv A outer s H vs Q E hr h => ?_)
  · obtain ⟨b, mp, mt, t, rfl, _⟩ := h
    rfl
  · obtain ⟨b, mp, mt, t, rfl, B, ht0, ht1, mp1, mp2, mt1, mt2, k⟩ := h
    refine ⟨_, (@pss_cons _ _ _ _ _ (@ps_par _ _ (3) (4) _ _ _ _ _ _ _ _ _ _ _ rfl sc_l_net_by.nd rfl rfl (by decide) k_l_net_by_l_way k_l_net_by_l_great (@pa_c _ _ _ _ _ (@pe_call _ _ _ _ _ _ _ _ _ _ _ _ _ _ _ _ G_l_take (hr.mono (by decide)) k_l_net_by_l_take T.m_l_take T.F_l_take.kp T.B_l_take .nil (@pass0 _) (@pa_c _ _ _ _ _ (@pw _ 0 _ _ (Or.inr (Or.inl k_l_net_by_l_box_here)) (by rfl) (by decide) (by decide)) (@pa_c _ _ _ _ _ (@pe_int _ _ _ _) (@pa_nil _) rfl) rfl) (by decide) (by rfl) (by rfl)) (@pa_c _ _ _ _ _ (@pe_cmpR _ _ _ _ _ _ _ _ (@op_eq _) (@pe_call _ _ _ _ _ _ _ _ _ _ _ _ _ _ _ _ G_l_take (hr.mono (by decide)) k_l_net_by_l_take T.m_l_take T.F_l_take.kp T.B_l_take .nil (@pass0 _) (@pa_c _ _ _ _ _ (@pw _ 0 _ _ (Or.inr (Or.inl k_l_net_by_l_box_here)) (by rfl) (by decide) (by decide)) (@pa_c _ _ _ _ _ (@pe_int _ _ _ _) (@pa_nil _) rfl) rfl) (by decide) (by rfl) (by rfl)) (@pe_int _ _ _ _) (@nomark _ _ (by decide) (by decide))) (@pa_nil _) rfl) rfl) (by kernel_rfl) (by rfl)) (@pss_cons _ _ _ _ _ (@ps_set _ _ (5) _ _ _ _ sc_l_net_by.nd rfl (Or.inl k_l_net_by_l_places) (@pe_call _ _ _ _ _ _ _ _ _ _ _ _ _ _ _ _ G_l_names_by (hr.mono (by decide)) k_l_net_by_l_names_by T.m_l_names_by T.F_l_names_by.kp T.B_l_names_by .nil (@pass0 _) (@pa_c _ _ _ _ _ (@pw _ 0 _ _ (Or.inr (Or.inl k_l_net_by_l_box_here)) (by rfl) (by decide) (by decide)) (@pa_c _ _ _ _ _ (@pe_ifExp _ _ _ _ _ _ _ _ (@pt_val _ _ _ (@pw _ 4 _ _ (Or.inl k_l_net_by_l_great) (by rfl) (by decide) (by decide)) (by intro _; rfl)) (@pe_op _ _ _ _ _ _ _ _ (@op_add _) (@pe_int _ _ _ _) (@pe_call _ _ _ _ _ _ _ _ _ _ _ _ _ _ _ _ G_l_take (hr.mono (by decide)) k_l_net_by_l_take T.m_l_take T.F_l_take.kp T.B_l_take .nil (@pass0 _) (@pa_c _ _ _ _ _ (@pw _ 0 _ _ (Or.inr (Or.inl k_l_net_by_l_box_here)) (by rfl) (by decide) (by decide)) (@pa_c _ _ _ _ _ (@pe_int _ _ _ _) (@pa_nil _) rfl) rfl) (by decide) (by rfl) (by rfl))) (@pe_op _ _ _ _ _ _ _ _ (@op_add _) (@pe_int _ _ _ _) (@pe_call _ _ _ _ _ _ _ _ _ _ _ _ _ _ _ _ G_l_take (hr.mono (by decide)) k_l_net_by_l_take T.m_l_take T.F_l_take.kp T.B_l_take .nil (@pass0 _) (@pa_c _ _ _ _ _ (@pw _ 0 _ _ (Or.inr (Or.inl k_l_net_by_l_box_here)) (by rfl) (by decide) (by decide)) (@pa_c _ _ _ _ _ (@pe_op _ _ _ _ _ _ _ _ (@op_sub _) (@pw _ 1 _ _ (Or.inl k_l_net_by_l_most_places) (by rfl) (by decide) (by decide)) (@pe_int _ _ _ _)) (@pa_nil _) rfl) rfl) (by decide) (by rfl) (by rfl)))) (@pa_nil _) rfl) rfl) (by decide) (by rfl) (by rfl)) (by rfl) (by first | exact .inl rfl | exact .inr rfl | assumption)) (@pss_cons _ _ _ _ _ (@ps_set _ _ (6) _ _ _ _ sc_l_net_by.nd rfl (Or.inl k_l_net_by_l_many) (@pe_ifExp _ _ _ _ _ _ _ _ (@pt_val _ _ _ (@pw _ 4 _ _ (Or.inl k_l_net_by_l_great) (by rfl) (by decide) (by decide)) (by intro _; rfl)) (@pe_op _ _ _ _ _ _ _ _ (@op_add _) (@pe_int _ _ _ _) (@pe_call _ _ _ _ _ _ _ _ _ _ _ _ _ _ _ _ G_l_take (hr.mono (by decide)) k_l_net_by_l_take T.m_l_take T.F_l_take.kp T.B_l_take .nil (@pass0 _) (@pa_c _ _ _ _ _ (@pw _ 0 _ _ (Or.inr (Or.inl k_l_net_by_l_box_here)) (by rfl) (by decide) (by decide)) (@pa_c _ _ _ _ _ (@pe_int _ _ _ _) (@pa_nil _) rfl) rfl) (by decide) (by rfl) (by rfl))) (@pe_op _ _ _ _ _ _ _ _ (@op_add _) (@pe_int _ _ _ _) (@pe_call _ _ _ _ _ _ _ _ _ _ _ _ _ _ _ _ G_l_take (hr.mono (by decide)) k_l_net_by_l_take T.m_l_take T.F_l_take.kp T.B_l_take .nil (@pass0 _) (@pa_c _ _ _ _ _ (@pw _ 0 _ _ (Or.inr (Or.inl k_l_net_by_l_box_here)) (by rfl) (by decide) (by decide)) (@pa_c _ _ _ _ _ (@pw _ 2 _ _ (Or.inl k_l_net_by_l_most_ties) (by rfl) (by decide) (by decide)) (@pa_nil _) rfl) rfl) (by decide) (by rfl) (by rfl)))) (by rfl) (by first | exact .inl rfl | exact .inr rfl | assumption)) (@pss_cons _ _ _ _ _ (@ps_set _ _ (7) _ _ _ _ sc_l_net_by.nd rfl (Or.inr k_l_net_by_l_some) (@pe_lstA _ _ _ _ (@pa_c _ _ _ _ _ (@pe_tupA _ _ _ _ _ (@pa_c _ _ _ _ _ (@pe_int _ _ _ _) (@pa_c _ _ _ _ _ (@pe_int _ _ _ _) (@pa_nil _) rfl) rfl)) (@pa_c _ _ _ _ _ (@pe_tupA _ _ _ _ _ (@pa_c _ _ _ _ _ (@pe_int _ _ _ _) (@pa_c _ _ _ _ _ (@pe_int _ _ _ _) (@pa_nil _) rfl) rfl)) (@pa_c _ _ _ _ _ (@pe_tupA _ _ _ _ _ (@pa_c _ _ _ _ _ (@pe_int _ _ _ _) (@pa_c _ _ _ _ _ (@pe_int _ _ _ _) (@pa_nil _) rfl) rfl)) (@pa_c _ _ _ _ _ (@pe_tupA _ _ _ _ _ (@pa_c _ _ _ _ _ (@pe_int _ _ _ _) (@pa_c _ _ _ _ _ (@pe_int _ _ _ _) (@pa_nil _) rfl) rfl)) (@pa_c _ _ _ _ _ (@pe_tupA _ _ _ _ _ (@pa_c _ _ _ _ _ (@pe_int _ _ _ _) (@pa_c _ _ _ _ _ (@pe_int _ _ _ _) (@pa_nil _) rfl) rfl)) (@pa_c _ _ _ _ _ (@pe_tupA _ _ _ _ _ (@pa_c _ _ _ _ _ (@pe_int _ _ _ _) (@pa_c _ _ _ _ _ (@pe_int _ _ _ _) (@pa_nil _) rfl) rfl)) (@pa_c _ _ _ _ _ (@pe_tupA _ _ _ _ _ (@pa_c _ _ _ _ _ (@pe_int _ _ _ _) (@pa_c _ _ _ _ _ (@pe_int _ _ _ _) (@pa_nil _) rfl) rfl)) (@pa_nil _) rfl) rfl) rfl) rfl) rfl) rfl) rfl)) (by rfl) (by first | exact .inl rfl | exact .inr rfl | assumption)) (@pss_cons _ _ _ _ _ (@ps_set _ _ (8) _ _ _ _ sc_l_net_by.nd rfl (Or.inl k_l_net_by_l_worths) (@pe_callTy _ _ _ _ _ _ _ _ _ (@call_dictL _ rfl) k_l_net_by_dict T.b_dict (@boot_ty_dict) (@pa_c _ _ _ _ _ (@pe_comp _ _ _ _ _ _ _ (["_law_place", "_law_box_here", "_law_some"]) (1) ([0, 7]) _ _ _ _ rfl (by kernel_rfl) (@pi_tup_k _ (K) _ _ _ (@pw _ 5 _ _ (Or.inl k_l_net_by_l_places) (by rfl) (by decide) (by decide)) (by rfl)) (fun _ _ _ _ _ _ => (@pg_name _ _ (0) _ (@nodupS _ (by kernel_rfl)) rfl (Or.inl (by kernel_rfl)) (by first | exact .inl rfl | exact .inr rfl | assumption))) (fun _ _ _ _ _ _ => @pifs_nil _) (fun _ _ _ _ _ _ => (@pe_tupA _ _ _ _ _ (@pa_c _ _ _ _ _ (@pw _ 0 _ _ (Or.inl (by kernel_rfl)) (by rfl) (by decide) (by decide)) (@pa_c _ _ _ _ _ (@pe_ix _ _ _ _ _ _ _ (@ixL_k _ (K) (by rfl)) (@pw _ 2 _ _ (Or.inr (Or.inl (by kernel_rfl))) (by rfl) (by decide) (by decide)) (@pe_call _ _ _ _ _ _ _ _ _ _ _ _ _ _ _ _ G_l_take (hr.mono (by decide)) (by show _ = _; kernel_rfl) T.m_l_take T.F_l_take.kp T.B_l_take .nil (@pass0 _) (@pa_c _ _ _ _ _ (@pw _ 1 _ _ (Or.inr (Or.inl (by kernel_rfl))) (by rfl) (by decide) (by decide)) (@pa_c _ _ _ _ _ (@pe_int _ _ _ _) (@pa_nil _) rfl) rfl) (by decide) (by rfl) (by rfl)) (fun _ _ => rfl)) (@pa_nil _) rfl) rfl))) (by intro _; rfl)) (@pa_nil _) rfl) (by decide) (by decide) (by rfl) (by rfl)) (by rfl) (by first | exact .inl rfl | exact .inr rfl | assumption)) (@pss_cons _ _ _ _ _ (@ps_set _ _ (9) _ _ _ _ sc_l_net_by.nd rfl (Or.inl k_l_net_by_l_ends) (@pe_ifExp _ _ _ _ _ _ _ _ (@pt_cmpR _ _ _ _ _ _ _ _ (@op_eq _) (@pw _ 3 _ _ (Or.inl k_l_net_by_l_way) (by rfl) (by decide) (by decide)) (@pe_int _ _ _ _) (@nomark _ _ (by decide) (by decide))) (@pe_call _ _ _ _ _ _ _ _ _ _ _ _ _ _ _ _ G_l_planted (hr.mono (by decide)) k_l_net_by_l_planted T.m_l_planted T.F_l_planted.kp T.B_l_planted .nil (@pass0 _) (@pa_c _ _ _ _ _ (@pw _ 0 _ _ (Or.inr (Or.inl k_l_net_by_l_box_here)) (by rfl) (by decide) (by decide)) (@pa_c _ _ _ _ _ (@pw _ 5 _ _ (Or.inl k_l_net_by_l_places) (by rfl) (by decide) (by decide)) (@pa_nil _) rfl) rfl) (by decide) (by rfl) (by rfl)) (@pe_lstA _ _ _ _ (@pa_nil _))) (by rfl) (by first | exact .inl rfl | exact .inr rfl | assumption)) (@pss_cons _ _ _ _ _ (@ps_for _ _ _ _ _ _ _ _ PassesOwn.never rfl (@pi_range1 _ _ _ _ _ _ k_l_net_by_range T.b_range (@pa_c _ _ _ _ _ (@pw _ 6 _ _ (Or.inl k_l_net_by_l_many) (by rfl) (by decide) (by decide)) (@pa_nil _) rfl) (by rfl)) (@pg_name _ _ (10) _ sc_l_net_by.nd rfl (Or.inl k_l_net_by_l_turn) (by first | exact .inl rfl | exact .inr rfl | assumption)) (@pss_cons _ _ _ _ _ (@ps_set _ _ (11) _ _ _ _ sc_l_net_by.nd rfl (Or.inl k_l_net_by_l_at) (@pe_call _ _ _ _ _ _ _ _ _ _ _ _ _ _ _ _ G_l_take (hr.mono (by decide)) k_l_net_by_l_take T.m_l_take T.F_l_take.kp T.B_l_take .nil (@pass0 _) (@pa_c _ _ _ _ _ (@pw _ 0 _ _ (Or.inr (Or.inl k_l_net_by_l_box_here)) (by rfl) (by decide) (by decide)) (@pa_c _ _ _ _ _ (@pe_callB _ _ _ _ _ _ _ _ _ (@len_k _ (K) (by rfl)) k_l_net_by_len T.b_len (@boot_b_len) (@pa_c _ _ _ _ _ (@pw _ 5 _ _ (Or.inl k_l_net_by_l_places) (by rfl) (by decide) (by decide)) (@pa_nil _) rfl) (by decide) (by decide) (by rfl) (by rfl)) (@pa_nil _) rfl) rfl) (by decide) (by rfl) (by rfl)) (by rfl) (by first | exact .inl rfl | exact .inr rfl | assumption)) (@pss_cons _ _ _ _ _ (@ps_par _ _ (12) (13) _ _ _ _ _ _ _ _ _ _ _ rfl sc_l_net_by.nd rfl rfl (by decide) k_l_net_by_l_begin k_l_net_by_l_end (@pa_c _ _ _ _ _ (@pe_ix _ _ _ _ _ _ _ (@ixT_k _ (K) (by rfl)) (@pw _ 5 _ _ (Or.inl k_l_net_by_l_places) (by rfl) (by decide) (by decide)) (@pw _ 11 _ _ (Or.inl k_l_net_by_l_at) (by rfl) (by decide) (by decide)) (fun _ _ => rfl)) (@pa_c _ _ _ _ _ (@pe_ix _ _ _ _ _ _ _ (@ixT_k _ (K) (by rfl)) (@pw _ 5 _ _ (Or.inl k_l_net_by_l_places) (by rfl) (by decide) (by decide)) (@pe_op _ _ _ _ _ _ _ _ (@op_mod _) (@pe_op _ _ _ _ _ _ _ _ (@op_add _) (@pe_op _ _ _ _ _ _ _ _ (@op_add _) (@pw _ 11 _ _ (Or.inl k_l_net_by_l_at) (by rfl) (by decide) (by decide)) (@pe_int _ _ _ _)) (@pe_call _ _ _ _ _ _ _ _ _ _ _ _ _ _ _ _ G_l_take (hr.mono (by decide)) k_l_net_by_l_take T.m_l_take T.F_l_take.kp T.B_l_take .nil (@pass0 _) (@pa_c _ _ _ _ _ (@pw _ 0 _ _ (Or.inr (Or.inl k_l_net_by_l_box_here)) (by rfl) (by decide) (by decide)) (@pa_c _ _ _ _ _ (@pe_op _ _ _ _ _ _ _ _ (@op_sub _) (@pe_callB _ _ _ _ _ _ _ _ _ (@len_k _ (K) (by rfl)) k_l_net_by_len T.b_len (@boot_b_len) (@pa_c _ _ _ _ _ (@pw _ 5 _ _ (Or.inl k_l_net_by_l_places) (by rfl) (by decide) (by decide)) (@pa_nil _) rfl) (by decide) (by decide) (by rfl) (by rfl)) (@pe_int _ _ _ _)) (@pa_nil _) rfl) rfl) (by decide) (by rfl) (by rfl))) (@pe_callB _ _ _ _ _ _ _ _ _ (@len_k _ (K) (by rfl)) k_l_net_by_len T.b_len (@boot_b_len) (@pa_c _ _ _ _ _ (@pw _ 5 _ _ (Or.inl k_l_net_by_l_places) (by rfl) (by decide) (by decide)) (@pa_nil _) rfl) (by decide) (by decide) (by rfl) (by rfl))) (fun _ _ => rfl)) (@pa_nil _) rfl) rfl) (by kernel_rfl) (by rfl)) (@pss_cons _ _ _ _ _ (@ps_set _ _ (14) _ _ _ _ sc_l_net_by.nd rfl (Or.inl k_l_net_by_l_gain) (@pe_call _ _ _ _ _ _ _ _ _ _ _ _ _ _ _ _ G_l_any_gain (hr.mono (by decide)) k_l_net_by_l_any_gain T.m_l_any_gain T.F_l_any_gain.kp T.B_l_any_gain .nil (@pass0 _) (@pa_c _ _ _ _ _ (@pw _ 0 _ _ (Or.inr (Or.inl k_l_net_by_l_box_here)) (by rfl) (by decide) (by decide)) (@pa_nil _) rfl) (by decide) (by rfl) (by rfl)) (by rfl) (by first | exact .inl rfl | exact .inr rfl | assumption)) (@pss_cons _ _ _ _ _ (@ps_if _ _ _ _ _ _ _ _ (@pt_cmpR _ _ _ _ _ _ _ _ (@op_lt _) (@pw _ 3 _ _ (Or.inl k_l_net_by_l_way) (by rfl) (by decide) (by decide)) (@pe_int _ _ _ _) (@nomark _ _ (by decide) (by decide))) (@pss_cons _ _ _ _ _ (@ps_set _ _ (15) _ _ _ _ sc_l_net_by.nd rfl (Or.inl k_l_net_by_l_less) (@pe_ix _ _ _ _ _ _ _ (@ixL_k _ (K) (by rfl)) (@pe_lstA _ _ _ _ (@pa_c _ _ _ _ _ (@pe_tupA _ _ _ _ _ (@pa_c _ _ _ _ _ (@pe_int _ _ _ _) (@pa_c _ _ _ _ _ (@pe_int _ _ _ _) (@pa_nil _) rfl) rfl)) (@pa_c _ _ _ _ _ (@pe_tupA _ _ _ _ _ (@pa_c _ _ _ _ _ (@pe_int _ _ _ _) (@pa_c _ _ _ _ _ (@pe_int _ _ _ _) (@pa_nil _) rfl) rfl)) (@pa_c _ _ _ _ _ (@pe_tupA _ _ _ _ _ (@pa_c _ _ _ _ _ (@pe_int _ _ _ _) (@pa_c _ _ _ _ _ (@pe_int _ _ _ _) (@pa_nil _) rfl) rfl)) (@pa_c _ _ _ _ _ (@pe_tupA _ _ _ _ _ (@pa_c _ _ _ _ _ (@pe_int _ _ _ _) (@pa_c _ _ _ _ _ (@pe_int _ _ _ _) (@pa_nil _) rfl) rfl)) (@pa_nil _) rfl) rfl) rfl) rfl)) (@pe_call _ _ _ _ _ _ _ _ _ _ _ _ _ _ _ _ G_l_take (hr.mono (by decide)) k_l_net_by_l_take T.m_l_take T.F_l_take.kp T.B_l_take .nil (@pass0 _) (@pa_c _ _ _ _ _ (@pw _ 0 _ _ (Or.inr (Or.inl k_l_net_by_l_box_here)) (by rfl) (by decide) (by decide)) (@pa_c _ _ _ _ _ (@pe_int _ _ _ _) (@pa_nil _) rfl) rfl) (by decide) (by rfl) (by rfl)) (fun _ _ => rfl)) (by rfl) (by first | exact .inl rfl | exact .inr rfl | assumption)) (@pss_one _ _ _ (@ps_set _ _ (14) _ _ _ _ sc_l_net_by.nd rfl (Or.inl k_l_net_by_l_gain) (@pe_call _ _ _ _ _ _ _ _ _ _ _ _ _ _ _ _ G_l_product (hr.mono (by decide)) k_l_net_by_l_product T.m_l_product T.F_l_product.kp T.B_l_product .nil (@pass0 _) (@pa_c _ _ _ _ _ (@pe_call _ _ _ _ _ _ _ _ _ _ _ _ _ _ _ _ G_l_over (hr.mono (by decide)) k_l_net_by_l_over T.m_l_over T.F_l_over.kp T.B_l_over .nil (@pass0 _) (@pa_c _ _ _ _ _ (@pe_ix _ _ _ _ _ _ _ (@ix_dict _) (@pw _ 8 _ _ (Or.inl k_l_net_by_l_worths) (by rfl) (by decide) (by decide)) (@pw _ 12 _ _ (Or.inl k_l_net_by_l_begin) (by rfl) (by decide) (by decide)) (fun _ _ => rfl)) (@pa_c _ _ _ _ _ (@pe_ix _ _ _ _ _ _ _ (@ix_dict _) (@pw _ 8 _ _ (Or.inl k_l_net_by_l_worths) (by rfl) (by decide) (by decide)) (@pw _ 13 _ _ (Or.inl k_l_net_by_l_end) (by rfl) (by decide) (by decide)) (fun _ _ => rfl)) (@pa_nil _) rfl) rfl) (by decide) (by rfl) (by rfl)) (@pa_c _ _ _ _ _ (@pw _ 15 _ _ (Or.inl k_l_net_by_l_less) (by rfl) (by decide) (by decide)) (@pa_nil _) rfl) rfl) (by decide) (by rfl) (by rfl)) (by rfl) (by first | exact .inl rfl | exact .inr rfl | assumption)))) (@pss_nil _)) (@pss_one _ _ _ (@ps_expr _ _ _ _ (@pe_bm_k _ (K) _ _ _ _ _ _ _ _ _ _ _ PySem.F.plainAttrs_list PySem.F.slot_list_insert PySem.F.type_list_insert (@mt_insertA _) (@pw _ 9 _ _ (Or.inl k_l_net_by_l_ends) (by rfl) (by decide) (by decide)) (@pa_c _ _ _ _ _ (@pe_call _ _ _ _ _ _ _ _ _ _ _ _ _ _ _ _ G_l_take (hr.mono (by decide)) k_l_net_by_l_take T.m_l_take T.F_l_take.kp T.B_l_take .nil (@pass0 _) (@pa_c _ _ _ _ _ (@pw _ 0 _ _ (Or.inr (Or.inl k_l_net_by_l_box_here)) (by rfl) (by decide) (by decide)) (@pa_c _ _ _ _ _ (@pe_op _ _ _ _ _ _ _ _ (@op_add _) (@pe_callB _ _ _ _ _ _ _ _ _ (@len_k _ (K) (by rfl)) k_l_net_by_len T.b_len (@boot_b_len) (@pa_c _ _ _ _ _ (@pw _ 9 _ _ (Or.inl k_l_net_by_l_ends) (by rfl) (by decide) (by decide)) (@pa_nil _) rfl) (by decide) (by decide) (by rfl) (by rfl)) (@pe_int _ _ _ _)) (@pa_nil _) rfl) rfl) (by decide) (by rfl) (by rfl)) (@pa_c _ _ _ _ _ (@pe_tupA _ _ _ _ _ (@pa_c _ _ _ _ _ (@pw _ 12 _ _ (Or.inl k_l_net_by_l_begin) (by rfl) (by decide) (by decide)) (@pa_c _ _ _ _ _ (@pw _ 13 _ _ (Or.inl k_l_net_by_l_end) (by rfl) (by decide) (by decide)) (@pa_c _ _ _ _ _ (@pw _ 14 _ _ (Or.inl k_l_net_by_l_gain) (by rfl) (by decide) (by decide)) (@pa_nil _) rfl) rfl) rfl)) (@pa_nil _) rfl) rfl) (by rfl) (by rfl) (by rfl) (by rfl) (by rfl) (by rfl)) (by rfl))))))) (by intro _; rfl)) (@pss_cons _ _ _ _ _ (@ps_set _ _ (16) _ _ _ _ sc_l_net_by.nd rfl (Or.inl k_l_net_by_l_ties) (@pe_lstA _ _ _ _ (@pa_nil _)) (by rfl) (by first | exact .inl rfl | exact .inr rfl | assumption)) (@pss_cons _ _ _ _ _ (@ps_for _ _ _ _ _ _ _ _ PassesOwn.never rfl (@pi_list_k _ (K) _ _ _ (@pe_slice _ _ _ _ _ _ _ _ _ _ (@sl_listA _ (K) (by rfl)) (@pw _ 9 _ _ (Or.inl k_l_net_by_l_ends) (by rfl) (by decide) (by decide)) (@po_none _) (@po_some _ _ _ (@pe_int _ _ _ _))) (by rfl)) (@pg_tup_k _ (K) _ _ _ _ (3) rfl (@pgs_cons _ _ _ _ _ (@pg_name _ _ (12) _ sc_l_net_by.nd rfl (Or.inl k_l_net_by_l_begin) (by first | exact .inl rfl | exact .inr rfl | assumption)) (@pgs_cons _ _ _ _ _ (@pg_name _ _ (13) _ sc_l_net_by.nd rfl (Or.inl k_l_net_by_l_end) (by first | exact .inl rfl | exact .inr rfl | assumption)) (@pgs_cons _ _ _ _ _ (@pg_name _ _ (14) _ sc_l_net_by.nd rfl (Or.inl k_l_net_by_l_gain) (by first | exact .inl rfl | exact .inr rfl | assumption)) (@pgs_nil _) (by rfl)) (by rfl)) (by rfl)) (by rfl) (by rfl) (by rfl)) (@pss_cons _ _ _ _ _ (@ps_set _ _ (17) _ _ _ _ sc_l_net_by.nd rfl (Or.inl k_l_net_by_l_top) (@pe_call _ _ _ _ _ _ _ _ _ _ _ _ _ _ _ _ G_l_any_much (hr.mono (by decide)) k_l_net_by_l_any_much T.m_l_any_much T.F_l_any_much.kp T.B_l_any_much .nil (@pass0 _) (@pa_c _ _ _ _ _ (@pw _ 0 _ _ (Or.inr (Or.inl k_l_net_by_l_box_here)) (by rfl) (by decide) (by decide)) (@pa_nil _) rfl) (by decide) (by rfl) (by rfl)) (by rfl) (by first | exact .inl rfl | exact .inr rfl | assumption)) (@pss_one _ _ _ (@ps_expr _ _ _ _ (@pe_bm_k _ (K) _ _ _ _ _ _ _ _ _ _ _ PySem.F.plainAttrs_list PySem.F.slot_list_append PySem.F.type_list_append (@mt_appendA _) (@pw _ 16 _ _ (Or.inl k_l_net_by_l_ties) (by rfl) (by decide) (by decide)) (@pa_c _ _ _ _ _ (@pe_tupA _ _ _ _ _ (@pa_c _ _ _ _ _ (@pw _ 12 _ _ (Or.inl k_l_net_by_l_begin) (by rfl) (by decide) (by decide)) (@pa_c _ _ _ _ _ (@pw _ 13 _ _ (Or.inl k_l_net_by_l_end) (by rfl) (by decide) (by decide)) (@pa_c _ _ _ _ _ (@pw _ 17 _ _ (Or.inl k_l_net_by_l_top) (by rfl) (by decide) (by decide)) (@pa_c _ _ _ _ _ (@pw _ 14 _ _ (Or.inl k_l_net_by_l_gain) (by rfl) (by decide) (by decide)) (@pa_c _ _ _ _ _ (@pe_call _ _ _ _ _ _ _ _ _ _ _ _ _ _ _ _ G_l_any_price (hr.mono (by decide)) k_l_net_by_l_any_price T.m_l_any_price T.F_l_any_price.kp T.B_l_any_price .nil (@pass0 _) (@pa_c _ _ _ _ _ (@pw _ 0 _ _ (Or.inr (Or.inl k_l_net_by_l_box_here)) (by rfl) (by decide) (by decide)) (@pa_nil _) rfl) (by decide) (by rfl) (by rfl)) (@pa_nil _) rfl) rfl) rfl) rfl) rfl)) (@pa_nil _) rfl) (by rfl) (by rfl) (by rfl) (by rfl) (by rfl) (by rfl)) (by rfl)))) (by intro _; rfl)) (@pss_cons _ _ _ _ _ (@ps_if _ _ _ _ _ _ _ _ (@PW.pt _ _ _ (@pw_and _ _ _ _ _ _ _ (@pt_cmpR _ _ _ _ _ _ _ _ (@op_lt _) (@pe_callB _ _ _ _ _ _ _ _ _ (@len_k _ (K) (by rfl)) k_l_net_by_len T.b_len (@boot_b_len) (@pa_c _ _ _ _ _ (@pw _ 16 _ _ (Or.inl k_l_net_by_l_ties) (by rfl) (by decide) (by decide)) (@pa_nil _) rfl) (by decide) (by decide) (by rfl) (by rfl)) (@pe_int _ _ _ _) (@nomark _ _ (by decide) (by decide))) (@pw_and1 _ _ _ _ (@pt_cmpR _ _ _ _ _ _ _ _ (@op_eq _) (@pe_call _ _ _ _ _ _ _ _ _ _ _ _ _ _ _ _ G_l_take (hr.mono (by decide)) k_l_net_by_l_take T.m_l_take T.F_l_take.kp T.B_l_take .nil (@pass0 _) (@pa_c _ _ _ _ _ (@pw _ 0 _ _ (Or.inr (Or.inl k_l_net_by_l_box_here)) (by rfl) (by decide) (by decide)) (@pa_c _ _ _ _ _ (@pe_int _ _ _ _) (@pa_nil _) rfl) rfl) (by decide) (by rfl) (by rfl)) (@pe_int _ _ _ _) (@nomark _ _ (by decide) (by decide)))))) (@pss_one _ _ _ (@ps_expr _ _ _ _ (@pe_bm_k _ (K) _ _ _ _ _ _ _ _ _ _ _ PySem.F.plainAttrs_list PySem.F.slot_list_append PySem.F.type_list_append (@mt_appendA _) (@pw _ 16 _ _ (Or.inl k_l_net_by_l_ties) (by rfl) (by decide) (by decide)) (@pa_c _ _ _ _ _ (@pe_ix _ _ _ _ _ _ _ (@ixL_k _ (K) (by rfl)) (@pw _ 16 _ _ (Or.inl k_l_net_by_l_ties) (by rfl) (by decide) (by decide)) (@pe_int _ _ _ _) (fun _ _ => rfl)) (@pa_nil _) rfl) (by rfl) (by rfl) (by rfl) (by rfl) (by rfl) (by rfl)) (by rfl))) (@pss_nil _)) (@pss_one _ _ _ (@ps_ret _ _ _ _ (@pe_tupA _ _ _ _ _ (@pa_c _ _ _ _ _ (@pw _ 5 _ _ (Or.inl k_l_net_by_l_places) (by rfl) (by decide) (by decide)) (@pa_c _ _ _ _ _ (@pe_callTy _ _ _ _ _ _ _ _ _ (@call_tuple_ofA _ (K) (by rfl)) k_l_net_by_tuple T.b_tuple (@boot_ty_tuple) (@pa_c _ _ _ _ _ (@pw _ 16 _ _ (Or.inl k_l_net_by_l_ties) (by rfl) (by decide) (by decide)) (@pa_nil _) rfl) (by decide) (by decide) (by rfl) (by rfl)) (@pa_nil _) rfl) rfl)))))))))))))), ?_⟩
    refine seqP fun Q1 nP => ⟨_, rfl, b, 4, t, rfl, B, by decide, by decide, by trivial, by trivial, fun wy t1 H1 w0 w1 h1a h1b s1 B1 => ⟨_, rfl, b, 8, t1, rfl, B1, by decide, by decide, by trivial, by trivial, fun gr t2 H2 gr0 gr1 h2a h2b s2 B2 => ⟨rfl, nP _ _ _ ?_⟩⟩⟩
    generalize decide (V.int gr = V.int 0) = great
    refine seqA fun Q2 nA2 => ⟨_, rfl, _, rfl, _, rfl, ?_⟩
    refine ifE (fun v H' => Ex2 fun many t' => v = .int many ∧ 2 ≤ many ∧ many ≤ 10 ∧ Bx H' b t' ∧ t2 ≤ t' ∧ t' ≤ t2 + 1 ∧ SameE (Eb b) H2 H') ?_ (fun _ nx => ?_) (fun _ nx => ?_)
    rotate_left
    · exact ⟨_, rfl, b, 4, t2, rfl, B2, by decide, by decide, by trivial, by trivial, fun r t3 H3 r0 r1 h3a h3b s3 B3 => ⟨_, _, rfl, rfl, nx _ _ ⟨7 + r, t3, rfl, by trivial, by trivial, B3, by trivial, by trivial, s3⟩⟩⟩
    · exact ⟨_, rfl, _, rfl, _, _, rfl, rfl, b, _, t2, rfl, B2, by trivial, log9 (by trivial) (by trivial), by trivial, by trivial, fun r t3 H3 r0 r1 h3a h3b s3 B3 => ⟨_, _, rfl, rfl, nx _ _ ⟨2 + r, t3, rfl, by trivial, by trivial, B3, by trivial, by trivial, s3⟩⟩⟩
    rintro v H3 ⟨many, t3, rfl, hm1, hm2, B3, h3a, h3b, s3⟩
    refine ⟨b, many, t3, rfl, B3, by trivial, by trivial, by trivial, by trivial, fun pl ls t4 H4 s4 hpl lls nd nc B4 h4a h4b => nA2 _ _ ?_⟩
    have s04 : SameE (Eb b) H H4 := ((s1.trans s2).trans s3).trans s4
    have l2 : 2 ≤ ls.length := by trivial
    have l10 : ls.length ≤ 10 := by trivial
    clear hm1 hm2 lls
    refine seqA fun Q3 nA3 => ⟨_, rfl, _, rfl, ?_⟩
    refine ifE (fun v H' => Ex2 fun many t' => v = .int many ∧ 1 ≤ many ∧ many ≤ 24 ∧ Bx H' b t' ∧ t4 ≤ t' ∧ t' ≤ t4 + 1 ∧ SameE (Eb b) H4 H') ?_ (fun _ nx => ?_) (fun _ nx => ?_)
    rotate_left
    · exact ⟨_, rfl, b, 15, t4, rfl, B4, by decide, by decide, by trivial, by trivial, fun r t3 H3 r0 r1 h3a h3b s3 B3 => ⟨_, _, rfl, rfl, nx _ _ ⟨10 + r, t3, rfl, by trivial, by trivial, B3, by trivial, by trivial, s3⟩⟩⟩
    · exact ⟨_, rfl, _, rfl, b, mt, t4, rfl, B4, by trivial, log9 (by trivial) (by trivial), by trivial, by trivial, fun r t3 H3 r0 r1 h3a h3b s3 B3 => ⟨_, _, rfl, rfl, nx _ _ ⟨1 + r, t3, rfl, by trivial, by trivial, B3, by trivial, by trivial, s3⟩⟩⟩
    rintro v H5 ⟨mn, t5, rfl, mn1, mn2, B5, h5a, h5b, s5⟩
    refine nA3 _ _ ?_
    have hpl5 := s5.tup _ _ hpl
    have s05 := s04.trans s5
    refine seqA fun Q4 nA4 => ⟨(by show 2 ≤ 10000; decide), fun u1 K1 m1 => ⟨(by show 2 ≤ 10000; decide), fun u2 K2 m2 => ⟨(by show 2 ≤ 10000; decide), fun u3 K3 m3 => ⟨(by show 2 ≤ 10000; decide), fun u4 K4 m4 => ⟨(by show 2 ≤ 10000; decide), fun u5 K5 m5 => ⟨(by show 2 ≤ 10000; decide), fun u6 K6 m6 => ⟨(by show 2 ≤ 10000; decide), fun u7 K7 m7 => ⟨(by show 7 ≤ 10000; decide), fun sl K8 m8 => nA4 _ _ ?_⟩⟩⟩⟩⟩⟩⟩⟩
    have sK7 : Same H5 K7 := (((((m1.sm.trans m2.sm).trans m3.sm).trans m4.sm).trans m5.sm).trans m6.sm).trans m7.sm
    have sK := sK7.trans m8.sm
    have nsl : ¬ sl = b := fun z => (B5.same sK7).ne m8.fr z.symm
    have hplK := sK _ _ hpl5
    have BK := B5.same sK
    have some_at : ∀ (r : Int) (J : Hp), 0 ≤ r → r < 7 → SameE (Eb b) K8 J → Ex2 fun o z => atI [V.ref u1, V.ref u2, V.ref u3, V.ref u4, V.ref u5, V.ref u6, V.ref u7] r = some (.ref o) ∧ J o = some (fr z) ∧ WC z := fun r J r0 r1 sJ => by
      have up : ∀ {u : Addr} {us : List V}, K8 u = some (.tup us) → J u = some (.tup us) := fun h => sJ.tup _ _ h
      obtain rfl | rfl | rfl | rfl | rfl | rfl | rfl : r = 0 ∨ r = 1 ∨ r = 2 ∨ r = 3 ∨ r = 4 ∨ r = 5 ∨ r = 6 := by trivial
      · exact ⟨u1, (1, 1), rfl, up (m8.sm _ _ (m7.sm _ _ (m6.sm _ _ (m5.sm _ _ (m4.sm _ _ (m3.sm _ _ (m2.sm _ _ m1.at'))))))), by decide⟩
      · exact ⟨u2, (2, 1), rfl, up (m8.sm _ _ (m7.sm _ _ (m6.sm _ _ (m5.sm _ _ (m4.sm _ _ (m3.sm _ _ m2.at')))))), by decide⟩
      · exact ⟨u3, (3, 1), rfl, up (m8.sm _ _ (m7.sm _ _ (m6.sm _ _ (m5.sm _ _ (m4.sm _ _ m3.at'))))), by decide⟩
      · exact ⟨u4, (1, 2), rfl, up (m8.sm _ _ (m7.sm _ _ (m6.sm _ _ (m5.sm _ _ m4.at')))), by decide⟩
      · exact ⟨u5, (1, 3), rfl, up (m8.sm _ _ (m7.sm _ _ (m6.sm _ _ m5.at'))), by decide⟩
      · exact ⟨u6, (3, 2), rfl, up (m8.sm _ _ (m7.sm _ _ m6.at')), by decide⟩
      · exact ⟨u7, (2, 3), rfl, up (m8.sm _ _ m7.at'), by decide⟩
    refine seqA fun Q5 nA5 => ⟨_, rfl, pl, rfl, ⟨_, SqT.of hplK⟩, fun D hD => comp_each (n := (ls.map strV).length) (fun i H' xs => Ex3 fun (as ws : List Addr) (t' : Int) => xs = as.map V.ref ∧ H' D = some (.lst xs) ∧ as.length = i ∧ ws.length = i ∧ (∀ (j : Nat) a, as[j]? = some a → Ex3 fun l w z => ls[j]? = some l ∧ ws[j]? = some w ∧ H' a = some (.tup [strV l, .ref w]) ∧ H' w = some (fr z) ∧ WC z) ∧ Bx H' b t' ∧ t5 ≤ t' ∧ t' ≤ t5 + i ∧ SameE (Eb b) K8 H') (sz_of (by rw [List.length_map]; trivial)) ⟨[], [], t5, rfl, upd_same, rfl, rfl, (fun j a h => by simp at h), BK.same (Same.new hD), by trivial, by trivial, (Same.new hD).toE⟩ ?_ ?_ ?_ ?_ ?_⟩
    · rintro i H' xs ⟨as, ws, t', rfl, e1, e2, _⟩
      exact ⟨e1, by rw [List.length_map]; trivial⟩
    · rintro i H' xs hi ⟨as, ws, t', _, _, _, _, _, _, _, _, sE⟩
      exact ⟨_, _, SqT.of (sE.tup _ _ hplK), List.getElem?_eq_getElem hi⟩
    · rintro H' xs ⟨as, ws, t', _, _, _, _, _, _, _, _, sE⟩
      exact ⟨_, SqT.of (sE.tup _ _ hplK), Nat.le_refl _⟩
    · have nDb : ¬ D = b := fun z => BK.ne hD z.symm
      rintro i Ha xs x Hb hi ⟨as, ws, t', rfl, eD, la, lw, hw, BD, h1, h2, sE⟩ ⟨rfl, ex⟩
      have exi := ex _ (SqT.of (sE.tup _ _ hplK))
      rw [List.length_map] at hi
      rw [List.getElem?_map, List.getElem?_eq_getElem hi] at exi
      obtain rfl : strV ls[i] = x := Option.some.inj exi
      refine ⟨back1, _, rfl, _, rfl, _, rfl, b, 7, t', rfl, BD, by decide, by decide, by trivial, by trivial, fun r6 t6 J6 r60 r61 h6a h6b s6 B6 => ?_⟩
      obtain ⟨o, z, eo, ho, wz⟩ := some_at r6 J6 r60 (by trivial) (sE.trans s6)
      refine ⟨sl, _, _, _, rfl, rfl, SqL.of (s6.old sl _ nsl (sE.old sl _ nsl m8.at')), eo, (by show 2 ≤ 10000; decide), fun q J7 n7 => ?_⟩
      have js : SameE (Eb b) Hb J7 := s6.trans n7.sm.toE
      have eD7 := js.old D _ nDb eD
      have c' : Ch J7 D (as.map V.ref ++ [.ref q]) (upd J7 D (.lst (as.map V.ref ++ [.ref q]))) := Ch.mk'
      refine ⟨eD7, as ++ [q], ws ++ [o], t6, by rw [List.map_append]; rfl, upd_same, by rw [List.length_append, la]; rfl, by rw [List.length_append, lw]; rfl, fun j a' ha' => ?_, (B6.same n7.sm).ch c' (fun z => nDb z.symm), by trivial, by trivial, (sE.trans js).up hD⟩
      by_cases hj : j < i
      · rw [List.getElem?_append_left (by trivial)] at ha'
        obtain ⟨l, w, z, e1, e2, e3, e4, e5⟩ := hw j a' ha'
        exact ⟨l, w, z, e1, by rw [List.getElem?_append_left (by trivial)]; exact e2, c'.tup (js.tup _ _ e3) eD7, c'.tup (js.tup _ _ e4) eD7, e5⟩
      · have hj' : j = i := by
          have := (List.getElem?_eq_some_iff.mp ha').1
          rw [List.length_append] at this
          simp at this
          trivial
        subst hj'
        rw [List.getElem?_append_right (by trivial), la, Nat.sub_self] at ha'
        obtain rfl : q = a' := Option.some.inj ha'
        exact ⟨ls[j], o, z, List.getElem?_eq_getElem hi, by rw [List.getElem?_append_right (by trivial), lw, Nat.sub_self]; rfl, c'.tup n7.at' eD7, c'.tup (n7.sm _ _ ho) eD7, wz⟩
    rintro J xs ⟨as, ws, t6, rfl, eD, la, lw, hw, B6, h6a, h6b, s6⟩
    rw [List.length_map] at la lw h6b
    have wv : ∀ (j : Nat) (hj : j < ls.length), Ex3 fun a w z => as[j]? = some a ∧ ws[j]? = some w ∧ J a = some (.tup [strV ls[j], .ref w]) ∧ J w = some (fr z) ∧ WC z := fun j hj => by
      obtain ⟨a, ha⟩ : ∃ a, as[j]? = some a := ⟨_, List.getElem?_eq_getElem (by trivial)⟩
      obtain ⟨l, w, z, e1, e2, e3, e4, e5⟩ := hw j a ha
      rw [List.getElem?_eq_getElem hj] at e1
      cases e1
      exact ⟨a, w, z, ha, e2, e3, e4, e5⟩
    refine ⟨D, as, ls.map fun l => (Sum.inr (S l) : Key), ws.map V.ref, rfl, eD, by rw [List.length_map]; exact la, by rw [List.length_map, List.length_map]; exact lw, keys_nodup nd, by rw [List.length_map]; trivial, fun i a ha => ?_, fun W J1 nW => nA5 _ _ ?_⟩
    · obtain ⟨l, w, z, e1, e2, e3, _, _⟩ := hw i a ha
      exact ⟨Sum.inr (S l), .ref w, by rw [List.getElem?_map, e1]; rfl, by rw [List.getElem?_map, e2]; rfl, e3⟩
    have s81 : SameE (Eb b) K8 J1 := s6.trans nW.sm.toE
    have s01 : SameE (Eb b) H J1 := (s05.trans sK.toE).trans s81
    have BJ := B6.same nW.sm
    have nWb : ¬ W = b := fun z => B6.ne nW.fr z.symm
    have hplJ : J1 pl = some (.tup (ls.map strV)) := s81.tup _ _ hplK
    obtain ⟨kvs, ekv⟩ : ∃ kvs, kvs = ((ls.map fun l => (Sum.inr (S l) : Key)).zip (ws.map V.ref)) := ⟨_, rfl⟩
    have hW : J1 W = some (.dK kvs) := by rw [ekv]; exact nW.at'
    have wl : ∀ l ∈ ls, Ex2 fun w z => valD kvs (Sum.inr (S l)) = some (.ref w) ∧ J1 w = some (fr z) ∧ WC z := fun l hl => by
      obtain ⟨j, hj⟩ := List.getElem?_of_mem hl
      have hlt := (List.getElem?_eq_some_iff.mp hj).1
      obtain ⟨a, w, z, e1, e2, e3, e4, e5⟩ := wv j hlt
      refine ⟨w, z, ?_, nW.sm _ _ e4, e5⟩
      rw [ekv]
      exact valD_zip (i := j) (keys_nodup nd) (by rw [List.getElem?_map, hj]; rfl) (by rw [List.getElem?_map, e2]; rfl)
    have t6a : t ≤ t6 ∧ t6 ≤ t + 40 := by trivial
    clear hw wv la lw h6a h6b h5a h5b h4a h4b h1a h1b h2a h2b h3a h3b some_at sK7 sK m1 m2 m3 m4 m5 m6 m7 m8 ekv hplK hpl5 hpl BK B4 B3 B2 B1 B5 s04 s05 nW eD s6 s81 B6
    refine seqA fun Q6 nA6 => ⟨_, rfl, rfl, _, rfl, ?_⟩
    refine ifE (fun v H' => Ex4 fun (L : Addr) (ys : List V) (es : List ED3) (t' : Int) => v = .ref L ∧ H' L = some (.lst ys) ∧ IsAll ED H' ys (es.map trD) ∧ es.length ≤ 10 ∧ (∀ x ∈ es, TrC ls x) ∧ Bx H' b t' ∧ t6 ≤ t' ∧ t' ≤ t6 + 5 ∧ SameE (Eb b) J1 H' ∧ J1 L = none) ?_ (fun _ nx => ?_) (fun _ nx => ?_)
    rotate_left
    · exact ⟨_, rfl, _, rfl, b, pl, ls, t6, rfl, BJ, by trivial, by trivial, hplJ, l2, l10, nd, fun L ys es t7 J2 sE fL hL iL lL cL BL h7a h7b => nx _ _ ⟨L, ys, es, t7, rfl, hL, iL, lL, cL, BL, h7a, h7b, sE, fL⟩⟩
    · exact ⟨(by show 0 ≤ 10000; decide), fun L J2 n2 => nx _ _ ⟨L, [], [], t6, rfl, n2.at', .nil, by decide, (fun x hx => by cases hx), BJ.same n2.sm, by trivial, by trivial, n2.sm.toE, n2.fr⟩⟩
    rintro v J2 ⟨L, ys, es, t7, rfl, hL, iL, lL, cL, B7, h7a, h7b, s7, fL⟩
    refine nA6 _ _ ?_
    have nLb : ¬ L = b := fun z => BJ.ne fL z.symm
    have el : ((ls.map strV).length : Int) = (ls.length : Int) := by rw [List.length_map]
    refine seqH fun DB nB => ?_
    refine ⟨_, rfl, mn, rfl, by trivial, by trivial, ?_⟩
    refine for_range (fun i σ H' => Ex9 fun (v10 v11 v12 v13 v14 v15 : Option V) (ys : List V) (es : List ED3) (t' : Int) => σ = [some (.ref b), some (.int mp), some (.int mt), some (.int wy), some (.bl great), some (.ref pl), some (.int mn), some (.ref sl), some (.ref W), some (.ref L), v10, v11, v12, v13, v14, v15, none, none] ∧ H' L = some (.lst ys) ∧ IsAll ED H' ys (es.map trD) ∧ es.length ≤ 10 + i ∧ i ≤ es.length ∧ (∀ x ∈ es, TrC ls x) ∧ Bx H' b t' ∧ t7 ≤ t' ∧ t' ≤ t7 + 12 * i ∧ SameE (Eb b) J1 H') ⟨_, _, _, _, _, _, ys, es, t7, rfl, hL, iL, by trivial, by trivial, cL, B7, by trivial, by trivial, s7⟩ ?_ ?_
    · clear hL iL lL cL B7 s7
      rintro i σ G hi ⟨v10, v11, v12, v13, v14, v15, ys, es, t8, rfl, hL, iL, lL, lL', cL, BG, h8a, h8b, sG⟩
      have lys : ys.length = es.length := by rw [iL.length, List.length_map]
      have hplG := sG.tup _ _ hplJ
      refine bodyH (t := tSeq _ _) fun DH nH => ?_
      refine seqA fun DI nI => ?_
      refine ⟨_, rfl, _, rfl, pl, _, rfl, .inr (SqT.of hplG), b, _, t8, rfl, BG, by trivial, log9 (by trivial) (by trivial), by trivial, by trivial, fun f t9 G1 f0 f1 _ _ g1 BG1 => nI _ _ ?_⟩
      have hplG1 := g1.tup _ _ hplG
      refine seqP fun DJ nJ => ?_
      refine ⟨_, rfl, _, rfl, pl, _, _, _, rfl, rfl, SqT.of hplG1, atI_map f0 (by trivial), _, rfl, _, rfl, _, _, rfl, rfl, _, rfl, _, rfl, pl, _, rfl, .inr (SqT.of hplG1), _, _, rfl, rfl, b, _, t9, rfl, BG1, by trivial, log9 (by trivial) (by trivial), by trivial, by trivial, fun r t10 G2 r0 r1 _ _ g2 BG2 => ?_⟩
      have hplG2 := g2.tup _ _ hplG1
      obtain ⟨q0, q1, q2⟩ := step_on (n := (ls.length : Int)) (f := f) (r := r) f0 (by trivial) r0 (by trivial)
      obtain ⟨la, ela⟩ : ∃ la, la = (f + 1 + r) % (ls.length : Int) := ⟨_, rfl⟩
      rw [← ela] at q0 q1 q2
      have hat : atI (ls.map strV) ((f + 1 + r) % ((ls.map strV).length : Int)) = some (strV ls[la.toNat]) := by rw [el, ← ela]; exact atI_map q0 (by trivial)
      refine ⟨_, _, rfl, rfl, _, rfl, pl, _, rfl, .inr (SqT.of hplG2), _, _, rfl, rfl, (by show (0 : Int) < ((ls.map strV).length : Int); trivial), pl, _, _, _, rfl, rfl, SqT.of hplG2, hat, nJ _ _ _ ?_⟩
      obtain ⟨bg, ebg⟩ : ∃ bg, bg = ls[f.toNat] := ⟨_, rfl⟩
      obtain ⟨en, een⟩ : ∃ en, en = ls[la.toNat] := ⟨_, rfl⟩
      have mbg : bg ∈ ls := by rw [ebg]; exact List.getElem_mem _
      have men : en ∈ ls := by rw [een]; exact List.getElem_mem _
      have bne : bg ≠ en := fun z => by
        rw [ebg, een] at z
        have := nodup_inj nd (by trivial) (by trivial) z
        trivial
      rw [← ebg, ← een]
      refine seqA fun DK nK => ?_
      refine ⟨_, rfl, b, t10, rfl, BG2, by trivial, by trivial, fun og n d t11 G3 g3 eg fg lg BG3 h11a h11b => nK _ _ ?_⟩
      have g03 := (g1.trans g2).trans g3
      have t11a : t8 ≤ t11 ∧ t11 ≤ t8 + 8 := by trivial
      refine joinS (fun σ H' => Ex4 fun (og : Addr) (g : KM.Fra) (v15 : Option V) (t' : Int) => σ = [some (.ref b), some (.int mp), some (.int mt), some (.int wy), some (.bl great), some (.ref pl), some (.int mn), some (.ref sl), some (.ref W), some (.ref L), some (.int (0 + (i : Int))), some (.int f), some (.str (S bg)), some (.str (S en)), some (.ref og), v15, none, none] ∧ H' og = some (fr g) ∧ Gb 6 6 g ∧ 1 ≤ g.1 ∧ Bx H' b t' ∧ t11 ≤ t' ∧ t' ≤ t11 + 1 ∧ SameE (Eb b) G3 H') ?_ fun nx => ?_
      · rintro σ' G4 ⟨og, g, v15, t12, rfl, hog, gg, gg1, BG4, h12a, h12b, g4⟩
        have g04 := g03.trans g4
        have hL4 := g04.old L _ nLb hL
        refine ⟨_, rfl, .inl ⟨rfl, _, SqL.of hL4⟩, _, rfl, _, rfl, L, _, rfl, .inl (SqL.of hL4), _, _, rfl, rfl, b, _, t12, rfl, BG4, by trivial, log9 (by trivial) (by trivial), by trivial, by trivial, fun r t13 G5 r0 r1 _ _ g5 BG5 => ⟨_, rfl, _, rfl, _, rfl, (by show 3 ≤ 10000; decide), fun q G6 n6 => ?_⟩⟩
        have g06 := (g04.trans g5).trans n6.sm.toE
        have hL6 := g06.old L _ nLb hL
        refine ⟨L, ys, r, .ref q, rfl, rfl, hL6, r0, by trivial, by trivial, fun G7 c7 => nH _ _ ⟨_, _, _, _, _, _, _, es.take r.toNat ++ (bg, en, g) :: es.drop r.toNat, t13, rfl, c7.at', ?_, ?_, ?_, fun x hx => ?_, (BG5.same n6.sm).ch c7 (fun z => nLb z.symm), by trivial, by trivial, (sG.trans g06).ch c7 fL⟩⟩
        · have i6 := iL.tupS g06
          rw [List.map_append, List.map_cons, List.map_take, List.map_drop]
          have nw : IsD ED G6 (.ref q) (trD (bg, en, g)) := .tup n6.at' (.cons (.str _) (.cons (.str _) (.cons (isF (p := g) (n6.sm _ _ (g5.tup _ _ hog))) .nil)))
          exact ((i6.take _).append (.cons nw (i6.drop _))).mono ⟨fun _ _ n _ => absurd trivial n, fun _ _ e => c7.tup e hL6⟩
        · rw [List.length_append, List.length_cons, List.length_take, List.length_drop]; trivial
        · rw [List.length_append, List.length_cons, List.length_take, List.length_drop]; trivial
        · rcases List.mem_append.mp hx with q' | q'
          · exact cL x (List.mem_of_mem_take q')
          · rcases List.mem_cons.mp q' with q' | q'
            · rw [q']; exact ⟨mbg, men, bne, gg, gg1⟩
            · exact cL x (List.mem_of_mem_drop q')
      · refine ⟨_, rfl, _, _, rfl, rfl, _, rfl, ite2 (fun c => ?_) (fun c => ?_)⟩
        · refine seqA fun DM nM => ⟨(by show 2 ≤ 10000; decide), fun u1 K1 m1 => ⟨(by show 2 ≤ 10000; decide), fun u2 K2 m2 => ⟨(by show 2 ≤ 10000; decide), fun u3 K3 m3 => ⟨(by show 2 ≤ 10000; decide), fun u4 K4 m4 => ⟨(by show 4 ≤ 10000; decide), fun l5 K5 m5 => ⟨_, rfl, b, 4, t11, rfl, BG3.same ((((m1.sm.trans m2.sm).trans m3.sm).trans m4.sm).trans m5.sm), by decide, by decide, by trivial, by trivial, fun r6 t12 K6 r60 r61 h6a h6b s6 B6 => ?_⟩⟩⟩⟩⟩⟩
          have sm := (((m1.sm.trans m2.sm).trans m3.sm).trans m4.sm).trans m5.sm
          have nl5 : ¬ l5 = b := fun z => (BG3.same (((m1.sm.trans m2.sm).trans m3.sm).trans m4.sm)).ne m5.fr z.symm
          have up : ∀ {u : Addr} {us : List V}, K5 u = some (.tup us) → K6 u = some (.tup us) := fun h => s6.tup _ _ h
          obtain ⟨so, z, eso, hso, gz'⟩ : ∃ so, ∃ z : KM.Fra, atI [V.ref u1, V.ref u2, V.ref u3, V.ref u4] r6 = some (.ref so) ∧ K6 so = some (fr z) ∧ (1 ≤ z.1 ∧ z.1 ≤ 5 ∧ 1 ≤ z.2 ∧ z.2 ≤ 6) := by
            obtain rfl | rfl | rfl | rfl : r6 = 0 ∨ r6 = 1 ∨ r6 = 2 ∨ r6 = 3 := by trivial
            · exact ⟨u1, (1, 1), rfl, up (m5.sm _ _ (m4.sm _ _ (m3.sm _ _ (m2.sm _ _ m1.at')))), by decide⟩
            · exact ⟨u2, (1, 1), rfl, up (m5.sm _ _ (m4.sm _ _ (m3.sm _ _ m2.at'))), by decide⟩
            · exact ⟨u3, (1, 2), rfl, up (m5.sm _ _ (m4.sm _ _ m3.at')), by decide⟩
            · exact ⟨u4, (5, 6), rfl, up (m5.sm _ _ m4.at'), by decide⟩
          refine ⟨l5, _, _, _, rfl, rfl, SqL.of (s6.old l5 _ nl5 m5.at'), eso, nM _ _ ?_⟩
          have s36 : SameE (Eb b) G3 K6 := sm.toE.trans s6
          have sJ6 : SameE (Eb b) J1 K6 := (sG.trans g03).trans s36
          have hW6 := sJ6.old W _ nWb hW
          obtain ⟨w1', z1, v1, hw1, wc1⟩ := wl bg mbg
          obtain ⟨w2', z2, v2, hw2, wc2⟩ := wl en men
          refine ⟨_, rfl, _, rfl, W, kvs, Sum.inr (S bg), .ref w1', rfl, rfl, hW6, v1, _, rfl, _, rfl, W, kvs, Sum.inr (S en), .ref w2', rfl, rfl, hW6, v2, w1', w2', z1, z2, _, _, _, _, rfl, sJ6.tup _ _ hw1, sJ6.tup _ _ hw2, wc_gb wc1, wc_gb wc2, by decide, by decide, by decide, by decide, (fun _ => wc2.1), fun q K7 n7 => ⟨_, rfl, q, so, _, z, 4, 4, 3, 3, rfl, n7.at', n7.sm _ _ hso, (wc_gb wc1).ovr (wc_gb wc2) wc2.1 (by decide) (by decide), ⟨(show z.1.natAbs < 8 by trivial), (show z.2.natAbs < 8 by trivial), gz'.2.2.1⟩, by decide, by decide, by decide, by decide, (fun z => by cases z), fun q2 K8 n8 => nx _ _ ?_⟩⟩
          have wg := wgain wc1 wc2 gz'
          exact ⟨q2, _, _, t12, rfl, n8.at', wg.1, wg.2, (B6.same n7.sm).same n8.sm, by trivial, by trivial, s36.trans (n7.sm.trans n8.sm).toE⟩
        · exact nx _ _ ⟨og, (n, d), _, t11, rfl, eg, ⟨fg.sn, fg.sd, fg.pos⟩, lg, BG3, by trivial, by trivial, SameE.refl _⟩
    clear hL iL lL cL B7 s7
    rintro σ G ⟨v10, v11, v12, v13, v14, v15, ys, es, t8, rfl, hL, iL, lL, lL', cL, BG, h8a, h8b, sG⟩
    have t8a : t ≤ t8 ∧ t8 ≤ t + 333 := by trivial
    have les : 1 ≤ es.length ∧ es.length ≤ 34 := by trivial
    have lys : ys.length = es.length := by rw [iL.length, List.length_map]
    clear h7a h7b h8a h8b lL lL' t6a
    refine nB _ _ ?_
    clear nB
    refine seqA fun Q7 nA7 => ⟨(by show 0 ≤ 10000; decide), fun TL G1 n1 => nA7 _ _ ?_⟩
    have fT : J1 TL = none := sG.free BG n1.fr
    have nTb : ¬ TL = b := fun z => BG.ne n1.fr z.symm
    refine seqH fun DB nB => ?_
    refine ⟨_, rfl, _, rfl, L, _, rfl, SqL.of (n1.sm _ _ hL), fun P' G2 n2 => ?_⟩
    have eP : G2 P' = some (.lst (ys.take 24)) := by
      have := n2.at'
      rw [cutV_take (by decide)] at this
      exact this
    have nPb : ¬ P' = b := fun z => (BG.same n1.sm).ne n2.fr z.symm
    have nPT : ¬ P' = TL := fun z => by have := n1.at'; rw [← z, n2.fr] at this; cases this
    have s12 := n1.sm.trans n2.sm
    have iP : IsAll ED G2 (ys.take 24) ((es.take 24).map trD) := by
      rw [List.map_take]
      exact (iL.take 24).mono s12.toE
    have lP : (ys.take 24).length = (es.take 24).length := by rw [List.length_take, List.length_take]; trivial
    refine ⟨P', rfl, ⟨_, SqL.of n2.at'⟩, ?_⟩
    refine for_list (xs := ys.take 24) (fun i σ H' => Ex7 fun (v12 v13 v14 v17 : Option V) (zs : List V) (ts : List TieD) (t' : Int) => σ = [some (.ref b), some (.int mp), some (.int mt), some (.int wy), some (.bl great), some (.ref pl), some (.int mn), some (.ref sl), some (.ref W), some (.ref L), v10, v11, v12, v13, v14, v15, some (.ref TL), v17] ∧ H' TL = some (.lst zs) ∧ IsAll ED H' zs (ts.map tieD) ∧ ts.length = i ∧ (∀ x ∈ ts, TGd ls x) ∧ Bx H' b t' ∧ t8 ≤ t' ∧ t' ≤ t8 + 4 * i ∧ H' P' = some (.lst (ys.take 24)) ∧ SameE (Eb b) J1 H' ∧ (∀ a us, G2 a = some (.tup us) → H' a = some (.tup us))) ⟨_, _, _, _, [], [], t8, rfl, n2.sm _ _ n1.at', .nil, rfl, (fun x hx => by cases hx), BG.same s12, by trivial, by trivial, eP, sG.trans s12.toE, fun _ _ h => h⟩ ?_ ?_ ?_
    · rintro i σ H' _ ⟨_, _, _, _, _, _, _, _, _, _, _, _, _, _, _, q, _⟩
      exact SqL.of q
    · rintro i x σ F0 hx ⟨v12, v13, v14, v17, zs, ts, t9, rfl, hT, iT, lT, cT, BF, h9a, h9b, hP, sF, tF⟩
      have hi : i < (ys.take 24).length := (List.getElem?_eq_some_iff.mp hx).1
      have h24 : (ys.take 24).length ≤ 24 := by rw [List.length_take]; trivial
      obtain ⟨dx, edx, gx⟩ := iP.get hx
      rw [List.getElem?_map] at edx
      obtain ⟨tr, etr, rfl⟩ := Option.map_eq_some_iff.mp edx
      have tc := cL tr (List.mem_of_mem_take (List.mem_of_getElem? etr))
      obtain ⟨o, og, rfl, ho, hog⟩ : Ex2 fun o og => x = .ref o ∧ G2 o = some (.tup [.str (S tr.1), .str (S tr.2.1), .ref og]) ∧ G2 og = some (fr tr.2.2) := by
        cases gx with
        | @tup a xs _ h r' =>
          cases r' with
          | @cons u1 _ _ _ h1 r' =>
          cases r' with
          | @cons u2 _ _ _ h2 r' =>
          cases r' with
          | @cons u3 _ _ _ h3 r' =>
          cases r'
          cases h1
          cases h2
          obtain ⟨og, rfl, hog⟩ := isF_inv h3
          exact ⟨a, og, rfl, h, hog⟩
      have lzs : zs.length = ts.length := by rw [iT.length, List.length_map]
      refine ⟨o, _, rfl, SqT.of (tF _ _ ho), rfl, _, _, rfl, _, _, rfl, _, _, rfl, rfl, ?_⟩
      dsimp only
      refine seqA fun Q8 nA8 => ⟨_, rfl, b, t9, rfl, BF, by trivial, by trivial, fun om zm t10 F1 f1 hom gm zm0 BF1 h10a h10b => nA8 _ _ ?_⟩
      have hT1 := f1.old TL _ nTb hT
      refine ⟨_, rfl, .inl ⟨rfl, _, SqL.of hT1⟩, _, rfl, _, rfl, _, rfl, _, rfl, _, rfl, b, t10, rfl, BF1, by trivial, by trivial, fun op zp t11 F2 f2 hop gp zp0 BF2 h11a h11b => ⟨(by show 5 ≤ 10000; decide), fun q F3 n3 => ?_⟩⟩
      have f03 : SameE (Eb b) F0 F3 := (f1.trans f2).trans n3.sm.toE
      have hT3 := f03.old TL _ nTb hT
      refine ⟨TL, _, _, rfl, rfl, hT3, by trivial, fun F4 c4 => ⟨_, _, _, _, zs ++ [.ref q], ts ++ [⟨tr.1, tr.2.1, zm, tr.2.2, zp⟩], t11, rfl, c4.at', ?_, by rw [List.length_append, lT]; rfl, fun x hx => ?_, (BF2.same n3.sm).ch c4 (fun z => nTb z.symm), by trivial, by trivial, c4.ol P' _ nPT (f03.old P' _ nPb hP), (sF.trans f03).ch c4 fT, fun a us h => c4.tup (f03.tup _ _ (tF a us h)) hT3⟩⟩
      · rw [List.map_append]
        refine all_snoc c4 hT3 (iT.tupS f03) ?_
        exact .tup n3.at' (.cons (.str _) (.cons (.str _) (.cons (isF (p := zm) (n3.sm _ _ (f2.tup _ _ hom))) (.cons (isF (p := tr.2.2) (f03.tup _ _ (tF _ _ hog))) (.cons (isF (p := zp) (n3.sm _ _ hop)) .nil)))))
      · rcases List.mem_append.mp hx with q' | q'
        · exact cT x q'
        · rw [List.mem_singleton.mp q']
          exact ⟨tc.b, tc.e, tc.ne, gm, tc.g, tc.g1, gp⟩
    rintro σ F0 ⟨v12, v13, v14, v17, zs, ts, t9, rfl, hT, iT, lT, cT, BF, h9a, h9b, hP, sF, tF⟩
    refine nB _ _ ?_
    have l24 : (ys.take 24).length ≤ 24 ∧ 1 ≤ (ys.take 24).length := by rw [List.length_take]; trivial
    have lzs : zs.length = ts.length := by rw [iT.length, List.length_map]
    have hplF := sF.tup _ _ hplJ
    refine joinS (fun σ H' => Ex3 fun (zs : List V) (ts : List TieD) (t' : Int) => σ = [some (.ref b), some (.int mp), some (.int mt), some (.int wy), some (.bl great), some (.ref pl), some (.int mn), some (.ref sl), some (.ref W), some (.ref L), v10, v11, v12, v13, v14, v15, some (.ref TL), v17] ∧ H' TL = some (.lst zs) ∧ IsAll ED H' zs (ts.map tieD) ∧ 1 ≤ ts.length ∧ ts.length ≤ 24 ∧ (∀ x ∈ ts, TGd ls x) ∧ Bx H' b t' ∧ t9 ≤ t' ∧ t' ≤ t9 + 1 ∧ SameE (Eb b) J1 H') ?_ fun nx => ?_
    · rintro σ' F1 ⟨zs, ts, t10, rfl, hT, iT, l1, l2', cT, BF, h10a, h10b, sF⟩
      refine ⟨_, rfl, _, rfl, TL, _, rfl, SqL.of hT, fun q F2 n2' => ⟨(by show 2 ≤ 10000; decide), fun v F3 n3 => ?_⟩⟩
      have s23 := n2'.sm.trans n3.sm
      refine k (.ref v) ls ts t10 F3 ((s01.trans sF).trans s23.toE) ?_ l2 l10 nd nc l1 l2' cT (BF.same s23) (by trivial) (by trivial)
      refine .tup n3.at' (.cons (.tup (s23 _ _ (sF.tup _ _ hplJ)) (isStrs ls)) (.cons (.tup (n3.sm _ _ n2'.at') (iT.mono s23.toE)) .nil))
    · refine ⟨_, rfl, TL, _, rfl, .inl (SqL.of hT), _, _, rfl, rfl, _, rfl, ite2 (fun c => ?_) (fun c => ?_)⟩
      · have hlt : (zs.length : Int) < 24 := of_decide_eq_true c
        refine ⟨_, rfl, b, 4, t9, rfl, BF, by decide, by decide, by trivial, by trivial, fun r t10 F1 r0 r1 _ _ f1 BF1 => ⟨rfl, _, rfl, ite2 (fun c' => ?_) (fun c' => ?_)⟩⟩
        · have hT1 := f1.old TL _ nTb hT
          obtain ⟨y0, ey0⟩ : ∃ y0, zs[0]? = some y0 := ⟨_, List.getElem?_eq_getElem (by trivial)⟩
          obtain ⟨d0, ed0, g0⟩ := iT.get ey0
          rw [List.getElem?_map] at ed0
          obtain ⟨tt, et, rfl⟩ := Option.map_eq_some_iff.mp ed0
          refine ⟨_, rfl, .inl ⟨rfl, _, SqL.of hT1⟩, _, rfl, TL, _, _, _, rfl, rfl, SqL.of hT1, atI_nat (j := 0) ey0, TL, _, _, rfl, rfl, hT1, by trivial, fun F2 c2 => nx _ _ ⟨_, ts ++ [tt], t10, rfl, c2.at', ?_, by simp, by rw [List.length_append]; simp; trivial, fun x hx => ?_, BF1.ch c2 (fun z => nTb z.symm), by trivial, by trivial, (sF.trans f1).ch c2 fT⟩⟩
          · rw [List.map_append]
            exact all_snoc c2 hT1 (iT.tupS f1) (g0.tupS (F := ED) f1)
          · rcases List.mem_append.mp hx with q' | q'
            · exact cT x q'
            · rw [List.mem_singleton.mp q']; exact cT tt (List.mem_of_getElem? et)
        · exact nx _ _ ⟨zs, ts, t10, rfl, f1.old TL _ nTb hT, iT.tupS f1, by trivial, by trivial, cT, BF1, by trivial, by trivial, sF.trans f1⟩
      · exact iteF (nx _ _ ⟨zs, ts, t9, rfl, hT, iT, by trivial, by trivial, cT, BF, by trivial, by trivial, sF⟩)
end
end K16
namespace K16
open PySem L2
set_option maxHeartbeats 8000000
theorem wt_g {p : KM.Fra} {a b : Nat} (h : Gb a b p) (ha : a ≤ 1900) (hb : b ≤ 1900) : Wt (frD p) 3 1 := .tuple (.cons (.int (h.n.mono ha)) (.cons (.int (h.d.mono hb)) .nil))
theorem wt_tieG {ls : List (List Nat)} {t : TieD} (hl : ∀ l ∈ ls, NameC l) (h : TGd ls t) : Wt (tieD t) 12 2 :=
  .tuple (.cons (.str (strT_name (hl _ h.b))) (.cons (.str (strT_name (hl _ h.e))) (.cons (wt_g h.fm (by decide) (by decide)) (.cons (wt_g h.fg (by decide) (by decide)) (.cons (wt_g h.fp (by decide) (by decide)) .nil)))))
theorem wt_netG {ls : List (List Nat)} {ts : List TieD} (hl : ∀ l ∈ ls, NameC l) (ht : ∀ t ∈ ts, TGd ls t) : Wt (netD ls ts) (1 * ls.length + 1 + (12 * ts.length + 1 + 0) + 1) 4 :=
  .tuple (.cons (.deep (.tuple (wtL_map (m := 1) (k := 0) fun l h => .str (strT_name (hl l h)))) (by decide)) (.cons (.tuple (wtL_map fun t h => wt_tieG hl (ht t h))) .nil))
theorem wt_strG {ps : List KM.Fra} (h : ∀ p ∈ ps, Gb 1894 1876 p) : Wt (.list (ps.map frD)) (3 * ps.length + 1) 4 := Wt.deep (.list (k := 1) (wtL_map fun p hp => wt_g (h p hp) (by decide) (by decide))) (by decide)
section
variable {P : Program} {w : World} {K : PySem.W.Frag} {mg : Str → Option Value} {base : Heap}
inductive spLaw_ (K : PySem.W.Frag) (vs : List V) (H : Hp) (Q : VK) : Prop
  | mk (a : Addr) (ns : List Int) (h0 : vs = [.ref a]) (h1 : SqL K H a (ns.map V.int)) (h2 : ns.length ≤ 63) (h3 : ∀ H', Q (.bl true) H')
def spLaw (K : PySem.W.Frag) : Sp := fun vs H Q _ => spLaw_ K vs H Q
theorem law_start {H : Hp} {a : Addr} {ns : List Int} (hl : ns.length ≤ 63) (_ : Only H) (hS : SqL K H a (ns.map V.int)) : spLaw K [.ref a] H (fun v _ => v = .bl true) fun _ _ _ => False :=
  ⟨a, ns, rfl, hS, hl, fun _ => rfl⟩
theorem law_ok (T : Txt K mg) : FnOk P w K mg base CX0 40 T.f_law T.d_law ["_law_script"] (spLaw K) := by
  have G_l_folded := ok_folded (P := P) (w := w) (base := base) T
  have G_l_box := ok_box (P := P) (w := w) (base := base) T
  have G_l_net_by := ok_net_by (P := P) (w := w) (base := base) T
  have G_l_ends_by := ok_ends_by (P := P) (w := w) (base := base) T
  have G_l_stream_by := ok_l_stream_by (P := P) (w := w) (base := base) T
  have G_l_any_stream := ok_any_stream (P := P) (w := w) (base := base) T
  have G_l_steps_of := ok_l_steps_of (P := P) (w := w) (base := base) T
  have G_left_steps := ok_left_steps (P := P) (w := w) (base := base) T
  have G_l_same := ok_l_same (P := P) (w := w) (base := base) T 5
  refine T.F_law.ok sc_law (fun vs H Q E h => ?_) (fun cdv A outer s H vs Q E hr h => ?_)
  · obtain ⟨a, ns, rfl, _⟩ := h
    rfl
  · obtain ⟨a, ns, rfl, hS, hn, k⟩ := h
    refine ⟨_, (@pss_cons _ _ _ _ _ (@ps_set _ _ (1) _ _ _ _ sc_law.nd rfl (Or.inl k_law_l_cells) (@pe_call _ _ _ _ _ _ _ _ _ _ _ _ _ _ _ _ G_l_folded (hr.mono (by decide)) k_law_l_folded T.m_l_folded T.F_l_folded.kp T.B_l_folded .nil (@pass0 _) (@pa_c _ _ _ _ _ (@pw _ 0 _ _ (Or.inl k_law_l_script) (by rfl) (by decide) (by decide)) (@pa_c _ _ _ _ _ (@pe_int _ _ _ _) (@pa_nil _) rfl) rfl) (by decide) (by rfl) (by rfl)) (by rfl) (by first | exact .inl rfl | exact .inr rfl | assumption)) (@pss_cons _ _ _ _ _ (@ps_for _ _ _ _ _ _ _ _ PassesOwn.never rfl (@pi_range1 _ _ _ _ _ _ k_law_range T.b_range (@pa_c _ _ _ _ _ (@pe_callB _ _ _ _ _ _ _ _ _ (@call_max2 _ rfl) k_law_max T.b_max (@boot_b_max) (@pa_c _ _ _ _ _ (@pe_int _ _ _ _) (@pa_c _ _ _ _ _ (@pe_callB _ _ _ _ _ _ _ _ _ (@len_k _ (K) (by rfl)) k_law_len T.b_len (@boot_b_len) (@pa_c _ _ _ _ _ (@pw _ 1 _ _ (Or.inl k_law_l_cells) (by rfl) (by decide) (by decide)) (@pa_nil _) rfl) (by decide) (by decide) (by rfl) (by rfl)) (@pa_nil _) rfl) rfl) (by decide) (by decide) (by rfl) (by rfl)) (@pa_nil _) rfl) (by rfl)) (@pg_name _ _ (2) _ sc_law.nd rfl (Or.inl k_law_l_k) (by first | exact .inl rfl | exact .inr rfl | assumption)) (@pss_cons _ _ _ _ _ (@ps_set _ _ (3) _ _ _ _ sc_law.nd rfl (Or.inl k_law_l_box_here) (@pe_call _ _ _ _ _ _ _ _ _ _ _ _ _ _ _ _ G_l_box (hr.mono (by decide)) k_law_l_box T.m_l_box T.F_l_box.kp T.B_l_box .nil (@pass0 _) (@pa_c _ _ _ _ _ (@pw _ 1 _ _ (Or.inl k_law_l_cells) (by rfl) (by decide) (by decide)) (@pa_c _ _ _ _ _ (@pw _ 2 _ _ (Or.inl k_law_l_k) (by rfl) (by decide) (by decide)) (@pa_nil _) rfl) rfl) (by decide) (by rfl) (by rfl)) (by rfl) (by first | exact .inl rfl | exact .inr rfl | assumption)) (@pss_one _ _ _ (@ps_for _ _ _ _ _ _ _ _ PassesOwn.never rfl (@pi_range1 _ _ _ _ _ _ k_law_range T.b_range (@pa_c _ _ _ _ _ (@pe_int _ _ _ _) (@pa_nil _) rfl) (by rfl)) (@pg_name _ _ (4) _ sc_law.nd rfl (Or.inl k_law_l_turn) (by first | exact .inl rfl | exact .inr rfl | assumption)) (@pss_cons _ _ _ _ _ (@ps_set _ _ (5) _ _ _ _ sc_law.nd rfl (Or.inl k_law_l_net) (@pe_call _ _ _ _ _ _ _ _ _ _ _ _ _ _ _ _ G_l_net_by (hr.mono (by decide)) k_law_l_net_by T.m_l_net_by T.F_l_net_by.kp T.B_l_net_by .nil (@pass0 _) (@pa_c _ _ _ _ _ (@pw _ 3 _ _ (Or.inl k_law_l_box_here) (by rfl) (by decide) (by decide)) (@pa_c _ _ _ _ _ (@pe_int _ _ _ _) (@pa_c _ _ _ _ _ (@pe_int _ _ _ _) (@pa_nil _) rfl) rfl) rfl) (by decide) (by rfl) (by rfl)) (by rfl) (by first | exact .inl rfl | exact .inr rfl | assumption)) (@pss_cons _ _ _ _ _ (@ps_asg _ _ _ _ _ _ (@pe_call _ _ _ _ _ _ _ _ _ _ _ _ _ _ _ _ G_l_ends_by (hr.mono (by decide)) k_law_l_ends_by T.m_l_ends_by T.F_l_ends_by.kp T.B_l_ends_by .nil (@pass0 _) (@pa_c _ _ _ _ _ (@pw _ 3 _ _ (Or.inl k_law_l_box_here) (by rfl) (by decide) (by decide)) (@pa_c _ _ _ _ _ (@pw _ 5 _ _ (Or.inl k_law_l_net) (by rfl) (by decide) (by decide)) (@pa_nil _) rfl) rfl) (by decide) (by rfl) (by rfl)) (@pg_tup_k _ (K) _ _ _ _ (2) rfl (@pgs_cons _ _ _ _ _ (@pg_name _ _ (6) _ sc_law.nd rfl (Or.inl k_law_l_begin) (by first | exact .inl rfl | exact .inr rfl | assumption)) (@pgs_cons _ _ _ _ _ (@pg_name _ _ (7) _ sc_law.nd rfl (Or.inl k_law_l_end) (by first | exact .inl rfl | exact .inr rfl | assumption)) (@pgs_nil _) (by rfl)) (by rfl)) (by rfl) (by rfl) (by rfl)) (by rfl) (by rfl) (by rfl)) (@pss_one _ _ _ (@ps_for _ _ _ _ _ _ _ _ PassesOwn.never rfl (@pi_tup_k _ (K) _ _ _ (@pe_tupA _ _ _ _ _ (@pa_c _ _ _ _ _ (@pe_call _ _ _ _ _ _ _ _ _ _ _ _ _ _ _ _ G_l_stream_by (hr.mono (by decide)) k_law_l_stream_by T.m_l_stream_by T.F_l_stream_by.kp T.B_l_stream_by .nil (@pass0 _) (@pa_c _ _ _ _ _ (@pw _ 3 _ _ (Or.inl k_law_l_box_here) (by rfl) (by decide) (by decide)) (@pa_c _ _ _ _ _ (@pw _ 5 _ _ (Or.inl k_law_l_net) (by rfl) (by decide) (by decide)) (@pa_c _ _ _ _ _ (@pw _ 6 _ _ (Or.inl k_law_l_begin) (by rfl) (by decide) (by decide)) (@pa_c _ _ _ _ _ (@pw _ 7 _ _ (Or.inl k_law_l_end) (by rfl) (by decide) (by decide)) (@pa_nil _) rfl) rfl) rfl) rfl) (by decide) (by rfl) (by rfl)) (@pa_c _ _ _ _ _ (@pe_call _ _ _ _ _ _ _ _ _ _ _ _ _ _ _ _ G_l_any_stream (hr.mono (by decide)) k_law_l_any_stream T.m_l_any_stream T.F_l_any_stream.kp T.B_l_any_stream .nil (@pass0 _) (@pa_c _ _ _ _ _ (@pw _ 3 _ _ (Or.inl k_law_l_box_here) (by rfl) (by decide) (by decide)) (@pa_c _ _ _ _ _ (@pw _ 5 _ _ (Or.inl k_law_l_net) (by rfl) (by decide) (by decide)) (@pa_nil _) rfl) rfl) (by decide) (by rfl) (by rfl)) (@pa_nil _) rfl) rfl)) (by rfl)) (@pg_name _ _ (8) _ sc_law.nd rfl (Or.inl k_law_l_stream) (by first | exact .inl rfl | exact .inr rfl | assumption)) (@pss_cons _ _ _ _ _ (@ps_par _ _ (9) (10) _ _ _ _ _ _ _ _ _ _ _ rfl sc_law.nd rfl rfl (by decide) k_law_l_due k_law_l_written (@pa_c _ _ _ _ _ (@pe_call _ _ _ _ _ _ _ _ _ _ _ _ _ _ _ _ G_l_steps_of (hr.mono (by decide)) k_law_l_steps_of T.m_l_steps_of T.F_l_steps_of.kp T.B_l_steps_of .nil (@pass0 _) (@pa_c _ _ _ _ _ (@pw _ 5 _ _ (Or.inl k_law_l_net) (by rfl) (by decide) (by decide)) (@pa_c _ _ _ _ _ (@pw _ 8 _ _ (Or.inl k_law_l_stream) (by rfl) (by decide) (by decide)) (@pa_nil _) rfl) rfl) (by decide) (by rfl) (by rfl)) (@pa_c _ _ _ _ _ (@pe_callTy _ _ _ _ _ _ _ _ _ (@call_strW _ _ hr) k_law_str T.b_str (@boot_ty_str) (@pa_c _ _ _ _ _ (@pe_lstA _ _ _ _ (@pa_c _ _ _ _ _ (@pw _ 5 _ _ (Or.inl k_law_l_net) (by rfl) (by decide) (by decide)) (@pa_c _ _ _ _ _ (@pw _ 8 _ _ (Or.inl k_law_l_stream) (by rfl) (by decide) (by decide)) (@pa_nil _) rfl) rfl)) (@pa_nil _) rfl) (by decide) (by decide) (by rfl) (by rfl)) (@pa_nil _) rfl) rfl) (by kernel_rfl) (by rfl)) (@pss_one _ _ _ (@ps_for _ _ _ _ _ _ _ _ PassesOwn.never rfl (@pi_range1 _ _ _ _ _ _ k_law_range T.b_range (@pa_c _ _ _ _ _ (@pe_int _ _ _ _) (@pa_nil _) rfl) (by rfl)) (@pg_name _ _ (11) _ sc_law.nd rfl (Or.inl k_law_l_again) (by first | exact .inl rfl | exact .inr rfl | assumption)) (@pss_cons _ _ _ _ _ (@ps_set _ _ (12) _ _ _ _ sc_law.nd rfl (Or.inl k_law_l_found) (@pe_call _ _ _ _ _ _ _ _ _ _ _ _ _ _ _ _ G_left_steps (hr.mono (by decide)) k_law_left_steps T.m_left_steps T.F_left_steps.kp T.B_left_steps .nil (@pass0 _) (@pa_c _ _ _ _ _ (@pw _ 5 _ _ (Or.inl k_law_l_net) (by rfl) (by decide) (by decide)) (@pa_c _ _ _ _ _ (@pw _ 8 _ _ (Or.inl k_law_l_stream) (by rfl) (by decide) (by decide)) (@pa_nil _) rfl) rfl) (by decide) (by rfl) (by rfl)) (by rfl) (by first | exact .inl rfl | exact .inr rfl | assumption)) (@pss_cons _ _ _ _ _ (@ps_if _ _ _ _ _ _ _ _ (@PW.pt _ _ _ (@pw_or _ _ _ _ _ _ _ (@pt_not _ _ _ _ (@pt_val _ _ _ (@pe_call _ _ _ _ _ _ _ _ _ _ _ _ _ _ _ _ G_l_same (hr.mono (by decide)) k_law_l_same T.m_l_same T.F_l_same.kp T.B_l_same .nil (@pass0 _) (@pa_c _ _ _ _ _ (@pw _ 12 _ _ (Or.inl k_law_l_found) (by rfl) (by decide) (by decide)) (@pa_c _ _ _ _ _ (@pw _ 9 _ _ (Or.inl k_law_l_due) (by rfl) (by decide) (by decide)) (@pa_nil _) rfl) rfl) (by decide) (by rfl) (by rfl)) (by intro _; rfl))) (@pw_or1 _ _ _ _ (@pt_cmpR _ _ _ _ _ _ _ _ (@op_ne _) (@pe_callTy _ _ _ _ _ _ _ _ _ (@call_strW _ _ hr) k_law_str T.b_str (@boot_ty_str) (@pa_c _ _ _ _ _ (@pe_lstA _ _ _ _ (@pa_c _ _ _ _ _ (@pw _ 5 _ _ (Or.inl k_law_l_net) (by rfl) (by decide) (by decide)) (@pa_c _ _ _ _ _ (@pw _ 8 _ _ (Or.inl k_law_l_stream) (by rfl) (by decide) (by decide)) (@pa_nil _) rfl) rfl)) (@pa_nil _) rfl) (by decide) (by decide) (by rfl) (by rfl)) (@pw _ 10 _ _ (Or.inl k_law_l_written) (by rfl) (by decide) (by decide)) (@nomark _ _ (by decide) (by decide)))))) (@pss_one _ _ _ (@ps_ret _ _ _ _ (@pe_bl _ _ _ _))) (@pss_nil _)) (@pss_cons _ _ _ _ _ (@ps_expr _ _ _ _ (@pe_bm0 _ _ _ _ _ _ _ _ _ PySem.F.plainAttrs_list PySem.F.slot_list_reverse PySem.F.type_list_reverse (@mt_reverse _) (@pw _ 12 _ _ (Or.inl k_law_l_found) (by rfl) (by decide) (by decide)) (by rfl) (by rfl)) (by rfl)) (@pss_one _ _ _ (@ps_expr _ _ _ _ (@pe_bm_k _ (K) _ _ _ _ _ _ _ _ _ _ _ PySem.F.plainAttrs_list PySem.F.slot_list_append PySem.F.type_list_append (@mt_appendA _) (@pw _ 12 _ _ (Or.inl k_law_l_found) (by rfl) (by decide) (by decide)) (@pa_c _ _ _ _ _ (@pe_int _ _ _ _) (@pa_nil _) rfl) (by rfl) (by rfl) (by rfl) (by rfl) (by rfl) (by rfl)) (by rfl)))))) (by intro _; rfl)))) (by intro _; rfl))))) (by intro _; rfl)))) (by intro _; rfl)) (@pss_one _ _ _ (@ps_ret _ _ _ _ (@pe_bl _ _ _ _))))), ?_⟩
    refine seqH fun DA nA => ?_
    refine ⟨_, rfl, a, ns, 4, rfl, hS, hn, by decide, by decide, fun p ms H1 hp s1 hp1 hm4 => ?_⟩
    refine nA _ _ ?_
    have hmx : 0 ≤ (if ((ms.map V.int).length : Int) > 2 then ((ms.map V.int).length : Int) else 2) ∧ (if ((ms.map V.int).length : Int) > 2 then ((ms.map V.int).length : Int) else 2) ≤ 4 := by
      rw [List.length_map]
      split <;> trivial
    refine ⟨_, rfl, p, _, rfl, .inl (SqL.of hp1), _, _, rfl, _, rfl, by trivial, by trivial, ?_⟩
    generalize (if ((ms.map V.int).length : Int) > 2 then ((ms.map V.int).length : Int) else 2) = mx at hmx
    refine for_range (fun i σ H' => Ex11 fun v2 v3 v4 v5 v6 v7 v8 v9 v10 v11 v12 => σ = [some (.ref a), some (.ref p), v2, v3, v4, v5, v6, v7, v8, v9, v10, v11, v12] ∧ H' p = some (.lst (ms.map V.int))) ⟨_, _, _, _, _, _, _, _, _, _, _, rfl, hp1⟩ ?_ ?_
    case refine_2 =>
      rintro σ H' ⟨v2, v3, v4, v5, v6, v7, v8, v9, v10, v11, v12, rfl, _⟩
      exact k _
    rintro i σ H2 hi ⟨v2, v3, v4, v5, v6, v7, v8, v9, v10, v11, v12, rfl, hp2⟩
    refine bodyH (t := tSeq _ _) fun DB nB => ?_
    refine seqH fun DC nC => ?_
    refine ⟨_, rfl, _, rfl, p, ms, _, rfl, SqL.of hp2, by trivial, by trivial, fun b H3 hb s3 B3 => ?_⟩
    refine nC _ _ ?_
    have npb : ¬ p = b := fun z => by rw [z, hb] at hp2; cases hp2
    have hp3 := s3 _ _ hp2
    refine ⟨2, rfl, by decide, by decide, for_range (fun i' σ H' => Ex10 fun (v4 v5 v6 v7 v8 v9 v10 v11 v12 : Option V) (t' : Int) => σ = [some (.ref a), some (.ref p), some (.int (0 + (i : Int))), some (.ref b), v4, v5, v6, v7, v8, v9, v10, v11, v12] ∧ Bx H' b t' ∧ 0 ≤ t' ∧ t' ≤ 10000 * i' ∧ SameE (Eb b) H3 H') ⟨_, _, _, _, _, _, _, _, _, 0, rfl, B3, by trivial, by trivial, SameE.refl _⟩ ?_ ?_⟩
    case refine_2 =>
      rintro σ H' ⟨v4, v5, v6, v7, v8, v9, v10, v11, v12, t', rfl, _, _, _, sE⟩
      exact nB _ _ ⟨_, _, _, _, _, _, _, _, _, _, _, rfl, sE.old p _ npb hp3⟩
    rintro i' σ H4 hi' ⟨v4, v5, v6, v7, v8, v9, v10, v11, v12, t4, rfl, B4, h40, h41, sE4⟩
    refine bodyH (t := tSeq _ _) fun DD nD => ?_
    refine seqA fun Q5 nA5 => ⟨_, rfl, b, 5, 8, t4, rfl, B4, by trivial, by trivial, by decide, by decide, by decide, by decide, fun nv ls ts t5 H5 s5 iN l2 l10 nd nc l1 l24 tc B5 h5a h5b => nA5 _ _ ?_⟩
    refine ⟨_, rfl, _, rfl, b, nv, ls, ts, t5, rfl, B5, by trivial, by trivial, iN, l2, l10, nd, fun T6 f e t6 H6 s6 hT6 mf me fe B6 h6a h6b => ⟨T6, _, rfl, SqT.of hT6, rfl, _, _, rfl, _, _, rfl, rfl, ?_⟩⟩
    dsimp only
    have iN6 : IsD ED H6 nv (netD ls ts) := iN.tupS (F := ED) s6
    refine ⟨_, rfl, _, rfl, _, rfl, _, rfl, b, nv, ls, ts, f, e, t6, rfl, B6, by trivial, by trivial, iN6, tc, by trivial, mf, fe, l10, fun L1 y1 p1 t7 H7 s7 B7 h7a h7b f1 hL1 iL1 lp1 g1 => ?_⟩
    refine ⟨_, rfl, _, rfl, b, nv, ls, ts, t7, rfl, B7, by trivial, by trivial, iN6.tupS (F := ED) s7, tc, by trivial, fun L2 y2 p2 t8 H8 s8 B8 h8a h8b f2 hL2 iL2 lp2 g2 => ⟨(by show 2 ≤ 10000; decide), fun TT H9 n9 => ?_⟩⟩
    have nL1 : ¬ L1 = b := fun z => B6.ne f1 z.symm
    have nL2 : ¬ L2 = b := fun z => B7.ne f2 z.symm
    have iN9 : IsD ED H9 nv (netD ls ts) := ((iN6.tupS (F := ED) s7).tupS (F := ED) s8).sm n9.sm
    have B9 := B8.same n9.sm
    have str : ∀ x, x ∈ [V.ref L1, V.ref L2] → Ex3 fun (L : Addr) (ys : List V) (ps : List KM.Fra) => x = .ref L ∧ ¬ L = b ∧ H9 L = some (.lst ys) ∧ IsAll ED H9 ys (ps.map frD) ∧ ps.length = ts.length ∧ ∀ p ∈ ps, Gb 1894 1876 p := fun x hx => by
      have : x = .ref L1 ∨ x = .ref L2 := by simpa using hx
      rcases this with rfl | rfl
      · exact ⟨L1, y1, p1, rfl, nL1, n9.sm _ _ (s8.old L1 _ nL1 hL1), (iL1.tupS s8).mono n9.sm.toE, lp1, g1⟩
      · exact ⟨L2, y2, p2, rfl, nL2, n9.sm _ _ hL2, iL2.mono n9.sm.toE, lp2, g2⟩
    have s39 : SameE (Eb b) H3 H9 := ((((sE4.trans s5).trans s6).trans s7).trans s8).trans n9.sm.toE
    refine ⟨TT, rfl, ⟨_, SqT.of n9.at'⟩, for_tup (xs := [.ref L1, .ref L2]) (fun j σ H' => Ex5 fun (v8 v9 v10 v11 v12 : Option V) => σ = [some (.ref a), some (.ref p), some (.int (0 + (i : Int))), some (.ref b), some (.int (0 + (i' : Int))), some nv, some (.str (S f)), some (.str (S e)), v8, v9, v10, v11, v12] ∧ Same H9 H') ⟨_, _, _, _, _, rfl, Same.refl _⟩ ?_ ?_ ?_⟩
    · rintro j σ H' _ ⟨_, _, _, _, _, _, sm⟩
      exact SqT.of (sm _ _ n9.at')
    case refine_3 =>
      rintro σ H' ⟨v8, v9, v10, v11, v12, rfl, sm⟩
      exact nD _ _ ⟨_, _, _, _, _, _, _, _, _, t8, rfl, B9.same sm, by trivial, by trivial, s39.trans sm.toE⟩
    rintro j x σ G0 hx ⟨v8, v9, v10, v11, v12, rfl, sm⟩
    obtain ⟨L, ys, ps, rfl, nL, hL9, iL9, lps, gp⟩ := str x (List.mem_of_getElem? hx)
    have iN0 := iN9.sm sm
    have hL0 := sm _ _ hL9
    have iL0 := iL9.mono sm.toE
    have B0 := B9.same sm
    have lys : ys.length = ps.length := by rw [iL9.length, List.length_map]
    have wt : Wt (.list [netD ls ts, .list (ps.map frD)]) ((1 * ls.length + 1 + (12 * ts.length + 1 + 0) + 1) + ((3 * ps.length + 1) + 0) + 1) 5 := .list (.cons (wt_netG nc tc) (.cons (wt_strG gp) .nil))
    have shown : ∀ {J J' : Hp} {l : Addr}, Same G0 J → Nw J l (.lst [nv, .ref L]) J' → IsD (Eb b) J' (.ref l) (.list [netD ls ts, .list (ps.map frD)]) := fun {J J' l} sJ nl => by
      have s' := sJ.trans nl.sm
      exact .lst nl.at' (fun z => (B0.same sJ).ne nl.fr z.symm) (.cons ((iN0.sm s').any) (.cons (.lst (s' _ _ hL0) nL ((iL0.mono s'.toE).narrow fun _ _ => trivial)) .nil))
    refine bodyH (t := tSeq _ _) fun DE nE => ?_
    refine seqP fun Q6 nP => ?_
    refine ⟨_, rfl, _, rfl, nv, L, ls, ts, ys, ps, 1894, 1876, rfl, iN0, tc, by trivial, hL0, iL0, lps, gp, by decide, by decide, fun DU dz G1 k1 fD hD iD => ?_⟩
    refine ⟨_, rfl, _, rfl, (by show 2 ≤ 10000; decide), fun l2' G2 k2 => ⟨l2', _, Eb b, _, _, rfl, shown k1 k2, wt, by trivial, by decide, nP _ _ _ ?_⟩⟩
    have s02 := k1.trans k2.sm
    have hD2 := k2.sm _ _ hD
    have iD2 := iD.mono k2.sm.toE
    refine ⟨2, rfl, by decide, by decide, for_range (fun j' σ H' => Ex2 fun (v11 v12 : Option V) => σ = [some (.ref a), some (.ref p), some (.int (0 + (i : Int))), some (.ref b), some (.int (0 + (i' : Int))), some nv, some (.str (S f)), some (.str (S e)), some (.ref L), some (.ref DU), some (.str (PyData.shown (.list [netD ls ts, .list (ps.map frD)]))), v11, v12] ∧ Same G2 H') ⟨_, _, rfl, Same.refl _⟩ ?_ ?_⟩
    case refine_2 =>
      rintro σ H' ⟨v11, v12, rfl, sm'⟩
      exact nE _ _ ⟨_, _, _, _, _, rfl, sm.trans (s02.trans sm')⟩
    rintro j' σ F0 hj' ⟨v11, v12, rfl, sm'⟩
    have sF := s02.trans sm'
    refine bodyH (t := tSeq _ _) fun DF nF => ?_
    refine seqA fun Q7 nA7 => ⟨_, rfl, _, rfl, nv, L, ls, ts, ys, ps, 1894, 1876, rfl, iN0.sm sF, tc, by trivial, sF _ _ hL0, iL0.mono sF.toE, lps, gp, by decide, by decide, fun FO fz F1 k3 fF hF iF => nA7 _ _ ?_⟩
    refine seqH fun DG nG => ?_
    have fF2 : G2 FO = none := sm'.free fF
    have nFb : ¬ FO = b := fun z => (B0.same sF).ne fF z.symm
    have nDb : ¬ DU = b := fun z => B0.ne fD z.symm
    have lN := stepsN_len ts ps ts.length
    have dp : Dp 5 (.list ((stepsN ts ps ts.length).map sD)) := by
      refine ⟨by rw [List.length_map]; trivial, fun x hx => ?_⟩
      obtain ⟨sd, _, rfl⟩ := List.mem_map.mp hx
      refine ⟨by show 6 ≤ 1000; decide, fun y hy => ?_⟩
      have : y = .int sd.n ∨ y = .bool sd.bk ∨ y = .str (S sd.st) ∨ y = .str (S sd.en) ∨ y = frD sd.room ∨ y = frD sd.gain := by simpa using hy
      have fr2 : ∀ z : KM.Fra, Dp 3 (frD z) := fun z => ⟨by show 2 ≤ 1000; decide, fun u hu => by
        have : u = .int z.1 ∨ u = .int z.2 := by simpa using hu
        rcases this with rfl | rfl <;> trivial⟩
      rcases this with rfl | rfl | rfl | rfl | rfl | rfl
      · trivial
      · trivial
      · trivial
      · trivial
      · exact fr2 _
      · exact fr2 _
    have iFO : IsD (Eb b) F1 (.ref FO) (.list ((stepsN ts ps ts.length).map sD)) := .lst hF nFb (iF.narrow fun _ _ => trivial)
    have iDU : IsD (Eb b) F1 (.ref DU) (.list ((stepsN ts ps ts.length).map sD)) := .lst (k3 _ _ (sm' _ _ hD2)) nDb (((iD2.mono sm'.toE).mono k3.toE).narrow fun _ _ => trivial)
    have lfz : fz.length ≤ 80 := by rw [iF.length, List.length_map]; trivial
    refine ⟨_, rfl, _, rfl, .ref FO, .ref DU, _, Eb b, rfl, iFO, iDU, dp, fun F2 k4 => ⟨_, rfl, iteF ?_⟩⟩
    refine ⟨_, rfl, _, rfl, (by show 2 ≤ 10000; decide), fun l3 F3 k5 => ⟨l3, _, Eb b, _, _, rfl, shown ((sF.trans k3).trans k4) k5, wt, by trivial, by decide, _, rfl, rfl, _, rfl, ?_⟩⟩
    refine iteSame (nG _ _ ?_)
    have hF3 := k5.sm _ _ (k4 _ _ hF)
    refine seqH fun DK nK => ?_
    refine ⟨_, rfl, .inl ⟨rfl, _, SqL.of hF3⟩, FO, fz, rfl, rfl, hF3, nK _ _ ?_⟩
    have c4 : Ch F3 FO fz.reverse (upd F3 FO (.lst fz.reverse)) := Ch.mk'
    refine ⟨_, rfl, .inl ⟨rfl, _, SqL.of upd_same⟩, FO, fz.reverse, .int 0, rfl, rfl, upd_same, by rw [List.length_reverse]; trivial, fun F5 c5 => nF _ _ ⟨_, _, rfl, ?_⟩⟩
    exact Same.ch (Same.ch (((sm'.trans k3).trans k4).trans k5.sm) c4 fF2) c5 fF2
end
end K16
open PySem PySem.W PyProof.Rows
set_option maxRecDepth 100000 in
set_option maxHeartbeats 0 in
theorem PySem.Challenge.cw_gainroads_k16_steps_that_are_left_holds : PySem.Challenge.rw_gainroads_k16_steps_that_are_left.Holds := by
  w_on; o_law; k_head; (case hw => w_witness2)
  k_fill
  refine L2.walk_ofK (l := PySem.Challenge.rw_gainroads_k16_steps_that_are_left) (n := 63) (k := 40) (x := "_law_script") (CX := L2.CX0) (sp := K16.spLaw) rfl (by decide) rfl ⟨rfl, by decide, by decide, rfl⟩ (fun w h Y => PySem.W.kIn_of Y) ?F ?S ?C
  case F =>
    intro w mg fa h KX G hmg
    have T : ∃ T : K16.Txt (L2.KOf KX) mg, ∃ f, T.f_law = f ∧ (∀ (s : Shared) (u : Value), BindsTo s T.d_law ⟨[u], []⟩ [("_law_script", u)]) := by
      dsimp only [L2.KOf]
      refine' (fun z => Exists.elim z fun T y => ⟨T, _, y.1, y.2⟩) (K16.txt_mk KX G ?a0 ?l0 ?c0 ?k0 ?a1 ?l1 ?c1 ?k1 ?a2 ?l2 ?c2 ?k2 ?a3 ?l3 ?c3 ?k3 ?a4 ?l4 ?c4 ?k4 ?a5 ?l5 ?c5 ?k5 ?a6 ?l6 ?c6 ?k6 ?a7 ?l7 ?c7 ?k7 ?a8 ?l8 ?c8 ?k8 ?a9 ?l9 ?c9 ?k9 ?a10 ?l10 ?c10 ?k10 ?a11 ?l11 ?c11 ?k11 ?a12 ?l12 ?c12 ?k12 ?a13 ?l13 ?c13 ?k13 ?a14 ?l14 ?c14 ?k14 ?a15 ?l15 ?c15 ?k15 ?a16 ?l16 ?c16 ?k16 ?a17 ?l17 ?c17 ?k17 ?a18 ?l18 ?c18 ?k18 ?a19 ?l19 ?c19 ?k19 ?a20 ?l20 ?c20 ?k20 ?a21 ?l21 ?c21 ?k21 ?a22 ?l22 ?c22 ?k22 ?a23 ?l23 ?c23 ?k23 ?a24 ?l24 ?c24 ?k24 ?a25 ?l25 ?c25 ?k25 ?a26 ?l26 ?c26 ?k26 ?a27 ?l27 ?c27 ?k27 ?a28 ?l28 ?c28 ?k28 ?a29 ?l29 ?c29 ?k29 ?a30 ?l30 ?c30 ?k30 ?a31 ?l31 ?c31 ?k31 ?a32 ?l32 ?c32 ?k32 ?z0 ?z1 ?z2 ?z3 ?z4 ?z5 ?z6 ?z7 ?z8 ?z9 ?z10 ?z11 ?z12 ?z13 ?z14 ?z15)
      (case a0 => k_is)
      (case l0 => k_is)
      (case c0 => k_is)
      (case k0 => k_is)
      (case a1 => k_is)
      (case l1 => k_is)
      (case c1 => k_is)
      (case k1 => k_is)
      (case a2 => k_is)
      (case l2 => k_is)
      (case c2 => k_is)
      (case k2 => k_is)
      (case a3 => k_is)
      (case l3 => k_is)
      (case c3 => k_is)
      (case k3 => k_is)
      (case a4 => k_is)
      (case l4 => k_is)
      (case c4 => k_is)
      (case k4 => k_is)
      (case a5 => k_is)
      (case l5 => k_is)
      (case c5 => k_is)
      (case k5 => k_is)
      (case a6 => k_is)
      (case l6 => k_is)
      (case c6 => k_is)
      (case k6 => k_is)
      (case a7 => k_is)
      (case l7 => k_is)
      (case c7 => k_is)
      (case k7 => k_is)
      (case a8 => k_is)
      (case l8 => k_is)
      (case c8 => k_is)
      (case k8 => k_is)
      (case a9 => k_is)
      (case l9 => k_is)
      (case c9 => k_is)
      (case k9 => k_is)
      (case a10 => k_is)
      (case l10 => k_is)
      (case c10 => k_is)
      (case k10 => k_is)
      (case a11 => k_is)
      (case l11 => k_is)
      (case c11 => k_is)
      (case k11 => k_is)
      (case a12 => k_is)
      (case l12 => k_is)
      (case c12 => k_is)
      (case k12 => k_is)
      (case a13 => k_is)
      (case l13 => k_is)
      (case c13 => k_is)
      (case k13 => k_is)
      (case a14 => k_is)
      (case l14 => k_is)
      (case c14 => k_is)
      (case k14 => k_is)
      (case a15 => k_is)
      (case l15 => k_is)
      (case c15 => k_is)
      (case k15 => k_is)
      (case a16 => k_is)
      (case l16 => k_is)
      (case c16 => k_is)
      (case k16 => k_is)
      (case a17 => k_is)
      (case l17 => k_is)
      (case c17 => k_is)
      (case k17 => k_is)
      (case a18 => k_is)
      (case l18 => k_is)
      (case c18 => k_is)
      (case k18 => k_is)
      (case a19 => k_is)
      (case l19 => k_is)
      (case c19 => k_is)
      (case k19 => k_is)
      (case a20 => k_is)
      (case l20 => k_is)
      (case c20 => k_is)
      (case k20 => k_is)
      (case a21 => k_is)
      (case l21 => k_is)
      (case c21 => k_is)
      (case k21 => k_is)
      (case a22 => k_is)
      (case l22 => k_is)
      (case c22 => k_is)
      (case k22 => k_is)
      (case a23 => k_is)
      (case l23 => k_is)
      (case c23 => k_is)
      (case k23 => k_is)
      (case a24 => k_is)
      (case l24 => k_is)
      (case c24 => k_is)
      (case k24 => k_is)
      (case a25 => k_is)
      (case l25 => k_is)
      (case c25 => k_is)
      (case k25 => k_is)
      (case a26 => k_is)
      (case l26 => k_is)
      (case c26 => k_is)
      (case k26 => k_is)
      (case a27 => k_is)
      (case l27 => k_is)
      (case c27 => k_is)
      (case k27 => k_is)
      (case a28 => k_is)
      (case l28 => k_is)
      (case c28 => k_is)
      (case k28 => k_is)
      (case a29 => k_is)
      (case l29 => k_is)
      (case c29 => k_is)
      (case k29 => k_is)
      (case a30 => k_is)
      (case l30 => k_is)
      (case c30 => k_is)
      (case k30 => k_is)
      (case a31 => k_is)
      (case l31 => k_is)
      (case c31 => k_is)
      (case k31 => k_is)
      (case a32 => k_is)
      (case l32 => k_is)
      (case c32 => k_is)
      (case k32 => k_is)
      (case z0 => k_is)
      (case z1 => k_is)
      (case z2 => k_is)
      (case z3 => k_is)
      (case z4 => k_is)
      (case z5 => k_is)
      (case z6 => k_is)
      (case z7 => k_is)
      (case z8 => k_is)
      (case z9 => k_is)
      (case z10 => k_is)
      (case z11 => k_is)
      (case z12 => k_is)
      (case z13 => k_is)
      (case z14 => k_is)
      (case z15 => k_is)
    obtain ⟨T, f, rfl, hb⟩ := T
    have e0 := hmg.symm.trans T.m_law
    cases e0
    exact ⟨T.d_law, hb, fun base kb nb => K16.law_ok T⟩
  case S => exact fun K H a ns hl hO hS => K16.law_start hl hO hS
  case C => exact fun _ _ _ _ z => z
