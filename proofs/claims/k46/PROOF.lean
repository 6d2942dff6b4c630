import PyProof.Rows.All
import Wide.All
import OpenK.AllK
import Wide.FinOn
import Lean
import PyProof.EqAt
import PyProof.EqKinds
import PyProof.TupleCall
import PyProof.CompFree
import PyProof.CompMap
import KE.LcSums
import PyProof.ZipIter
import PyProof.Draws
import KE.KRevSl
import KE.KListMore
import PyProof.Rows.StrJoin2
import PyProof.Rows.StrFin3
import PyProof.StrOps2
import PyProof.NeData
import PyProof.P3Eq
import PyProof.StrLawsRepr
import PyProof.ReprLen
import PyProof.Rows.IntBool
import PyProof.SliceStr2
import PyProof.P3In
import PyProof.Rows.StrLen
import KE.KStrOpen
import PyProof.FitsInt
import PyProof.Rows.ReprOcc
import PySem.Challenge.RW_gainroads_k46_what_a_sending_is
set_option Elab.async false
set_option linter.all false
set_option maxRecDepth 100000
set_option genSizeOf false
set_option genInjectivity false
namespace L2
inductive Ex2 {α0 α1 : Type} (p : α0 → α1 → Prop) : Prop
  | mk (a0 : α0) (a1 : α1) (h : p a0 a1)
inductive Ex3 {α0 α1 α2 : Type} (p : α0 → α1 → α2 → Prop) : Prop
  | mk (a0 : α0) (a1 : α1) (a2 : α2) (h : p a0 a1 a2)
inductive Ex4 {α0 α1 α2 α3 : Type} (p : α0 → α1 → α2 → α3 → Prop) : Prop
  | mk (a0 : α0) (a1 : α1) (a2 : α2) (a3 : α3) (h : p a0 a1 a2 a3)
inductive Ex5 {α0 α1 α2 α3 α4 : Type} (p : α0 → α1 → α2 → α3 → α4 → Prop) : Prop
  | mk (a0 : α0) (a1 : α1) (a2 : α2) (a3 : α3) (a4 : α4) (h : p a0 a1 a2 a3 a4)
inductive Ex6 {α0 α1 α2 α3 α4 α5 : Type} (p : α0 → α1 → α2 → α3 → α4 → α5 → Prop) : Prop
  | mk (a0 : α0) (a1 : α1) (a2 : α2) (a3 : α3) (a4 : α4) (a5 : α5) (h : p a0 a1 a2 a3 a4 a5)
inductive Ex7 {α0 α1 α2 α3 α4 α5 α6 : Type} (p : α0 → α1 → α2 → α3 → α4 → α5 → α6 → Prop) : Prop
  | mk (a0 : α0) (a1 : α1) (a2 : α2) (a3 : α3) (a4 : α4) (a5 : α5) (a6 : α6) (h : p a0 a1 a2 a3 a4 a5 a6)
inductive Ex8 {α0 α1 α2 α3 α4 α5 α6 α7 : Type} (p : α0 → α1 → α2 → α3 → α4 → α5 → α6 → α7 → Prop) : Prop
  | mk (a0 : α0) (a1 : α1) (a2 : α2) (a3 : α3) (a4 : α4) (a5 : α5) (a6 : α6) (a7 : α7) (h : p a0 a1 a2 a3 a4 a5 a6 a7)
inductive Ex9 {α0 α1 α2 α3 α4 α5 α6 α7 α8 : Type} (p : α0 → α1 → α2 → α3 → α4 → α5 → α6 → α7 → α8 → Prop) : Prop
  | mk (a0 : α0) (a1 : α1) (a2 : α2) (a3 : α3) (a4 : α4) (a5 : α5) (a6 : α6) (a7 : α7) (a8 : α8) (h : p a0 a1 a2 a3 a4 a5 a6 a7 a8)
inductive Ex10 {α0 α1 α2 α3 α4 α5 α6 α7 α8 α9 : Type} (p : α0 → α1 → α2 → α3 → α4 → α5 → α6 → α7 → α8 → α9 → Prop) : Prop
  | mk (a0 : α0) (a1 : α1) (a2 : α2) (a3 : α3) (a4 : α4) (a5 : α5) (a6 : α6) (a7 : α7) (a8 : α8) (a9 : α9) (h : p a0 a1 a2 a3 a4 a5 a6 a7 a8 a9)
inductive Ex11 {α0 α1 α2 α3 α4 α5 α6 α7 α8 α9 α10 : Type} (p : α0 → α1 → α2 → α3 → α4 → α5 → α6 → α7 → α8 → α9 → α10 → Prop) : Prop
  | mk (a0 : α0) (a1 : α1) (a2 : α2) (a3 : α3) (a4 : α4) (a5 : α5) (a6 : α6) (a7 : α7) (a8 : α8) (a9 : α9) (a10 : α10) (h : p a0 a1 a2 a3 a4 a5 a6 a7 a8 a9 a10)
end L2
set_option genSizeOf true
set_option genInjectivity true
local macro_rules | `(tactic| trivial) => `(tactic| first | lia | omega)
namespace L2
open PySem PySem.Spec PyProof.Rows
abbrev Key := Sum Int Str
def keyIs : Key → Value → Bool
  | .inl k, v => Value.isInt k v
  | .inr x, v => Value.isStrOf x v
def keyH (w : World) : Key → Int
  | .inl k => hashInt k
  | .inr x => hashStr w x
theorem keyIs_shape : ∀ {k : Key} {v : Value}, keyIs k v = true → (Ex2 fun i t => k = Sum.inl i ∧ v = Value.int i t) ∨ (Ex2 fun x t => k = Sum.inr x ∧ v = Value.str x t)
  | .inl i, v, h => by
    obtain ⟨t, e⟩ := Value.isInt_shape (k := i) (v := v) h
    exact .inl ⟨i, t, rfl, e⟩
  | .inr x, v, h => by
    obtain ⟨t, e⟩ := Value.isStrOf_shape (x := x) (v := v) h
    exact .inr ⟨x, t, rfl, e⟩
theorem key_ll (a b : Int) : decide ((Sum.inl a : Key) = Sum.inl b) = (a == b) := by
  by_cases e : a = b
  · subst e; simp
  · have h : ¬ (Sum.inl a : Key) = Sum.inl b := fun q => e (Sum.inl.inj q)
    rw [decide_eq_false h]
    exact (beq_eq_false_iff_ne.mpr e).symm
theorem key_rr (a b : Str) : decide ((Sum.inr a : Key) = Sum.inr b) = decide (a = b) := by
  by_cases e : a = b
  · subst e; simp
  · have h : ¬ (Sum.inr a : Key) = Sum.inr b := fun q => e (Sum.inr.inj q)
    rw [decide_eq_false h, decide_eq_false e]
theorem key_lr (a : Int) (b : Str) : decide ((Sum.inl a : Key) = Sum.inr b) = false := decide_eq_false (fun q => nomatch q)
theorem key_rl (a : Str) (b : Int) : decide ((Sum.inr a : Key) = Sum.inl b) = false := decide_eq_false (fun q => nomatch q)
def mixKind (prog : Program) (w : World) : PySem.KeyKind prog w Key where
  is := keyIs
  hash := keyH w
  inj := fun v a b ha hb => by
    rcases keyIs_shape ha with ⟨i, t, rfl, rfl⟩ | ⟨x, t, rfl, rfl⟩
    · rcases keyIs_shape hb with ⟨j, u, rfl, e⟩ | ⟨y, u, rfl, e⟩
      · injection e with e1 _; rw [e1]
      · exact nomatch e
    · rcases keyIs_shape hb with ⟨j, u, rfl, e⟩ | ⟨y, u, rfl, e⟩
      · exact nomatch e
      · injection e with e1 _; rw [e1]
  byValue := fun k v h => by
    rcases keyIs_shape h with ⟨i, t, rfl, rfl⟩ | ⟨x, t, rfl, rfl⟩ <;> rfl
  pyHash := fun hv h => by
    rcases keyIs_shape hv with ⟨i, t, rfl, rfl⟩ | ⟨x, t, rfl, rfl⟩
    · exact wpAny_pyHash_int h
    · exact wpAny_pyHash_str h
  eqBool := fun hu hv h => by
    rcases keyIs_shape hu with ⟨i, t, rfl, rfl⟩ | ⟨x, t, rfl, rfl⟩
    · rcases keyIs_shape hv with ⟨j, u, rfl, rfl⟩ | ⟨y, u, rfl, rfl⟩
      · rw [key_ll] at h; exact wpAny_eqBool_int h
      · rw [key_lr] at h; exact SeqAt.EqAt.int_str i t y u _ _ _ _ h
    · rcases keyIs_shape hv with ⟨j, u, rfl, rfl⟩ | ⟨y, u, rfl, rfl⟩
      · rw [key_rl] at h; exact SeqAt.EqAt.str_int x t j u _ _ _ _ h
      · rw [key_rr] at h; exact wpAny_eqBool_str h
  «strs» := fun k x t v h => by
    rcases keyIs_shape h with ⟨i, u, rfl, e⟩ | ⟨y, u, rfl, e⟩
    · exact nomatch e
    · injection e with e1 _
      subst e1
      cases v <;> rfl
end L2
namespace L2
open PySem PySem.Spec PyProof.Rows
inductive V where
  | non | bl (b : Bool) | int (i : Int) | str (x : Str) | byt (b : Array UInt8) | flt (b : UInt64) | ref (a : Addr) | ty (n : String)
  deriving DecidableEq
def RelV : V → Value → Prop
  | .non, u => u = Value.none
  | .bl b, u => u = Value.bool b
  | .int i, u => ∃ t, u = Value.int i t
  | .str x, u => ∃ t, u = Value.str x t
  | .byt b, u => ∃ t, u = Value.bytes b t
  | .flt b, u => ∃ t, u = Value.float b t
  | .ref a, u => u = Value.ref a
  | .ty n, u => u = Value.type n
abbrev Vals : List V → List Value → Prop := Paired RelV
theorem Vals.length {xs : List V} {us : List Value} (r : Vals xs us) : xs.length = us.length := Paired.length r
theorem Vals.get : ∀ {xs : List V} {us : List Value} {i : Nat} {x : V}, Vals xs us → xs[i]? = some x → ∃ u, us[i]? = some u ∧ RelV x u
  | _, _, _, _, .nil, e => by simp at e
  | _, _, 0, _, .cons r _, e => by simp at e; subst e; exact ⟨_, rfl, r⟩
  | _, _, i + 1, x, .cons _ t, e => by
    obtain ⟨u, h1, h2⟩ := Vals.get (i := i) (x := x) t (by simpa using e)
    exact ⟨u, by simpa using h1, h2⟩
theorem Vals.set {x : V} {u : Value} (r : RelV x u) : ∀ {xs : List V} {us : List Value} (i : Nat), Vals xs us → Vals (xs.set i x) (us.set i u)
  | _, _, _, .nil => .nil
  | _, _, 0, .cons _ t => .cons r t
  | _, _, i + 1, .cons q t => .cons q (Vals.set r i t)
theorem Vals.append : ∀ {xs ys : List V} {us ws : List Value}, Vals xs us → Vals ys ws → Vals (xs ++ ys) (us ++ ws)
  | _, _, _, _, .nil, s => s
  | _, _, _, _, .cons r t, s => .cons r (Vals.append t s)
theorem Vals.take : ∀ {xs : List V} {us : List Value} (n : Nat), Vals xs us → Vals (xs.take n) (us.take n)
  | _, _, 0, _ => .nil
  | _, _, _ + 1, .nil => .nil
  | _, _, n + 1, .cons r t => .cons r (Vals.take n t)
theorem Vals.drop : ∀ {xs : List V} {us : List Value} (n : Nat), Vals xs us → Vals (xs.drop n) (us.drop n)
  | _, _, 0, r => r
  | _, _, _ + 1, .nil => .nil
  | _, _, n + 1, .cons _ t => Vals.drop n t
def RelO : Option V → Option Value → Prop
  | some v, some u => RelV v u
  | none, none => True
  | _, _ => False
def KV {κ : Type} : List (κ × V) → List (κ × Value) → Prop := Paired fun (p : κ × V) (q : κ × Value) => p.1 = q.1 ∧ RelV p.2 q.2
def kV : Key → V
  | .inl i => .int i
  | .inr x => .str x
inductive HO where
    | lst (xs : List V)
    | tup (xs : List V)
    | dK (kvs : List (Key × V)) | dT (kvs : List (List Key × V))
    | set (S : Int → Bool) (n : Nat)
    | ins (C dx : Addr) (fs : List (Str × V))
    | own (x : Addr)
    | xd (fs : List (Str × V))
    | met (f x : Addr)
    | rng (lo hi : Int)
    | frz (o : Obj) (u : HO)
    | tbl (ps : Array Value)
    | ext (φ : Heap → Prop)
abbrev Hp := Addr → Option HO
def upd (H : Hp) (a : Addr) (o : HO) : Hp := fun b => if b = a then some o else H b
theorem upd_same {H : Hp} {a : Addr} {o : HO} : upd H a o a = some o := by unfold upd; rw [if_pos rfl]
theorem upd_ne {H : Hp} {a b : Addr} {o : HO} (h : b ≠ a) : upd H a o b = H b := by unfold upd; rw [if_neg h]
theorem ne_of {H : Hp} {a b : Addr} {o u : HO} (h : H a = some o) (h' : H b = some u) (d : o ≠ u) : a ≠ b := by
  intro e; subst e; rw [h] at h'; exact d (Option.some.inj h')
theorem ne_of_none {H : Hp} {a b : Addr} {o : HO} (h : H a = some o) (h' : H b = none) : a ≠ b := by
  intro e; subst e; rw [h] at h'; cases h'
section
variable (P : Program) (w : World)
def ObjOk (H : Hp) (h : Heap) (a : Addr) : HO → Prop
  | .lst xs => xs.length ≤ sizeLine ∧ Ex2 fun (its : List Value) (n : Nat) => Vals xs its ∧ h.get? a = some { cls := .type "list", data := .seq its.toArray n }
  | .tup xs => xs.length ≤ sizeLine ∧ ∃ its : List Value, Vals xs its ∧ IsTup h a its.toArray ∧ ∃ o, h.get? a = some o ∧ o.dict = none
  | .dK kvs => kvs.length ≤ sizeLine ∧ (a == sysModules) = false ∧ ∃ vs, KV kvs vs ∧ h.DictOf (mixKind P w) a vs
  | .dT kvs => kvs.length ≤ sizeLine ∧ (a == sysModules) = false ∧ ∃ xs : List (List Key × Addr × Value),
      Paired (fun (p : List Key × V) (q : List Key × Addr × Value) => p.1 = q.1 ∧ H q.2.1 = some (.tup (p.1.map kV)) ∧ RelV p.2 q.2.2) kvs xs ∧
      Ex3 fun o es ep => h.get? a = some o ∧ o.ExactDict ∧ o.data = .dict es ep ∧ es.toList = xs.map (entryOfKey (tupleKind (mixKind P w))) ∧ (xs.map (·.1)).Nodup
  | .set S n => h.SetOf (intKind P w) a S n
  | .ins C dx fs => H dx = some (.own a) ∧ fs.length ≤ 1000 ∧ dx ≠ a ∧ h.get? a = some (PySem.W.instObj C dx) ∧
      ∃ mA, h.Ns1 dx mA ∧ (∀ f, RelO (fs.lookup f) (mA f)) ∧ PySem.Within mA (fs.map (·.1))
  | .own _ => ∃ o, h.get? a = some o
  | .xd fs => ∃ mA, h.Ns1 a mA ∧ ∀ f, RelO (fs.lookup f) (mA f)
  | .rng lo hi => Ex3 fun t u v => h.get? a = some { cls := .type "range", data := .fields #[.int lo t, .int hi u, .int 1 v] }
  | .frz o u => h.get? a = some o ∧ ObjOk H h a u
  | .tbl ps => h.get? a = some { cls := .none, data := .fields ps }
  | .met f x => h.get? a = some (PySem.W.methodObj (.ref f) (.ref x))
  | .ext φ => φ h ∧ (∃ o, h.get? a = some o) ∧ ∀ h1 h2 : Heap, φ h1 → (∀ o, h1.get? a = some o → h2.get? a = some o) → φ h2
def HOk (H : Hp) (h : Heap) : Prop := ∀ a o, H a = some o → ObjOk P w H h a o
end
section
variable {P : Program} {w : World} {H H' : Hp} {h h' : Heap} {a : Addr} {o : HO}
theorem ObjOk.lt (x : ObjOk P w H h a o) : a < h.objs.size := by
  cases o with
  | lst xs => obtain ⟨_, _, _, _, e⟩ := x; exact Heap.lt_size e
  | tup xs => obtain ⟨_, _, _, p, _⟩ := x; exact p.lt
  | dK kvs => obtain ⟨_, _, _, _, o, _, _, e, _⟩ := x; exact Heap.lt_size e
  | dT kvs => obtain ⟨_, _, _, _, o, _, _, e, _⟩ := x; exact Heap.lt_size e
  | set S n => obtain ⟨o, _, _, _, e, _⟩ := x; exact Heap.lt_size e
  | ins C dx fs => obtain ⟨_, _, _, e, _⟩ := x; exact Heap.lt_size e
  | own y => obtain ⟨_, e⟩ := x; exact Heap.lt_size e
  | xd fs => obtain ⟨_, ⟨_, _, _, e, _⟩, _⟩ := x; exact Heap.lt_size e
  | rng lo hi => obtain ⟨_, _, _, e⟩ := x; exact Heap.lt_size e
  | frz ob u => obtain ⟨e, _⟩ := x; exact Heap.lt_size e
  | tbl ps => exact Heap.lt_size (show h.get? a = some _ from x)
  | met f y => exact Heap.lt_size (show h.get? a = some _ from x)
  | ext φ => obtain ⟨_, ⟨_, e⟩, _⟩ := x; exact Heap.lt_size e
theorem Paired.mapP {α β : Type} {F G : α → β → Prop} : ∀ {l₁ : List α} {l₂ : List β}, Paired F l₁ l₂ → (∀ a b, F a b → G a b) → Paired G l₁ l₂
  | _, _, .nil, _ => .nil
  | _, _, .cons r t, f => .cons (f _ _ r) (Paired.mapP t f)
theorem ObjOk.stay (x : ObjOk P w H h a o) (k : ∀ b u, (b = a ∨ H b = some (.own a)) → h.get? b = some u → h'.get? b = some u)
    (ho : ∀ b, H b = some (.own a) → H' b = some (.own a)) (ht : ∀ b xs, H b = some (.tup xs) → H' b = some (.tup xs)) : ObjOk P w H' h' a o := by
  induction o with
  | lst xs => obtain ⟨z, its, n, r, e⟩ := x; exact ⟨z, its, n, r, k _ _ (.inl rfl) e⟩
  | tup xs => obtain ⟨z, its, r, ⟨ob, e, c⟩, od, e', c'⟩ := x; exact ⟨z, its, r, ⟨ob, k _ _ (.inl rfl) e, c⟩, od, k _ _ (.inl rfl) e', c'⟩
  | dK kvs => obtain ⟨z, y, vs, r, ob, es, ep, e, c⟩ := x; exact ⟨z, y, vs, r, ob, es, ep, k _ _ (.inl rfl) e, c⟩
  | dT kvs =>
    obtain ⟨z, y, xs, r, ob, es, ep, e, c⟩ := x
    exact ⟨z, y, xs, Paired.mapP r fun p q z => ⟨z.1, ht _ _ z.2.1, z.2.2⟩, ob, es, ep, k _ _ (.inl rfl) e, c⟩
  | set S n => obtain ⟨ob, es, ep, t, e, c⟩ := x; exact ⟨ob, es, ep, t, k _ _ (.inl rfl) e, c⟩
  | ins C dx fs =>
    obtain ⟨d, z, ne, e, mA, ⟨od, es, ep, e2, c⟩, r⟩ := x
    exact ⟨ho _ d, z, ne, k _ _ (.inl rfl) e, mA, ⟨od, es, ep, k _ _ (.inr d) e2, c⟩, r⟩
  | own y => obtain ⟨ob, e⟩ := x; exact ⟨ob, k _ _ (.inl rfl) e⟩
  | xd fs => obtain ⟨mA, ⟨od, es, ep, e, c⟩, r⟩ := x; exact ⟨mA, ⟨od, es, ep, k _ _ (.inl rfl) e, c⟩, r⟩
  | rng lo hi => obtain ⟨t, u, v, e⟩ := x; exact ⟨t, u, v, k _ _ (.inl rfl) e⟩
  | frz ob u ih => obtain ⟨e, q⟩ := x; exact ⟨k _ _ (.inl rfl) e, ih q⟩
  | tbl ps =>
    have e : h.get? a = some { cls := .none, data := .fields ps } := x
    show h'.get? a = some { cls := .none, data := .fields ps }
    exact k a _ (.inl rfl) e
  | met f y =>
    have e : h.get? a = some (PySem.W.methodObj (.ref f) (.ref y)) := x
    show h'.get? a = some (PySem.W.methodObj (.ref f) (.ref y))
    exact k a _ (.inl rfl) e
  | ext φ => obtain ⟨p, ⟨o, e⟩, st⟩ := x; exact ⟨st _ _ p fun o q => k _ _ (.inl rfl) q, ⟨o, k _ _ (.inl rfl) e⟩, st⟩
theorem HOk.lt (x : HOk P w H h) (e : H a = some o) : a < h.objs.size := (x a o e).lt
theorem HOk.fresh (x : HOk P w H h) (e : h.objs.size ≤ a) : H a = none := by
  cases q : H a with
  | none => rfl
  | some u => exact absurd (Nat.lt_of_lt_of_le (x.lt q) e) (Nat.lt_irrefl _)
theorem HOk.kept (x : HOk P w H h) (k : ∀ b u, h.get? b = some u → h'.get? b = some u) : HOk P w H h' := fun a o e =>
  (x a o e).stay (fun b u _ q => k b u q) (fun _ q => q) fun _ _ q => q
theorem HOk.laid (x : HOk P w H h) (k : ∀ b u, h.get? b = some u → h'.get? b = some u) (hp : h.objs.size ≤ a) (new : ObjOk P w (upd H a o) h' a o) : HOk P w (upd H a o) h' := fun b u e => by
  have hn := x.fresh hp
  by_cases hb : b = a
  · subst hb; rw [upd_same] at e; cases e; exact new
  · rw [upd_ne hb] at e
    exact (x b u e).stay (fun c v _ q => k c v q) (fun c q => by rw [upd_ne (ne_of_none q hn)]; exact q) fun c xs q => by rw [upd_ne (ne_of_none q hn)]; exact q
end
def Rd (H : Hp) (a : Addr) (u : HO) : Prop := H a = some u ∨ ∃ o, H a = some (.frz o u)
theorem Rd.ok {P : Program} {w : World} {H : Hp} {h : Heap} {a : Addr} {u : HO} (r : Rd H a u) (x : HOk P w H h) : ObjOk P w H h a u := by
  rcases r with r | ⟨o, r⟩
  · exact x a u r
  · obtain ⟨_, q⟩ := x a _ r
    exact q
def Mut : Option HO → Prop
  | some (.lst _) => True
  | some (.dK _) => True
  | some (.dT _) => True
  | some (.set _ _) => True
  | some (.ins _ _ _) => True
  | some (.ext _) => True
  | _ => False
section
variable {P : Program} {w : World} {H : Hp} {h h' : Heap} {x e : Addr} {o' : HO}
theorem HOk.write (ok : HOk P w H h) (mu : Mut (H x)) (he : e = x ∨ H e = some (.own x)) (k : ∀ b u, b ≠ e → h.get? b = some u → h'.get? b = some u) (heo : ∃ u, h'.get? e = some u)
    (new : ObjOk P w (upd H x o') h' x o') : HOk P w (upd H x o') h' := fun b u q => by
  have nown : ∀ c y, H c = some (.own y) → c ≠ x := fun c y r z => by subst z; rw [r] at mu; exact mu
  have ntup : ∀ c xs, H c = some (.tup xs) → c ≠ x := fun c xs r z => by subst z; rw [r] at mu; exact mu
  by_cases hb : b = x
  · subst hb; rw [upd_same] at q; cases q; exact new
  · rw [upd_ne hb] at q
    by_cases hbe : b = e
    · have q' : H b = some (.own x) := by
        rcases he with z | z
        · exact absurd (hbe.trans z) hb
        · rw [hbe]; exact z
      rw [q] at q'; cases q'
      obtain ⟨v, hv⟩ := heo
      exact ⟨v, by rw [hbe]; exact hv⟩
    · refine (ok b u q).stay (fun c v hc r => k c v ?_ r) (fun c r => by rw [upd_ne (nown c b r)]; exact r) fun c xs r => by rw [upd_ne (ntup c xs r)]; exact r
      rcases hc with rfl | hc
      · exact hbe
      · rintro rfl
        rcases he with z | z
        · exact nown c b hc z
        · rw [hc] at z; cases z; exact hb rfl
end
structure Un (fs ex : List Addr) (H H' : Hp) (h h' : Heap) : Prop where
  keep : ∀ b o, h.get? b = some o → H b = none → b ∉ fs → b ∉ ex → h'.get? b = some o
  slot : ∀ b o, h.get? b = some o → H b = none → b ∈ fs → b ∉ ex → ∃ sl, h'.get? b = some { o with slots := sl }
  free : ∀ b o, h.get? b = some o → H b = none → b ∉ ex → H' b = none
  there : ∀ b o, h.get? b = some o → b ∉ ex → ∃ o', h'.get? b = some o'
  tups : ∀ b xs, H b = some (.tup xs) → H' b = some (.tup xs)
  frzs : ∀ b o u, H b = some (.frz o u) → H' b = some (.frz o u)
  tbls : ∀ b ps, H b = some (.tbl ps) → ∃ more, H' b = some (.tbl (ps ++ more))
section
variable {fs fs' ex ex' : List Addr} {H H1 H2 : Hp} {h h1 h2 h' : Heap} {a x e : Addr} {o : HO}
theorem Un.any (u : Un fs ex H H1 h h1) {b : Addr} {ob : Obj} (q : h.get? b = some ob) (n : H b = none) (hx : b ∉ ex) : ∃ sl, h1.get? b = some { ob with slots := sl } := by
  by_cases hb : b ∈ fs
  · exact u.slot b ob q n hb hx
  · exact ⟨ob.slots, u.keep b ob q n hb hx⟩
theorem Un.kept (k : ∀ b u, h.get? b = some u → h'.get? b = some u) : Un fs ex H H h h' :=
  ⟨fun b ob q _ _ _ => k b ob q, fun b ob q _ _ _ => ⟨ob.slots, k b ob q⟩, fun _ _ _ n _ => n, fun b ob q _ => ⟨ob, k b ob q⟩, fun _ _ q => q, fun _ _ _ q => q, fun _ ps q => ⟨#[], by rw [q]; simp⟩⟩
theorem Un.refl : Un fs ex H H h h := Un.kept fun _ _ q => q
theorem Un.laid (k : ∀ b u, h.get? b = some u → h'.get? b = some u) (hp : h.objs.size ≤ a) (hn : H a = none) : Un fs ex H (upd H a o) h h' where
  keep := fun b u q _ _ _ => k b u q
  slot := fun b u q _ _ _ => ⟨u.slots, k b u q⟩
  free := fun b u q n _ => by rw [upd_ne (Nat.ne_of_lt (Nat.lt_of_lt_of_le (Heap.lt_size q) hp))]; exact n
  there := fun b u q _ => ⟨u, k b u q⟩
  tups := fun b xs q => by rw [upd_ne (ne_of_none q hn)]; exact q
  frzs := fun b u xs q => by rw [upd_ne (ne_of_none q hn)]; exact q
  tbls := fun b ps q => ⟨#[], by rw [upd_ne (ne_of_none q hn), q]; simp⟩
theorem Un.write (mu : Mut (H x)) (he : e = x ∨ H e = some (.own x)) (k : ∀ b u, b ≠ e → h.get? b = some u → h'.get? b = some u) (heo : ∃ u, h'.get? e = some u) : Un fs ex H (upd H x o) h h' := by
  have hx : ∀ b, H b = none → b ≠ x := fun b n z => by subst z; rw [n] at mu; exact mu
  have hb : ∀ b, H b = none → b ≠ e := fun b n z => by
    subst z
    rcases he with r | r
    · exact hx b n r
    · rw [n] at r; cases r
  have hm : ∀ b u, H b = some u → ¬ Mut (some u) → b ≠ x := fun b u q nm z => by subst z; rw [q] at mu; exact nm mu
  refine ⟨fun b u q n _ _ => k b u (hb b n) q, fun b u q n _ _ => ⟨u.slots, k b u (hb b n) q⟩, fun b u q n _ => by rw [upd_ne (hx b n)]; exact n, fun b u q _ => ?_,
    fun b xs q => by rw [upd_ne (hm b _ q fun z => z)]; exact q, fun b u xs q => by rw [upd_ne (hm b _ q fun z => z)]; exact q, fun b ps q => ⟨#[], by rw [upd_ne (hm b _ q fun z => z), q]; simp⟩⟩
  by_cases hbe : b = e
  · subst hbe; exact heo
  · exact ⟨u, k b u hbe q⟩
end
def trk (h : Heap) (H : Hp) : List Addr := (List.range h.objs.size).filter fun a => (H a).isSome
def hidT (h : Heap) (H : Hp) : Heap := PySem.W.hideAll h (trk h H)
theorem hidT_size (h : Heap) (H : Hp) : (hidT h H).objs.size = h.objs.size := PySem.W.hideAll_size _ _
theorem hidT_get {h : Heap} {H : Hp} {b : Addr} {o : Obj} (e : h.get? b = some o) (n : H b = none) : (hidT h H).get? b = some o :=
  PySem.W.hideAll_get _ e fun hm => by
    have q : (H b).isSome = true := (List.mem_filter.mp hm).2
    rw [n] at q; simp at q
theorem of_hidT {h : Heap} {H : Hp} {b : Addr} {o : Obj} (e : (hidT h H).get? b = some o) : h.get? b = some o ∧ H b = none := by
  have e' : h.get? b = some o := PySem.W.of_hideAll (trk h H) e
  refine ⟨e', ?_⟩
  cases q : H b with
  | none => rfl
  | some x =>
    have hm : b ∈ trk h H := List.mem_filter.mpr ⟨List.mem_range.mpr (Heap.lt_size e'), by simp [q]⟩
    have z : (hidT h H).get? b = none := PySem.W.hideAll_none (trk h H) hm
    rw [z] at e; cases e
end L2
namespace L2
open PySem PySem.Spec PyProof.Rows
structure Mod (K : PySem.W.Frag) (mg : Str → Option Value) (base : Heap) : Prop where
  kin : K.In base
  glob : base.Ns mainGlobals mg
  blt : ∃ mb, base.Ns builtinsNs mb ∧ ∀ x : Str, x ≠ "__name__" → mb x = bootBuiltins x
  nolimit : base.NoLimit
structure Cx where
  prog : Program
  w : World
  K : PySem.W.Frag
  mg : Str → Option Value
  base : Heap
  A : Around
  N : List Str
  s₀ : Shared
  H₀ : Hp
  env : Env
  outer : List Env
  stack : List Env
  ex : List Addr
  fn : Str → Bool
  calm : Bool
  pn : List (Addr × Obj)
  xe : Value → Shared → Prop
def frs (l : List Env) : List Addr := l.filterMap (·.frame)
abbrev Cx.fs (X : Cx) : List Addr := frs X.outer
def Vis (sc : Scope) (x : Str) : Prop := sc.names.lookup x = some .local ∨ sc.names.lookup x = some .cell ∨ sc.names.lookup x = some .free
def Loc (sc : Scope) (x : Str) : Prop := sc.names.lookup x = some .local ∨ sc.names.lookup x = some .cell
def Look (env : Env) (h : Heap) (m : Str → Option Value) (x : Str) (u : Value) : Prop :=
  (env.kindOf x = some .local ∧ m x = some u) ∨ ((env.kindOf x = some .cell ∨ env.kindOf x = some .free) ∧ ∃ c, env.cells.lookup x = some c ∧ h.IsCell c (some u))
structure Cx.Ok (X : Cx) : Prop where
  mod : Mod X.K X.mg X.base
  kind : X.env.scope.kind = .function
  glob : X.env.globals = mainGlobals
  blt : X.env.builtins = builtinsNs
  above : X.s₀.heap.objs.size ≤ X.env.locals
  inj : ∀ x y c, X.env.cells.lookup x = some c → X.env.cells.lookup y = some c → x = y
  has : ∀ x, (X.env.kindOf x = some .cell ∨ X.env.kindOf x = some .free) → ∃ c, X.env.cells.lookup x = some c
  cab : ∀ x c, X.fn x = true → X.env.cells.lookup x = some c → X.s₀.heap.objs.size ≤ c
  hd : X.calm = true → X.A.handled = none
  frames : X.A.frames = some X.stack
  stk : X.stack = X.outer ∨ (X.stack = X.env :: X.outer ∧ X.env.frame = some X.env.locals)
  exf : ∀ b ∈ X.ex, b ≠ X.env.locals ∧ ∀ x c, X.env.cells.lookup x = some c → c ≠ b
  bs : ∀ b o, X.base.get? b = some o → X.s₀.heap.get? b = some o ∧ X.H₀ b = none
  bsz : X.base.objs.size ≤ X.s₀.heap.objs.size
  noex : ∀ b o, X.base.get? b = some o → b ∉ X.ex
  exfs : ∀ b ∈ X.ex, b ∉ X.fs
  funs : X.s₀.heap.FunFrames X.base X.outer
  frf : ∀ b ∈ X.fs, X.H₀ b = none
structure Inv (X : Cx) (pins : List (Addr × Obj)) (σ : List (Option V)) (H : Hp) (s : Shared) : Prop where
  ok : X.Ok
  os : s.os = X.s₀.os
  bare : AllBare s.gens
  base : Un X.fs X.ex X.H₀ H X.s₀.heap s.heap
  loc : ∃ m, s.heap.Ns X.env.locals m ∧ ∀ (i : Nat) (x : Str) (v : V), X.N[i]? = some x → σ[i]? = some (some v) → Vis X.env.scope x → ∃ u, RelV v u ∧ Look X.env s.heap m x u
  cell : ∀ x c, X.env.cells.lookup x = some c → ∃ v, s.heap.IsCell c v
  free : H X.env.locals = none
  freeC : ∀ x c, X.env.cells.lookup x = some c → H c = none
  pin : ∀ p ∈ X.pn ++ pins, s.heap.get? p.1 = some p.2 ∧ H p.1 = none ∧ p.1 ≠ X.env.locals ∧ p.1 ∉ X.fs ∧ ∀ v, p.2.data ≠ .cell v
  hok : HOk X.prog X.w H s.heap
  len : σ.length = X.N.length
section
variable {X : Cx} {pins : List (Addr × Obj)} {σ : List (Option V)} {H H' : Hp} {s : Shared} {h' : Heap}
theorem Cx.Ok.nofr (ok : X.Ok) {b : Addr} {o : Obj} (e : X.base.get? b = some o) : b ∉ X.fs := fun hb => by
  have := (ok.funs.mem hb).1
  rw [e] at this; cases this
theorem Inv.bs (I : Inv X pins σ H s) : ∀ b o, X.base.get? b = some o → s.heap.get? b = some o ∧ H b = none := fun b o e =>
  ⟨I.base.keep b o (I.ok.bs b o e).1 (I.ok.bs b o e).2 (I.ok.nofr e) (I.ok.noex b o e), I.base.free b o (I.ok.bs b o e).1 (I.ok.bs b o e).2 (I.ok.noex b o e)⟩
theorem Inv.bk (I : Inv X pins σ H s) : ∀ b o, X.base.get? b = some o → s.heap.get? b = some o := fun b o e => (I.bs b o e).1
theorem Inv.mod (I : Inv X pins σ H s) : Mod X.K X.mg X.base := I.ok.mod
theorem Inv.kIn (I : Inv X pins σ H s) : X.K.In s.heap := I.ok.mod.kin.keeps I.bk
theorem Inv.lt (I : Inv X pins σ H s) : X.env.locals < s.heap.objs.size := let ⟨_, hn, _⟩ := I.loc; hn.lt
theorem Inv.sz (I : Inv X pins σ H s) : X.s₀.heap.objs.size ≤ s.heap.objs.size := Nat.le_trans I.ok.above (Nat.le_of_lt I.lt)
theorem Inv.nofs (I : Inv X pins σ H s) {a : Addr} (h : s.heap.objs.size ≤ a) : a ∉ X.fs := fun hb => by
  obtain ⟨_, o, ho, _⟩ := I.ok.funs.mem hb
  exact absurd (Nat.lt_of_lt_of_le (Heap.lt_size ho) (Nat.le_trans I.sz h)) (Nat.lt_irrefl _)
theorem Inv.cne (I : Inv X pins σ H s) : ∀ x c, X.env.cells.lookup x = some c → c ≠ X.env.locals := fun x c e z => by
  obtain ⟨v, o, ho, hd⟩ := I.cell x c e
  obtain ⟨m, ⟨o', es, ep, ho', hd', _⟩, _⟩ := I.loc
  rw [z, ho'] at ho; cases ho; rw [hd'] at hd; cases hd
theorem Inv.funs (I : Inv X pins σ H s) : s.heap.FunFrames X.base X.outer := by
  have all : ∀ (l : List Env), (∀ b ∈ frs l, b ∈ X.fs) → X.s₀.heap.FunFrames X.base l → s.heap.FunFrames X.base l := by
    intro l
    induction l with
    | nil => intro _ _; trivial
    | cons env r ih =>
      intro hs hl
      obtain ⟨hk, ⟨L, o, hf, hn, ho, hd⟩, hr⟩ := hl
      have hL : L ∈ X.fs := hs L (by unfold frs; rw [List.filterMap_cons, hf]; exact List.mem_cons_self)
      obtain ⟨sl, e⟩ := I.base.slot L o ho (I.ok.frf L hL) hL fun z => I.ok.exfs L z hL
      exact ⟨hk, ⟨L, _, hf, hn, e, hd⟩, ih (fun b hb => hs b (by unfold frs; rw [List.filterMap_cons, hf]; exact List.mem_cons_of_mem _ hb)) hr⟩
  exact all X.outer (fun _ hb => hb) I.ok.funs
theorem Inv.stack (I : Inv X pins σ H s) : s.heap.FunFrames X.base X.stack := by
  rcases I.ok.stk with e | ⟨e, hf⟩
  · rw [e]; exact I.funs
  · rw [e]
    obtain ⟨m, hn, _⟩ := I.loc
    refine .cons (by rw [I.ok.kind]; decide) hf hn ?_ I.funs
    exact Heap.get?_none_of_le (Nat.le_trans I.ok.bsz I.ok.above)
theorem Inv.stkSub (I : Inv X pins σ H s) : ∀ b ∈ frs X.stack, b ∈ X.env.locals :: X.fs := fun b hb => by
  rcases I.ok.stk with e | ⟨e, hf⟩
  · rw [e] at hb; exact List.mem_cons_of_mem _ hb
  · rw [e] at hb
    unfold frs at hb
    rw [List.filterMap_cons, hf] at hb
    exact hb
theorem Inv.stkFree (I : Inv X pins σ H s) : ∀ b ∈ frs X.stack, H b = none := fun b hb => by
  rcases List.mem_cons.mp (I.stkSub b hb) with e | hb
  · rw [e]; exact I.free
  · obtain ⟨_, o, ho, _⟩ := I.ok.funs.mem hb
    exact I.base.free b o ho (I.ok.frf b hb) fun z => I.ok.exfs b z hb
theorem Inv.step {g' : Array GenState} {t' : Nat} {d' : Drawn} {ch : List Addr} (I : Inv X pins σ H s)
    (hch : ∀ b ∈ ch, (b ∈ X.ex ∨ X.s₀.heap.objs.size ≤ b) ∧ b ≠ X.env.locals ∧ (∀ x c, X.env.cells.lookup x = some c → c ≠ b) ∧ ∀ p ∈ X.pn ++ pins, p.1 ≠ b)
    (keep : ∀ b o, b ≠ X.env.locals → b ∉ X.fs → b ∉ ch → s.heap.get? b = some o → H b = none → h'.get? b = some o)
    (slot : ∀ b o, b ≠ X.env.locals → b ∈ X.fs → b ∉ ch → s.heap.get? b = some o → H b = none → ∃ sl, h'.get? b = some { o with slots := sl }) (free : ∀ b o, b ∉ ch → s.heap.get? b = some o → H b = none → H' b = none)
    (there : ∀ b o, b ∉ ch → s.heap.get? b = some o → ∃ o', h'.get? b = some o')
    (tups : ∀ b xs, H b = some (.tup xs) → H' b = some (.tup xs)) (frzs : ∀ b o u, H b = some (.frz o u) → H' b = some (.frz o u)) (tbls : ∀ b ps, H b = some (.tbl ps) → ∃ more, H' b = some (.tbl (ps ++ more)))
    (ns : ∀ m, s.heap.Ns X.env.locals m → h'.Ns X.env.locals m) (hok : HOk X.prog X.w H' h') (hg : AllBare g') :
    Inv X pins σ H' { s with heap := h', gens := g', drawn := d', toks := t' } := by
  have neL : ∀ b o, X.s₀.heap.get? b = some o → b ≠ X.env.locals := fun b o e => Nat.ne_of_lt (Nat.lt_of_lt_of_le (Heap.lt_size e) I.ok.above)
  have neC : ∀ b o, X.s₀.heap.get? b = some o → b ∉ X.ex → b ∉ ch := fun b o e hx hb => by
    rcases (hch b hb).1 with z | z
    · exact hx z
    · exact absurd (Nat.lt_of_lt_of_le (Heap.lt_size e) z) (Nat.lt_irrefl _)
  have cellK : ∀ x c, X.env.cells.lookup x = some c → ∀ v, s.heap.IsCell c v → h'.IsCell c v := fun x c e v ⟨o, ho, hd⟩ => by
    have nch : c ∉ ch := fun z => (hch c z).2.2.1 x c e rfl
    by_cases hc : c ∈ X.fs
    · obtain ⟨sl, q⟩ := slot c o (I.cne x c e) hc nch ho (I.freeC x c e)
      exact ⟨_, q, hd⟩
    · exact ⟨o, keep c o (I.cne x c e) hc nch ho (I.freeC x c e), hd⟩
  refine ⟨I.ok, I.os, hg, ⟨fun b o e n hb hx => ?_, fun b o e n hb hx => ?_, fun b o e n hx => ?_, fun b o e hx => ?_, fun b xs e => tups b xs (I.base.tups b xs e), fun b o xs e => frzs b o xs (I.base.frzs b o xs e), fun b ps e => ?_⟩, ?_, fun x c e => ?_, ?_, fun x c e => ?_, fun p hp => ?_, hok, I.len⟩
  · exact keep b o (neL b o e) hb (neC b o e hx) (I.base.keep b o e n hb hx) (I.base.free b o e n hx)
  · obtain ⟨sl, e1⟩ := I.base.slot b o e n hb hx
    obtain ⟨sl', e2⟩ := slot b _ (neL b o e) hb (neC b o e hx) e1 (I.base.free b o e n hx)
    exact ⟨sl', e2⟩
  · obtain ⟨o', e1⟩ := I.base.there b o e hx
    exact free b o' (neC b o e hx) e1 (I.base.free b o e n hx)
  · obtain ⟨o', e1⟩ := I.base.there b o e hx
    exact there b o' (neC b o e hx) e1
  · obtain ⟨m1, e1⟩ := I.base.tbls b ps e
    obtain ⟨m2, e2⟩ := tbls b _ e1
    exact ⟨m1 ++ m2, by rw [e2, Array.append_assoc]⟩
  · obtain ⟨m, hn, hl⟩ := I.loc
    refine ⟨m, ns m hn, fun i x v e1 e2 e3 => ?_⟩
    obtain ⟨u, r, l⟩ := hl i x v e1 e2 e3
    refine ⟨u, r, ?_⟩
    rcases l with l | ⟨k, c, e, z⟩
    · exact .inl l
    · exact .inr ⟨k, c, e, cellK x c e _ z⟩
  · obtain ⟨v, z⟩ := I.cell x c e
    exact ⟨v, cellK x c e v z⟩
  · obtain ⟨m, ⟨o, _, _, ho, _⟩, _⟩ := I.loc
    exact free _ o (fun z => (hch _ z).2.1 rfl) ho I.free
  · obtain ⟨v, o, ho, hd⟩ := I.cell x c e
    exact free c o (fun z => (hch c z).2.2.1 x c e rfl) ho (I.freeC x c e)
  · obtain ⟨e, n, ne, nf, d⟩ := I.pin p hp
    have nch : p.1 ∉ ch := fun z => (hch p.1 z).2.2.2 p hp rfl
    exact ⟨keep p.1 p.2 ne nf nch e n, free p.1 p.2 nch e n, ne, nf, d⟩
theorem Inv.un {t' : Nat} (I : Inv X pins σ H s) (u : Un X.fs [] H H' s.heap h') (hok : HOk X.prog X.w H' h') : Inv X pins σ H' { s with heap := h', toks := t' } := by
  obtain ⟨m, ⟨o, es, ep, ho, r⟩, _⟩ := id I.loc
  obtain ⟨sl, hL⟩ := u.any ho I.free (by simp)
  exact I.step (g' := s.gens) (d' := s.drawn) (ch := []) (fun _ z => nomatch z) (fun b o _ hb _ e n => u.keep b o e n hb (by simp)) (fun b o _ hb _ e n => u.slot b o e n hb (by simp)) (fun b o _ e n => u.free b o e n (by simp)) (fun b o _ e => u.there b o e (by simp)) u.tups u.frzs u.tbls (fun m' hm => by
    obtain ⟨o', es', ep', ho', r'⟩ := hm
    rw [ho] at ho'; cases ho'
    exact ⟨_, es', ep', hL, r'⟩) hok I.bare
theorem Inv.call {g' : Array GenState} {t' : Nat} {d' : Drawn} {ch : List Addr} (I : Inv X pins σ H s) (u : Un (frs X.stack) ch H H' s.heap h') (hok : HOk X.prog X.w H' h') (hg : AllBare g')
    (hch : ∀ b ∈ ch, (b ∈ X.ex ∨ X.s₀.heap.objs.size ≤ b) ∧ b ≠ X.env.locals ∧ (∀ x c, X.env.cells.lookup x = some c → c ≠ b) ∧ ∀ p ∈ X.pn ++ pins, p.1 ≠ b) :
    Inv X pins σ H' { s with heap := h', gens := g', drawn := d', toks := t' } := by
  obtain ⟨m, ⟨o, es, ep, ho, r⟩, _⟩ := id I.loc
  obtain ⟨sl, hL⟩ := u.any ho I.free fun z => (hch _ z).2.1 rfl
  exact I.step (ch := ch) hch (fun b o hL hb hc e n => u.keep b o e n (fun z => (List.mem_cons.mp (I.stkSub b z)).elim hL hb) hc) (fun b o _ _ hc e n => u.any e n hc) (fun b o hc e n => u.free b o e n hc) (fun b o hc e => u.there b o e hc) u.tups u.frzs u.tbls (fun m' hm => by
    obtain ⟨o', es', ep', ho', r'⟩ := hm
    rw [ho] at ho'; cases ho'
    exact ⟨_, es', ep', hL, r'⟩) hok hg
theorem Inv.turned {t' : Nat} {it : Addr} (I : Inv X pins σ H s) (k : ∀ b o, b ≠ it → s.heap.get? b = some o → h'.get? b = some o) (hn : H it = none) (hL : it ≠ X.env.locals)
    (h1 : it ∈ X.ex ∨ X.s₀.heap.objs.size ≤ it) (h2 : ∀ x c, X.env.cells.lookup x = some c → c ≠ it) (h3 : ∀ p ∈ X.pn ++ pins, p.1 ≠ it) : Inv X pins σ H { s with heap := h', toks := t' } := by
  have nit : ∀ b u, H b = some u → b ≠ it := fun b u e z => by rw [z, hn] at e; cases e
  refine I.step (g' := s.gens) (d' := s.drawn) (ch := [it]) (fun b hb => ?_) (fun b o _ _ hc e _ => k b o (fun z => hc (by simp [z])) e) (fun b o _ _ hc e _ => ⟨o.slots, k b o (fun z => hc (by simp [z])) e⟩) (fun _ _ _ _ n => n)
    (fun b o hc e => ⟨o, k b o (fun z => hc (by simp [z])) e⟩) (fun _ _ e => e) (fun _ _ _ e => e) (fun b ps e => ⟨#[], by rw [e]; simp⟩) (fun m hm => ?_) (fun b u e => ?_) I.bare
  · have e : b = it := by simpa using hb
    subst e
    exact ⟨h1, hL, h2, h3⟩
  · obtain ⟨o, es, ep, ho, r⟩ := hm
    exact ⟨o, es, ep, k _ o (Ne.symm hL) ho, r⟩
  · refine (I.hok b u e).stay (fun c v hc q => k c v ?_ q) (fun _ q => q) fun _ _ q => q
    rcases hc with z | z
    · rw [z]; exact nit b u e
    · exact nit c _ z
theorem Inv.tok (I : Inv X pins σ H s) (t : Nat) : Inv X pins σ H { s with toks := t } := I.un (h' := s.heap) (t' := t) Un.refl I.hok
theorem Inv.kept {t' : Nat} (I : Inv X pins σ H s) (k : ∀ b u, s.heap.get? b = some u → h'.get? b = some u) : Inv X pins σ H { s with heap := h', toks := t' } := I.un (Un.kept k) (I.hok.kept k)
theorem Inv.laid {a : Addr} {o : HO} {t' : Nat} (I : Inv X pins σ H s) (k : ∀ b u, s.heap.get? b = some u → h'.get? b = some u) (hp : s.heap.objs.size ≤ a) (new : ObjOk X.prog X.w (upd H a o) h' a o) :
    Inv X pins σ (upd H a o) { s with heap := h', toks := t' } := I.un (Un.laid k hp (I.hok.fresh hp)) (I.hok.laid k hp new)
theorem Inv.write {x e : Addr} {o : HO} {t' : Nat} (I : Inv X pins σ H s) (mu : Mut (H x)) (he : e = x ∨ H e = some (.own x)) (k : ∀ b u, b ≠ e → s.heap.get? b = some u → h'.get? b = some u) (heo : ∃ u, h'.get? e = some u)
    (new : ObjOk X.prog X.w (upd H x o) h' x o) : Inv X pins σ (upd H x o) { s with heap := h', toks := t' } := I.un (Un.write mu he k heo) (I.hok.write mu he k heo new)
theorem Inv.weak {σ' : List (Option V)} (I : Inv X pins σ H s) (hl : σ'.length = σ.length) (w : ∀ (i : Nat) v, σ'[i]? = some (some v) → σ[i]? = some (some v)) : Inv X pins σ' H s :=
  ⟨I.ok, I.os, I.bare, I.base, let ⟨m, hn, hl'⟩ := I.loc; ⟨m, hn, fun i x v e1 e2 e3 => hl' i x v e1 (w i v e2) e3⟩, I.cell, I.free, I.freeC, I.pin, I.hok, hl.trans I.len⟩
theorem Inv.pins_of {pins' : List (Addr × Obj)} (I : Inv X pins σ H s) (h : ∀ p ∈ pins', s.heap.get? p.1 = some p.2 ∧ H p.1 = none ∧ p.1 ≠ X.env.locals ∧ p.1 ∉ X.fs ∧ ∀ v, p.2.data ≠ .cell v) : Inv X pins' σ H s :=
  ⟨I.ok, I.os, I.bare, I.base, I.loc, I.cell, I.free, I.freeC, fun p hp => (List.mem_append.mp hp).elim (fun z => I.pin p (List.mem_append_left _ z)) (h p), I.hok, I.len⟩
theorem nodup_ix {N : List Str} (hN : N.Nodup) {i j : Nat} {x : Str} (a : N[i]? = some x) (b : N[j]? = some x) : i = j := by
  obtain ⟨h1, e1⟩ := List.getElem?_eq_some_iff.mp a
  obtain ⟨h2, e2⟩ := List.getElem?_eq_some_iff.mp b
  exact (List.getElem_inj hN).mp (e1.trans e2.symm)
theorem store_ok2 {M : Model} {A : Around} {E : Value → Shared → Prop} {i : Nat} {x : Str} {v : V} {u : Value} {Q : Unit → Shared → Prop} (I : Inv X pins σ H s) (hN : X.N.Nodup) (hi : X.N[i]? = some x) (hx : Loc X.env.scope x) (r : RelV v u)
    (h : ∀ s', Inv X pins (σ.set i (some v)) H s' → (∃ a, Heap.SameBut a s.heap s'.heap ∧ (a = X.env.locals ∨ X.env.cells.lookup x = some a)) → Q () s') (hf : X.fn x = true ∨ X.env.scope.names.lookup x = some .local := by first | exact .inl rfl | exact .inr rfl | assumption) : wpAny M A (storeName X.env x u) Q E s := by
  obtain ⟨m, hn, hl⟩ := id I.loc
  have hcls : (X.env.scope.kind == .class || (X.env.scope.kind == .module && X.env.locals != X.env.globals)) = false := by rw [I.ok.kind]; rfl
  have hiσ : i < σ.length := by rw [I.len]; exact (List.getElem?_eq_some_iff.mp hi).1
  have cne := I.cne
  have tracked : ∀ {a : Addr} {h' : Heap}, (∃ o, s.heap.get? a = some o ∧ H a = none) → Heap.SameBut a s.heap h' → HOk X.prog X.w H h' := fun {a h'} ha hs b ob e => by
    obtain ⟨_, _, hfree⟩ := ha
    refine (I.hok b ob e).stay (fun c w' hc q => (hs.2 c ?_).trans q) (fun _ q => q) fun _ _ q => q
    rintro rfl
    rcases hc with rfl | hc
    · rw [hfree] at e; cases e
    · rw [hfree] at hc; cases hc
  rcases hx with hk | hk
  · refine wpAny_storeName_local hk hn (fun h' hn' hs => ?_) hcls
    obtain ⟨oL, _, _, hoL, _⟩ := id hn
    refine h _ ⟨I.ok, I.os, I.bare, ⟨fun b o e n hb hx => ?_, fun b o e n hb hx => ?_, I.base.free, fun b o e hx => ?_, I.base.tups, I.base.frzs, I.base.tbls⟩, ⟨_, hn', fun j y v' e1 e2 e3 => ?_⟩, fun y c e => ?_, I.free, I.freeC, fun p hp => ?_, tracked ⟨oL, hoL, I.free⟩ hs, by simpa using I.len⟩ ⟨_, hs, .inl rfl⟩
    · exact (hs.2 b (Nat.ne_of_lt (Nat.lt_of_lt_of_le (Heap.lt_size e) I.ok.above))).trans (I.base.keep b o e n hb hx)
    · obtain ⟨sl, e1⟩ := I.base.slot b o e n hb hx
      exact ⟨sl, (hs.2 b (Nat.ne_of_lt (Nat.lt_of_lt_of_le (Heap.lt_size e) I.ok.above))).trans e1⟩
    · obtain ⟨o', e1⟩ := I.base.there b o e hx
      exact ⟨o', (hs.2 b (Nat.ne_of_lt (Nat.lt_of_lt_of_le (Heap.lt_size e) I.ok.above))).trans e1⟩
    · by_cases hj : j = i
      · subst hj
        rw [hi] at e1; cases e1
        rw [List.getElem?_set_self hiσ] at e2
        cases e2
        exact ⟨u, r, .inl ⟨hk, by simp⟩⟩
      · rw [List.getElem?_set_ne (Ne.symm hj)] at e2
        obtain ⟨u', r', q⟩ := hl j y v' e1 e2 e3
        refine ⟨u', r', ?_⟩
        rcases q with ⟨k, e⟩ | ⟨k, c, e, z⟩
        · refine .inl ⟨k, ?_⟩
          have : y ≠ x := fun e => hj (nodup_ix hN e1 (e ▸ hi))
          simp [this, e]
        · exact .inr ⟨k, c, e, z.sameBut hs (cne y c e)⟩
    · obtain ⟨w', z⟩ := I.cell y c e
      exact ⟨w', z.sameBut hs (cne y c e)⟩
    · obtain ⟨e, n, ne, nf, d⟩ := I.pin p hp
      exact ⟨(hs.2 p.1 ne).trans e, n, ne, nf, d⟩
  · have hfn : X.fn x = true := by
      rcases hf with z | z
      · exact z
      · rw [z] at hk; cases hk
    obtain ⟨c, hc⟩ := I.ok.has x (.inl hk)
    obtain ⟨w', z⟩ := I.cell x c hc
    refine wpAny_storeName_cell I.ok.kind hk hc z (fun h' hc' hs => ?_)
    obtain ⟨oc, hoc, hocd⟩ := id z
    refine h { s with heap := h' } ⟨I.ok, I.os, I.bare, ⟨fun b o e n hb hx => ?_, fun b o e n hb hx => ?_, I.base.free, fun b o e hx => ?_, I.base.tups, I.base.frzs, I.base.tbls⟩, ⟨m, hn.sameBut hs (Ne.symm (cne x c hc)), fun j y v' e1 e2 e3 => ?_⟩, fun y c' e => ?_, I.free, I.freeC, fun p hp => ?_, tracked ⟨oc, hoc, I.freeC x c hc⟩ hs, by simpa using I.len⟩ ⟨c, hs, .inr hc⟩
    · exact (hs.2 b (Nat.ne_of_lt (Nat.lt_of_lt_of_le (Heap.lt_size e) (I.ok.cab x c hfn hc)))).trans (I.base.keep b o e n hb hx)
    · obtain ⟨sl, e1⟩ := I.base.slot b o e n hb hx
      exact ⟨sl, (hs.2 b (Nat.ne_of_lt (Nat.lt_of_lt_of_le (Heap.lt_size e) (I.ok.cab x c hfn hc)))).trans e1⟩
    · obtain ⟨o', e1⟩ := I.base.there b o e hx
      exact ⟨o', (hs.2 b (Nat.ne_of_lt (Nat.lt_of_lt_of_le (Heap.lt_size e) (I.ok.cab x c hfn hc)))).trans e1⟩
    · by_cases hj : j = i
      · subst hj
        rw [hi] at e1; cases e1
        rw [List.getElem?_set_self hiσ] at e2
        cases e2
        exact ⟨u, r, .inr ⟨.inl hk, c, hc, hc'⟩⟩
      · rw [List.getElem?_set_ne (Ne.symm hj)] at e2
        obtain ⟨u', r', q⟩ := hl j y v' e1 e2 e3
        refine ⟨u', r', ?_⟩
        rcases q with q | ⟨k, c', e, z'⟩
        · exact .inl q
        · refine .inr ⟨k, c', e, z'.sameBut hs ?_⟩
          rintro rfl
          exact hj (nodup_ix hN e1 (I.ok.inj _ _ _ e hc ▸ hi))
    · by_cases hcc : c' = c
      · subst hcc; exact ⟨_, hc'⟩
      · obtain ⟨w2, z2⟩ := I.cell y c' e
        exact ⟨w2, z2.sameBut hs hcc⟩
    · obtain ⟨e, n, ne, nf, d⟩ := I.pin p hp
      refine ⟨(hs.2 p.1 ?_).trans e, n, ne, nf, d⟩
      intro q
      rw [q, hoc] at e
      have q' : oc = p.2 := Option.some.inj e
      exact d w' (by rw [← q']; exact hocd)
theorem store_ok {M : Model} {A : Around} {E : Value → Shared → Prop} {i : Nat} {x : Str} {v : V} {u : Value} {Q : Unit → Shared → Prop} (I : Inv X pins σ H s) (hN : X.N.Nodup) (hi : X.N[i]? = some x) (hx : Loc X.env.scope x) (r : RelV v u)
    (h : ∀ s', Inv X pins (σ.set i (some v)) H s' → Q () s') (hf : X.fn x = true ∨ X.env.scope.names.lookup x = some .local := by first | exact .inl rfl | exact .inr rfl | assumption) : wpAny M A (storeName X.env x u) Q E s :=
  store_ok2 I hN hi hx r (fun s' I' _ => h s' I') hf
theorem Inv.call' {s' : Shared} {ch : List Addr} (I : Inv X pins σ H s) (ho : s'.os = s.os) (u : Un (frs X.stack) ch H H' s.heap s'.heap) (hok : HOk X.prog X.w H' s'.heap) (hg : AllBare s'.gens)
    (hch : ∀ b ∈ ch, (b ∈ X.ex ∨ X.s₀.heap.objs.size ≤ b) ∧ b ≠ X.env.locals ∧ (∀ x c, X.env.cells.lookup x = some c → c ≠ b) ∧ ∀ p ∈ X.pn ++ pins, p.1 ≠ b) : Inv X pins σ H' s' := by
  obtain ⟨h', g', d', t', o'⟩ := s'
  have e : o' = s.os := ho
  subst e
  exact I.call (g' := g') (t' := t') (d' := d') u hok hg hch
end
abbrev XK := Value → Option Addr → Hp → Prop
abbrev St := List (Option V)
abbrev VK := V → Hp → Prop
abbrev TE := St → Hp → VK → Prop
abbrev TT := St → Hp → (Bool → Hp → Prop) → Prop
abbrev TA := St → Hp → (List V → Hp → Prop) → Prop
structure Ends where
  nx : St → Hp → Prop
  rt : VK
  bk : St → Hp → Prop := fun _ _ => False
  ct : St → Hp → Prop := fun _ _ => False
abbrev TS := Ends → St → Hp → Prop
def EP (X : Cx) (pins : List (Addr × Obj)) (σ : St) (Q : VK) (u : Value) (s' : Shared) : Prop := Ex2 fun v H' => Inv X pins σ H' s' ∧ RelV v u ∧ Q v H'
def TP (X : Cx) (pins : List (Addr × Obj)) (σ : St) (Q : Bool → Hp → Prop) (b : Bool) (s' : Shared) : Prop := ∃ H', Inv X pins σ H' s' ∧ Q b H'
def AP (X : Cx) (pins : List (Addr × Obj)) (σ : St) (Q : List V → Hp → Prop) (us : List Value) (s' : Shared) : Prop := Ex2 fun vs H' => Inv X pins σ H' s' ∧ Vals vs us ∧ Q vs H'
def SP (X : Cx) (pins : List (Addr × Obj)) (D : Ends) (f : Flow) (s' : Shared) : Prop :=
  match f with
  | .next => ∃ σ' H', Inv X pins σ' H' s' ∧ D.nx σ' H'
  | .brk => ∃ σ' H', Inv X pins σ' H' s' ∧ D.bk σ' H'
  | .cont => ∃ σ' H', Inv X pins σ' H' s' ∧ D.ct σ' H'
  | .ret u => ∃ v σ' H', Inv X pins σ' H' s' ∧ RelV v u ∧ D.rt v H'
def PE (X : Cx) (e : Expr) (t : TE) : Prop :=
  ∀ (pins : List (Addr × Obj)) (s : Shared) (σ : St) (H : Hp) (Q : VK), Inv X pins σ H s → t σ H Q → wpAny (model X.prog X.w) X.A (eval e X.env) (EP X pins σ Q) X.xe s
def PT (X : Cx) (e : Expr) (t : TT) : Prop :=
  ∀ (pins : List (Addr × Obj)) (s : Shared) (σ : St) (H : Hp) (Q : Bool → Hp → Prop), Inv X pins σ H s → t σ H Q → wpAny (model X.prog X.w) X.A (isTrue e X.env (eval e X.env)) (TP X pins σ Q) X.xe s
def PW (X : Cx) (e : Expr) (t : TT) : Prop :=
  ∀ (whole : Sem Value) (pins : List (Addr × Obj)) (s : Shared) (σ : St) (H : Hp) (Q : Bool → Hp → Prop), Inv X pins σ H s → t σ H Q → wpAny (model X.prog X.w) X.A (isTrue e X.env whole) (TP X pins σ Q) X.xe s
theorem PW.pt {X : Cx} {e : Expr} {t : TT} (h : PW X e t) : PT X e t := h _
def PA (X : Cx) (es : List Expr) (t : TA) : Prop :=
  ∀ (pos : Pos) (pins : List (Addr × Obj)) (s : Shared) (σ : St) (H : Hp) (Q : List V → Hp → Prop), Inv X pins σ H s → t σ H Q → wpAny (model X.prog X.w) X.A (spliced (backTo pos (starEach es X.env))) (AP X pins σ Q) X.xe s
def PS (X : Cx) (st : Stmt) (t : TS) : Prop :=
  ∀ (pins : List (Addr × Obj)) (s : Shared) (σ : St) (H : Hp) (D : Ends), Inv X pins σ H s → t D σ H → wpAny (model X.prog X.w) X.A (exec st X.env) (SP X pins D) X.xe s
def PSs (X : Cx) (st : List Stmt) (t : TS) : Prop :=
  ∀ (pins : List (Addr × Obj)) (s : Shared) (σ : St) (H : Hp) (D : Ends), Inv X pins σ H s → t D σ H → wpAny (model X.prog X.w) X.A (execs st X.env) (SP X pins D) X.xe s
theorem thn {α : Type} {t : Sem α} {Q Q' : α → Shared → Prop} {M : Model} {A : Around} {E : Value → Shared → Prop} {s : Shared} (h : wpAny M A t Q E s) (hQ : ∀ a s, Q a s → Q' a s) : wpAny M A t Q' E s := wpAny_mono h hQ fun _ _ x => x
end L2
namespace L2
open PySem PySem.Spec PyProof.Rows
section
variable {X : Cx}
inductive tVar_ (i : Nat) (σ : St) (H : Hp) (Q : VK) : Prop
  | mk (v : _) (h0 : σ[i]? = some (some v)) (h1 : Q v H)
def tVar (i : Nat) : TE := fun σ H Q => tVar_ i σ H Q
def tC (v : V) : TE := fun _ H Q => Q v H
theorem pe_var {i : Nat} {x : Str} {pos : Pos} (hN : X.N[i]? = some x) (hv : Vis X.env.scope x) (hd : (x == ("__debug__" : Str)) = false := by decide) (hcd : (x == ("__classdict__" : Str)) = false := by decide) : PE X (.Name x pos) (tVar i) := by
  intro pins s σ H Q I h
  obtain ⟨v, e, h⟩ := h
  obtain ⟨m, hn, hl⟩ := I.loc
  obtain ⟨u, r, l⟩ := hl i x v hN e hv
  have fin : EP X pins σ Q u s := ⟨v, H, I, r, h⟩
  rcases l with ⟨hk, hm⟩ | ⟨hk, c, hc, hcell⟩
  · exact wpAny_Name (wpAny_loadName_local I.ok.kind hk hn hm fin) hd
  · rcases hk with hk | hk
    · exact wpAny_Name (wpAny_loadName_cell I.ok.kind hk hc hcell fin) hd
    · exact wpAny_Name (wpAny_loadName_free I.ok.kind hk hc hcell fin hcd) hd
theorem pe_int {i j pos} : PE X (.Constant (.int i) j pos) (tC (.int i)) := fun _ _ _ H _ I h => wpAny_Constant_int ⟨.int i, H, I.tok _, ⟨_, rfl⟩, h⟩
theorem pe_bl {b j pos} : PE X (.Constant (.bool b) j pos) (tC (.bl b)) := fun _ _ _ H _ I h => Constant_bool ⟨.bl b, H, I, rfl, h⟩
theorem pe_non {j pos} : PE X (.Constant .none j pos) (tC .non) := fun _ _ _ H _ I h => Constant_none ⟨.non, H, I, rfl, h⟩
theorem pe_str {x j pos} : PE X (.Constant (.str x) j pos) (tC (.str x)) := fun _ _ _ H _ I h => Calls.Constant_str ⟨.str x, H, I.tok _, ⟨_, rfl⟩, h⟩
def Gl (X : Cx) (x : Str) : Prop := X.env.kindOf x = some .globalImplicit
theorem ld_glob {E : Value → Shared → Prop} {pins : List (Addr × Obj)} {s : Shared} {σ : St} {H : Hp} {x : Str} {u : Value} {pos : Pos} {Q : Value → Shared → Prop} (I : Inv X pins σ H s) (hg : Gl X x) (hm : X.mg x = some u) (h : Q u s)
    (hd : (x == ("__debug__" : Str)) = false := by decide) : wpAny (model X.prog X.w) X.A (eval (.Name x pos) X.env) Q E s :=
  Calls.Name_function_global I.ok.kind hg (Calls.loadGlobal_global (by rw [I.ok.glob]; exact I.mod.glob.keeps I.bk) hm h) hd
theorem ld_blt {E : Value → Shared → Prop} {pins : List (Addr × Obj)} {s : Shared} {σ : St} {H : Hp} {x : Str} {u : Value} {pos : Pos} {Q : Value → Shared → Prop} (I : Inv X pins σ H s) (hg : Gl X x) (hm : X.mg x = none) (hv : bootBuiltins x = some u) (h : Q u s)
    (hn : x ≠ "__name__" := by decide) (hd : (x == ("__debug__" : Str)) = false := by decide) : wpAny (model X.prog X.w) X.A (eval (.Name x pos) X.env) Q E s := by
  obtain ⟨mb, h1, h2⟩ := I.mod.blt
  exact Calls.Name_function_global I.ok.kind hg (Calls.loadGlobal_builtin (by rw [I.ok.glob]; exact I.mod.glob.keeps I.bk) hm (by rw [I.ok.blt]; exact h1.keeps I.bk) ((h2 x hn).trans hv) h) hd
theorem pe_bltn {x : Str} {v : V} {u : Value} {pos : Pos} (hg : Gl X x) (hm : X.mg x = none) (hv : bootBuiltins x = some u) (r : RelV v u) (hn : x ≠ "__name__" := by decide) (hd : (x == ("__debug__" : Str)) = false := by decide) : PE X (.Name x pos) (tC v) :=
  fun _ _ _ H _ I h => ld_blt I hg hm hv ⟨v, H, I, r, h⟩ hn hd
variable {a b : Expr} {ta tb : TE} {pos : Pos}
inductive IsBl (x : V) (P : Bool → Prop) : Prop
  | mk (c : Bool) (e : x = .bl c) (h : P c)
inductive IsIn (x : V) (P : Int → Prop) : Prop
  | mk (c : Int) (e : x = .int c) (h : P c)
def tB (t : TE) : TT := fun σ H Q => t σ H fun x H1 => IsBl x fun c => Q c H1
theorem pt_val {e : Expr} {t : TE} (h : PE X e t) (he : ∀ whole, isTrue e X.env whole = (do let v ← whole; standAt e.pos; holding [v] (truthy v)) := by intro _; rfl) : PT X e (tB t) := by
  intro pins s σ H Q I hw
  refine isTrue_plain (thn (h pins s σ H _ I hw) fun v s1 ⟨x, H1, I1, r1, q1⟩ => ?_) (he _)
  obtain ⟨d, rfl, q⟩ := q1
  cases r1
  exact wpAny_truthy_bool ⟨H1, I1, q⟩
variable {tA tB' : TT} {rest : List Expr}
def tAnd (t u : TT) : TT := fun σ H Q => t σ H fun c H1 => if c = true then u σ H1 Q else Q false H1
def tOr (t u : TT) : TT := fun σ H Q => t σ H fun c H1 => if c = true then Q true H1 else u σ H1 Q
def tNot (t : TT) : TT := fun σ H Q => t σ H fun c H1 => Q (!c) H1
theorem pw_and1 (ha : PT X a tA) : PW X (.BoolOp .And [a] pos) tA := by
  intro wh pins s σ H Q I h
  refine isTrue_and (thn (ha pins s σ H Q I h) fun c s1 e => ?_)
  cases c with
  | true => exact isTrue_and_nil e
  | false => exact e
theorem pw_or1 (ha : PT X a tA) : PW X (.BoolOp .Or [a] pos) tA := by
  intro wh pins s σ H Q I h
  refine isTrue_or (thn (ha pins s σ H Q I h) fun c s1 e => ?_)
  cases c with
  | false => exact isTrue_or_nil e
  | true => exact e
theorem pw_and (ha : PT X a tA) (hb : PW X (.BoolOp .And (b :: rest) pos) tB') : PW X (.BoolOp .And (a :: b :: rest) pos) (tAnd tA tB') := by
  intro wh pins s σ H Q I h
  refine isTrue_and (thn (ha pins s σ H _ I h) fun c s1 ⟨H1, I1, q1⟩ => ?_)
  cases c with
  | true => exact hb wh pins s1 σ H1 Q I1 q1
  | false => exact ⟨H1, I1, q1⟩
theorem pw_or (ha : PT X a tA) (hb : PW X (.BoolOp .Or (b :: rest) pos) tB') : PW X (.BoolOp .Or (a :: b :: rest) pos) (tOr tA tB') := by
  intro wh pins s σ H Q I h
  refine isTrue_or (thn (ha pins s σ H _ I h) fun c s1 ⟨H1, I1, q1⟩ => ?_)
  cases c with
  | true => exact ⟨H1, I1, q1⟩
  | false => exact hb wh pins s1 σ H1 Q I1 q1
theorem pt_not (ha : PT X a tA) : PT X (.UnaryOp .Not a pos) (tNot tA) := by
  intro pins s σ H Q I h
  exact isTrue_not (ha pins s σ H (fun c H1 => Q (!c) H1) I h)
def tAndV (ta tb : TE) : TE := fun σ H Q => ta σ H fun x H1 => IsBl x fun c => if c = true then tb σ H1 Q else Q (.bl false) H1
def tNotV (ta : TE) : TE := fun σ H Q => ta σ H fun x H1 => IsBl x fun c => Q (.bl (!c)) H1
theorem pe_one {op} {t : TE} (h : PE X a t) : PE X (.BoolOp op [a] pos) t := fun pins s σ H Q I hw => BoolOp_one (h pins s σ H Q I hw)
theorem pe_and (ha : PE X a ta) (hb : PE X (.BoolOp .And (b :: rest) pos) tb) : PE X (.BoolOp .And (a :: b :: rest) pos) (tAndV ta tb) := by
  intro pins s σ H Q I h
  refine BoolOp_and (thn (ha pins s σ H _ I h) fun v s1 ⟨x, H1, I1, r1, q1⟩ => ?_)
  obtain ⟨c, rfl, q1⟩ := q1
  cases r1
  refine wpAny_truthy_bool ?_
  cases c with
  | true => exact hb pins s1 σ H1 Q I1 q1
  | false => exact ⟨.bl false, H1, I1, rfl, q1⟩
theorem pe_not (ha : PE X a ta) : PE X (.UnaryOp .Not a pos) (tNotV ta) := by
  intro pins s σ H Q I h
  refine UnaryOp_ (thn (ha pins s σ H _ I h) fun v s1 ⟨x, H1, I1, r1, q1⟩ => ?_)
  obtain ⟨c, rfl, q1⟩ := q1
  cases r1
  exact not_of (wpAny_truthy_bool ⟨.bl (!c), H1, I1, rfl, q1⟩)
def tIf (t : TT) (ta tb : TE) : TE := fun σ H Q => t σ H fun c H1 => if c = true then ta σ H1 Q else tb σ H1 Q
theorem pe_ifExp {c : Expr} (hc : PT X c tA) (ha : PE X a ta) (hb : PE X b tb) : PE X (.IfExp c a b pos) (tIf tA ta tb) := by
  intro pins s σ H Q I h
  refine wpAny_IfExp (thn (hc pins s σ H _ I h) fun d s1 ⟨H1, I1, q1⟩ => ?_)
  cases d with
  | true => exact ha pins s1 σ H1 Q I1 q1
  | false => exact hb pins s1 σ H1 Q I1 q1
end
end L2
namespace L2
open PySem PySem.Spec PyProof.Rows
def SqL (K : PySem.W.Frag) (H : Hp) (a : Addr) (xs : List V) : Prop :=
  Rd H a (.lst xs) ∨
    Ex3 fun (o : Obj) (its : Array Value) (n : Nat) => K.lookup a = some o ∧ o.cls = .type "list" ∧ o.dict = none ∧ o.data = .seq its n ∧ its.size ≤ sizeLine ∧ Vals xs its.toList
def SqT (K : PySem.W.Frag) (H : Hp) (a : Addr) (xs : List V) : Prop :=
  Rd H a (.tup xs) ∨
    Ex3 fun (o : Obj) (its : Array Value) (n : Nat) => K.lookup a = some o ∧ o.cls = .type "tuple" ∧ o.data = .seq its n ∧ its.size ≤ sizeLine ∧ Vals xs its.toList
def absV : Value → Option V
  | .none => some .non
  | .bool b => some (.bl b)
  | .int i _ => some (.int i)
  | .str x _ => some (.str x)
  | .bytes b _ => some (.byt b)
  | .float b _ => some (.flt b)
  | .ref a => some (.ref a)
  | .type n => some (.ty n)
  | _ => none
theorem RelV.abs {x : V} {u : Value} (r : RelV x u) : absV u = some x := by
  cases x with
  | non => cases r; rfl
  | bl _ => cases r; rfl
  | int _ => obtain ⟨t, rfl⟩ := r; rfl
  | str _ => obtain ⟨t, rfl⟩ := r; rfl
  | byt _ => obtain ⟨t, rfl⟩ := r; rfl
  | flt _ => obtain ⟨t, rfl⟩ := r; rfl
  | ref _ => cases r; rfl
  | ty _ => cases r; rfl
theorem RelV.inj {x y : V} {u : Value} (r : RelV x u) (q : RelV y u) : x = y := Option.some.inj (r.abs.symm.trans q.abs)
theorem Vals.inj : ∀ {xs ys : List V} {us : List Value}, Vals xs us → Vals ys us → xs = ys
  | _, _, _, .nil, .nil => rfl
  | _, _, _, .cons r t, .cons r' t' => by rw [r.inj r', Vals.inj t t']
section
variable {X : Cx} {pins : List (Addr × Obj)} {σ : St} {H : Hp} {s : Shared} {a : Addr} {xs ys : List V}
theorem SqL.of {K : PySem.W.Frag} (h : H a = some (.lst xs)) : SqL K H a xs := .inl (.inl h)
theorem SqT.of {K : PySem.W.Frag} (h : H a = some (.tup xs)) : SqT K H a xs := .inl (.inl h)
theorem Inv.list (I : Inv X pins σ H s) (h : SqL X.K H a xs) : ∃ its : List Value, Vals xs its ∧ PlainL s.heap a its.toArray ∧ xs.length ≤ sizeLine := by
  rcases h with h | ⟨o, its, n, hk, hc, hd, hs, hz, r⟩
  · obtain ⟨z, its, n, r, e⟩ := h.ok I.hok
    exact ⟨its, r, ⟨_, n, e, rfl, rfl, rfl⟩, z⟩
  · refine ⟨its.toList, r, ⟨o, n, I.kIn a o hk, hc, hd, by simpa using hs⟩, ?_⟩
    have e := r.length
    simp only [Array.length_toList] at e
    trivial
theorem Inv.tuple (I : Inv X pins σ H s) (h : SqT X.K H a xs) : ∃ its : List Value, Vals xs its ∧ IsTup s.heap a its.toArray ∧ xs.length ≤ sizeLine := by
  rcases h with h | ⟨o, its, n, hk, hc, hs, hz, r⟩
  · obtain ⟨z, its, r, p, _⟩ := h.ok I.hok
    exact ⟨its, r, p, z⟩
  · refine ⟨its.toList, r, ⟨o, I.kIn a o hk, hc, n, by simpa using hs⟩, ?_⟩
    have e := r.length
    simp only [Array.length_toList] at e
    trivial
theorem Inv.list_inj (I : Inv X pins σ H s) (h : SqL X.K H a xs) (h' : SqL X.K H a ys) : xs = ys := by
  obtain ⟨its, r, ⟨o, n, e, _, _, d⟩, _⟩ := I.list h
  obtain ⟨its', r', ⟨o', n', e', _, _, d'⟩, _⟩ := I.list h'
  rw [e] at e'; cases e'
  rw [d] at d'
  injection d' with d1 _
  have : its = its' := by simpa using congrArg Array.toList d1
  subst this
  exact r.inj r'
theorem Inv.tuple_inj (I : Inv X pins σ H s) (h : SqT X.K H a xs) (h' : SqT X.K H a ys) : xs = ys := by
  obtain ⟨its, r, ⟨o, e, _, n, d⟩, _⟩ := I.tuple h
  obtain ⟨its', r', ⟨o', e', _, n', d'⟩, _⟩ := I.tuple h'
  rw [e] at e'; cases e'
  rw [d] at d'
  injection d' with d1 _
  have : its = its' := by simpa using congrArg Array.toList d1
  subst this
  exact r.inj r'
end
abbrev Cx.wish (X : Cx) (E : Value → Shared → Prop) : Cx := { X with xe := E }
abbrev Cx.nox (X : Cx) : Cx := X.wish fun _ _ => False
theorem Cx.Ok.wish {X : Cx} (ok : X.Ok) (E : Value → Shared → Prop) : (X.wish E).Ok :=
  ⟨ok.mod, ok.kind, ok.glob, ok.blt, ok.above, ok.inj, ok.has, ok.cab, ok.hd, ok.frames, ok.stk, ok.exf, ok.bs, ok.bsz, ok.noex, ok.exfs, ok.funs, ok.frf⟩
theorem Cx.Ok.unwish {X : Cx} {E : Value → Shared → Prop} (ok : (X.wish E).Ok) : X.Ok :=
  ⟨ok.mod, ok.kind, ok.glob, ok.blt, ok.above, ok.inj, ok.has, ok.cab, ok.hd, ok.frames, ok.stk, ok.exf, ok.bs, ok.bsz, ok.noex, ok.exfs, ok.funs, ok.frf⟩
section
variable {X : Cx} {pins : List (Addr × Obj)} {σ : St} {H : Hp} {s : Shared} {E : Value → Shared → Prop}
theorem Inv.wish (I : Inv X pins σ H s) (E : Value → Shared → Prop) : Inv (X.wish E) pins σ H s := ⟨I.ok.wish E, I.os, I.bare, I.base, I.loc, I.cell, I.free, I.freeC, I.pin, I.hok, I.len⟩
theorem Inv.unwish (I : Inv (X.wish E) pins σ H s) : Inv X pins σ H s := ⟨I.ok.unwish, I.os, I.bare, I.base, I.loc, I.cell, I.free, I.freeC, I.pin, I.hok, I.len⟩
theorem SP.unwish {D : Ends} {f : Flow} {s' : Shared} (h : SP (X.wish E) pins D f s') : SP X pins D f s' := by
  cases f with
  | next => obtain ⟨σ', H', I, q⟩ := h; exact ⟨σ', H', I.unwish, q⟩
  | brk => obtain ⟨σ', H', I, q⟩ := h; exact ⟨σ', H', I.unwish, q⟩
  | cont => obtain ⟨σ', H', I, q⟩ := h; exact ⟨σ', H', I.unwish, q⟩
  | ret u => obtain ⟨v, σ', H', I, r, q⟩ := h; exact ⟨v, σ', H', I.unwish, r, q⟩
theorem PSs.nox {st : List Stmt} {t : TS} (h : PSs X.nox st t) : PSs X st t := fun pins s σ H D I hw =>
  wpAny_mono (h pins s σ H D (I.wish _) hw) (fun _ _ q => q.unwish) fun _ _ z => False.elim z
end
section
variable {X : Cx} {st : Stmt} {rest : List Stmt} {t u : TS} {e : Expr} {te : TE} {pos : Pos}
def tNext : TS := fun D σ H => D.nx σ H
def tSeq (t u : TS) : TS := fun D σ H => t { D with nx := u D } σ H
theorem pss_nil : PSs X [] tNext := fun _ _ σ H _ I h => wpAny_execs_nil ⟨σ, H, I, h⟩
theorem pss_cons (h1 : PS X st t) (h2 : PSs X rest u) : PSs X (st :: rest) (tSeq t u) := by
  intro pins s σ H D I h
  refine wpAny_execs_cons (thn (h1 pins s σ H { D with nx := u D } I h) fun f s1 q => ?_)
  cases f with
  | next =>
    obtain ⟨σ', H', I', q⟩ := q
    exact h2 pins s1 σ' H' D I' q
  | ret v => exact q
  | brk => exact q
  | cont => exact q
theorem pss_one (h1 : PS X st t) : PSs X [st] t := by
  intro pins s σ H D I h
  refine wpAny_execs_cons (thn (h1 pins s σ H D I h) fun f s1 q => ?_)
  cases f with
  | next => exact wpAny_execs_nil q
  | ret v => exact q
  | brk => exact q
  | cont => exact q
theorem Inv.quiet {pins : List (Addr × Obj)} {σ : St} {H : Hp} {s : Shared} (I : Inv X pins σ H s) : interactive X.env = false := by simp [interactive, I.ok.kind]
def tDrop (te : TE) : TS := fun D σ H => te σ H fun _ H1 => D.nx σ H1
theorem ps_expr (he : PE X e te) (hs : swapsWith e none pos.line X.env = pure false := by rfl) : PS X (.Expr e pos) (tDrop te) := by
  intro pins s σ H D I h
  exact wpAny_Expr_any (thn (he pins s σ H _ I h) fun v s1 ⟨x, H1, I1, r1, q1⟩ => ⟨σ, H1, I1, q1⟩) I.quiet hs
def tRet (te : TE) : TS := fun D σ H => te σ H D.rt
theorem ps_ret (he : PE X e te) : PS X (.Return (some e) pos) (tRet te) := by
  intro pins s σ H D I h
  exact wpAny_Return_some (thn (he pins s σ H _ I h) fun v s1 ⟨x, H1, I1, r1, q1⟩ => ⟨x, σ, H1, I1, r1, q1⟩)
def tIfS (c : TT) (t u : TS) : TS := fun D σ H => c σ H fun b H1 => if b = true then t D σ H1 else u D σ H1
theorem ps_if {c : Expr} {a b : List Stmt} {tc : TT} (hc : PT X c tc) (ha : PSs X a t) (hb : PSs X b u) : PS X (.If c a b pos) (tIfS tc t u) := by
  intro pins s σ H D I h
  refine wpAny_If (thn (hc pins s σ H _ I h) fun d s1 ⟨H1, I1, q1⟩ => ?_)
  cases d with
  | true => exact ha pins s1 σ H1 D I1 q1
  | false => exact hb pins s1 σ H1 D I1 q1
end
abbrev TG := V → St → Hp → (St → Hp → Prop) → Prop
abbrev TGs := List V → St → Hp → (St → Hp → Prop) → Prop
def PG (X : Cx) (target : Expr) (t : TG) : Prop :=
  ∀ (pins : List (Addr × Obj)) (s : Shared) (σ : St) (H : Hp) (v : V) (u : Value) (Q : St → Hp → Prop), Inv X pins σ H s → RelV v u → t v σ H Q →
    wpAny (model X.prog X.w) X.A (assign target X.env u) (fun _ s' => ∃ σ' H', Inv X pins σ' H' s' ∧ Q σ' H') X.xe s
def PGs (X : Cx) (ts : List Expr) (t : TGs) : Prop :=
  ∀ (pins : List (Addr × Obj)) (s : Shared) (σ : St) (H : Hp) (vs : List V) (us : List Value) (Q : St → Hp → Prop), Inv X pins σ H s → Vals vs us → t vs σ H Q →
    wpAny (model X.prog X.w) X.A (assignInOrder ((assignEach ts X.env).map (·.2)) us) (fun _ s' => ∃ σ' H', Inv X pins σ' H' s' ∧ Q σ' H') X.xe s
abbrev TSet := V → V → V → Hp → (Hp → Prop) → Prop
def PSet (X : Cx) (t : TSet) : Prop :=
  ∀ (pins : List (Addr × Obj)) (s : Shared) (σ : St) (H : Hp) (o i v : V) (ov iv u : Value) (Q : Hp → Prop), Inv X pins σ H s → RelV o ov → RelV i iv → RelV v u → t o i v H Q →
    wpAny (model X.prog X.w) X.A (setItem ov iv u) (fun _ s' => ∃ H', Inv X pins σ H' s' ∧ Q H') X.xe s
section
variable {X : Cx} {pos : Pos}
def gName (i : Nat) : TG := fun v σ H Q => Q (σ.set i (some v)) H
theorem pg_name {i : Nat} {x : Str} (hN : X.N.Nodup) (hi : X.N[i]? = some x) (hx : Loc X.env.scope x) (hf : X.fn x = true ∨ X.env.scope.names.lookup x = some .local := by first | exact .inl rfl | exact .inr rfl | assumption) : PG X (.Name x pos) (gName i) := by
  intro pins s σ H v u Q I r h
  exact wpAny_assign_Name (store_ok I hN hi hx r (fun s' I' => ⟨_, H, I', h⟩) hf)
def gNil : TGs := fun vs σ H Q => vs = [] ∧ Q σ H
inductive gCons_ (t : TG) (u : TGs) (vs : List V) (σ : St) (H : Hp) (Q : St → Hp → Prop) : Prop
  | mk (v : _) (r : _) (h0 : vs = v :: r) (h1 : t v σ H fun σ' H' => u r σ' H' Q)
def gCons (t : TG) (u : TGs) : TGs := fun vs σ H Q => gCons_ t u vs σ H Q
theorem pgs_nil : PGs X [] gNil := by
  intro pins s σ H vs us Q I r h
  obtain ⟨e, h⟩ := h
  subst e
  cases r
  exact assignInOrder_nil ⟨σ, H, I, h⟩
theorem pgs_cons {e : Expr} {es : List Expr} {t : TG} {u : TGs} (h1 : PG X e t) (h2 : PGs X es u)
    (hs : (assignEach (e :: es) X.env).map (·.2) = assign e X.env :: (assignEach es X.env).map (·.2) := by rfl) : PGs X (e :: es) (gCons t u) := by
  intro pins s σ H vs us Q I r h
  obtain ⟨v, vr, e1, h⟩ := h
  subst e1
  cases r with
  | cons r rr =>
    rw [hs]
    refine assignInOrder_cons (thn (h1 pins s σ H _ _ _ I r h) fun _ s1 ⟨σ1, H1, I1, q1⟩ => ?_)
    exact h2 pins s1 σ1 H1 _ _ Q I1 rr q1
inductive gTup_ (K : PySem.W.Frag) (n : Nat) (t : TGs) (v : V) (σ : St) (H : Hp) (Q : St → Hp → Prop) : Prop
  | mk (a : _) (xs : _) (h0 : v = .ref a) (h1 : SqT K H a xs) (h2 : xs.length = n) (h3 : t xs σ H Q)
def gTup (K : PySem.W.Frag) (n : Nat) (t : TGs) : TG := fun v σ H Q => gTup_ K n t v σ H Q
theorem pg_tup {es : List Expr} {k : Nat} {t : TGs} {n : Nat} (hc : X.calm = true) (h : PGs X es t)
    (hn : (assignEach es X.env).length = n := by rfl) (hst : (assignEach es X.env).findIdx? (·.1) = none := by rfl) : PG X (.Tuple es k pos) (gTup X.K n t) := by
  intro pins s σ H v u Q I r hw
  obtain ⟨a, xs, e1, hq, hl, hw⟩ := hw
  subst e1
  cases r
  obtain ⟨its, rv, ht, hz⟩ := I.tuple hq
  refine assign_Tuple_tuple (I.ok.hd hc) ht (by simp [hn, ← hl, rv.length]) hst fun h' hx => ?_
  have I1 : Inv X pins σ H { s with heap := h' } := I.kept (t' := s.toks) fun b o e => hx b o (Nat.ne_of_lt (Heap.lt_size e)) e
  exact h pins _ σ H xs _ Q I1 (by simpa using rv) hw
def gSub (to ti : TE) (t : TSet) : TG := fun v σ H Q => to σ H fun o H1 => ti σ H1 fun i H2 => t o i v H2 fun H3 => Q σ H3
theorem pg_sub {o i : Expr} {to ti : TE} {t : TSet} (ho : PE X o to) (hi : PE X i ti) (hs : PSet X t)
    (ha : ∀ v, assign (.Subscript o i pos) X.env v = (do
      let ov ← holding [v] (eval o X.env)
      let iv ← holding [v, ov] (eval i X.env)
      standAt pos
      holding [v, ov, iv] (setItem ov iv v)
      release [v, ov, iv] []) := by intro _; rfl) : PG X (.Subscript o i pos) (gSub to ti t) := by
  intro pins s σ H v u Q I r h
  rw [ha]
  refine wpAny_bind (wpAny_holding (thn (ho pins s σ H _ I h) fun ov s1 ⟨x, H1, I1, r1, q1⟩ => ?_))
  refine wpAny_bind (wpAny_holding (thn (hi pins s1 σ H1 _ I1 q1) fun iv s2 ⟨y, H2, I2, r2, q2⟩ => ?_))
  refine wpAny_bind (wpAny_standAt (wpAny_bind (wpAny_holding (thn (hs pins s2 σ H2 x y v ov iv u _ I2 r1 r2 r q2) fun _ s3 ⟨H3, I3, q3⟩ => ?_))))
  exact wpAny_release ⟨σ, H3, I3, q3⟩
def tAsg (te : TE) (g : TG) : TS := fun D σ H => te σ H fun x H1 => g x σ H1 D.nx
theorem ps_asg {tg e : Expr} {te : TE} {g : TG} (he : PE X e te) (hg : PG X tg g) (hs : swapsWithSole [tg] e pos.line X.env = pure false := by rfl) (hw : swappedStores [tg] e X.env = pure none := by rfl)
    (h1 : (assignEach [tg] X.env).map (·.2) = [assign tg X.env] := by rfl) : PS X (.Assign [tg] e pos) (tAsg te g) := by
  intro pins s σ H D I h
  refine wpAny_Assign_stores (thn (he pins s σ H _ I h) fun v s1 ⟨x, H1, I1, r1, q1⟩ => ?_) hs hw
  rw [h1]
  exact thn (hg pins s1 σ H1 x v _ I1 r1 q1) fun _ s2 q => q
theorem ps_set {i : Nat} {x : Str} {e : Expr} {te : TE} {pos' : Pos} (hN : X.N.Nodup) (hi : X.N[i]? = some x) (hx : Loc X.env.scope x) (he : PE X e te) (hs : swapsWith e (some (.Name x pos')) pos.line X.env = pure false := by rfl) (hf : X.fn x = true ∨ X.env.scope.names.lookup x = some .local := by first | exact .inl rfl | exact .inr rfl | assumption) :
    PS X (.Assign [.Name x pos'] e pos) (tAsg te (gName i)) := by
  intro pins s σ H D I h
  refine wpAny_Assign_Name (thn (he pins s σ H _ I h) fun v s1 ⟨y, H1, I1, r1, q1⟩ => ?_) hs
  exact store_ok I1 hN hi hx r1 (fun s2 I2 => ⟨_, H1, I2, q1⟩) hf
def tPar (i j : Nat) (ta : TA) : TS := fun D σ H => ta σ H fun vs H1 => Ex2 fun v w => vs = [v, w] ∧ D.nx ((σ.set i (some v)).set j (some w)) H1
theorem ps_par {i j : Nat} {x y : Str} {a b : Expr} {ta : TA} {px py pt : Pos} {kt k2 pt2} (hc : X.calm = true) (hN : X.N.Nodup) (hi : X.N[i]? = some x) (hj : X.N[j]? = some y) (hij : i ≠ j)
    (hx : X.env.scope.names.lookup x = some .local) (hy : X.env.scope.names.lookup y = some .local) (ha : PA X [a, b] ta)
    (hw : swappedStores [.Tuple [.Name x px, .Name y py] kt pt] (.Tuple [a, b] k2 pt2) X.env = pure (some [x, y]))
    (hs : swapsWithSole [.Tuple [.Name x px, .Name y py] kt pt] (.Tuple [a, b] k2 pt2) pos.line X.env = pure false := by rfl) :
    PS X (.Assign [.Tuple [.Name x px, .Name y py] kt pt] (.Tuple [a, b] k2 pt2) pos) (tPar i j ta) := by
  intro pins s σ H D I h
  rw [exec_Assign_arm]
  refine wpAny_bind (wpAny_standAt ?_)
  rw [hs]
  refine wpAny_bind (wpAny_pure ?_)
  rw [if_neg (by decide)]
  refine wpAny_bind (Tuple_ (thn (ha _ pins s σ H _ I h) fun us s1 ⟨vs, H1, I1, r1, q1⟩ => ?_))
  obtain ⟨v, w, e1, q1⟩ := q1
  subst e1
  obtain ⟨u1, u2, rfl, rv, rw'⟩ : Ex2 fun u1 u2 => us = [u1, u2] ∧ RelV v u1 ∧ RelV w u2 := by
    cases r1 with
    | cons p q =>
      cases q with
      | cons p' q' =>
        cases q'
        exact ⟨_, _, rfl, p, p'⟩
  refine wpAny_newObj_type ?_ (by show 2 ≤ sizeLine; decide)
  have I2 : Inv X pins σ H1 { s1 with heap := s1.heap.push { cls := .type "tuple", data := .seq [u1, u2].toArray } } := I1.kept (t' := s1.toks) fun b o e => Heap.get?_push_of_some _ e
  rw [hw]
  refine wpAny_bind (wpAny_pure ?_)
  show wpAny (model X.prog X.w) X.A (do rule "assign.swapped-stores"; let items ← unpackItems (.ref s1.heap.objs.size) 2 none; assignInOrder [fun v => bindName X.env y v, fun v => bindName X.env x v] items.reverse; pure Flow.next) _ _ _
  refine wpAny_bind (wpAny_rule (wpAny_bind (unpackItems_tuple (items := #[u1, u2]) (I.ok.hd hc) (IsTup.new s1.heap _) fun h' hx' => ?_)))
  have I3 := I2.kept (h' := h') (t' := s1.toks) fun b o e => hx' b o (Nat.ne_of_lt (Heap.lt_size e)) e
  show wpAny _ _ (assignInOrder [fun v => bindName X.env y v, fun v => bindName X.env x v] [u2, u1] >>= fun _ => pure Flow.next) _ _ _
  refine wpAny_bind (assignInOrder_cons (wpAny_bindName (store_ok I3 hN hj (.inl hy) rw' (fun s2 I4 => ?_) (.inr hy))))
  refine assignInOrder_cons (wpAny_bindName (store_ok I4 hN hi (.inl hx) rv (fun s3 I5 => assignInOrder_nil (wpAny_pure ?_)) (.inr hx)))
  rw [List.set_comm _ _ (Ne.symm hij)] at I5
  exact ⟨_, H1, I5, q1⟩
end
section
variable {X : Cx} {pos : Pos}
def tWhile (c : TT) (tb : TS) : TS := fun D σ H => ∃ W : Nat → St → Hp → Prop, (∃ m, W m σ H) ∧ ∀ m σ H, W m σ H →
  c σ H fun b H1 => if b = true then ∃ N : St → Hp → Prop, (∀ σ' H', N σ' H' → ∃ m', m' < m ∧ W m' σ' H') ∧ tb { D with nx := N, ct := N, bk := D.nx } σ H1 else D.nx σ H1
theorem ps_while {c : Expr} {body : List Stmt} {tc : TT} {tb : TS} (hp : PassesOwn (model X.prog X.w) X.A X.env X.xe) (hc : PT X c tc) (hb : PSs X body tb) : PS X (.While c body [] pos) (tWhile tc tb) := by
  intro pins s σ H D I h
  obtain ⟨W, ⟨m0, w0⟩, turn⟩ := h
  refine wpAny_While (codeAny_whileLoop (fun n s' => ∃ σ' H', Inv X pins σ' H' s' ∧ W n σ' H') ?_ m0 ⟨σ, H, I, w0⟩)
  rintro n s1 ⟨σ1, H1, I1, w1⟩
  refine wpAny_passesOwn hp (thn (hc pins s1 σ1 H1 _ I1 (turn n σ1 H1 w1)) fun b s2 ⟨H2, I2, q2⟩ => ?_)
  cases b with
  | true =>
    obtain ⟨N, hN, q2⟩ := q2
    rw [if_pos rfl]
    refine wpAny_passesOwn hp (thn (hb pins s2 σ1 H2 _ I2 q2) fun f s3 q3 => ?_)
    cases f with
    | next =>
      obtain ⟨σ3, H3, I3, n3⟩ := q3
      obtain ⟨m', hm, w3⟩ := hN σ3 H3 n3
      exact ⟨m', hm, σ3, H3, I3, w3⟩
    | cont =>
      obtain ⟨σ3, H3, I3, n3⟩ := q3
      obtain ⟨m', hm, w3⟩ := hN σ3 H3 n3
      exact ⟨m', hm, σ3, H3, I3, w3⟩
    | brk => exact q3
    | ret v => exact q3
  | false =>
    rw [if_neg Bool.false_ne_true]
    exact wpAny_execs_nil ⟨σ1, H2, I2, q2⟩
end
structure It where
  go : Nat → Hp → Prop
  yld : Nat → Hp → V → Hp → Prop
  stop : Nat → Hp → Prop
def FpOk (X : Cx) (pins : List (Addr × Obj)) (H : Hp) (b : Addr) : Prop :=
  H b = none ∧ b ≠ X.env.locals ∧ b ∉ X.fs ∧ (b ∈ X.ex ∨ X.s₀.heap.objs.size ≤ b) ∧ (∀ x c, X.env.cells.lookup x = some c → c ≠ b) ∧ ∀ p ∈ X.pn ++ pins, p.1 ≠ b
theorem Inv.fpOk {X : Cx} {pins : List (Addr × Obj)} {σ : St} {H H' : Hp} {s : Shared} {b : Addr} (I : Inv X pins σ H s) (hb : s.heap.objs.size ≤ b) (hn : H' b = none) : FpOk X pins H' b := by
  refine ⟨hn, Nat.ne_of_gt (Nat.lt_of_lt_of_le I.lt hb), I.nofs hb, .inr (Nat.le_trans I.sz hb), fun x c e z => ?_, fun p hp z => ?_⟩
  · obtain ⟨v, q⟩ := I.cell x c e
    exact absurd (Nat.lt_of_lt_of_le q.lt (by rw [z]; exact hb)) (Nat.lt_irrefl _)
  · exact absurd (Nat.lt_of_lt_of_le (Heap.lt_size (I.pin p hp).1) (by rw [z]; exact hb)) (Nat.lt_irrefl _)
structure Turn (P : Program) (w : World) (K : PySem.W.Frag) (tg : Expr) (J : It) (fp : List Addr) (it : Addr) (tn : Nat → Heap → Prop) : Prop where
  mem : it ∈ fp
  obj : ∀ i h, tn i h → ∀ b ∈ fp, ∃ o, h.get? b = some o ∧ ∀ v, o.data ≠ .cell v
  keep : ∀ i h h', tn i h → (∀ b ∈ fp, ∀ o, h.get? b = some o → h'.get? b = some o) → tn i h'
  item : ∀ (X : Cx), X.prog = P → X.w = w → X.K = K → X.calm = true → ∀ (i : Nat) (pins : List (Addr × Obj)) (s : Shared) (σ : St) (H : Hp) (E : Value → Shared → Prop), Inv X pins σ H s → (∀ b ∈ fp, FpOk X pins H b) → tn i s.heap → J.go i H →
    wpAny (model P w) X.A (pyNext (.ref it)) (fun r s1 => ∃ u, r = some u ∧
      wpAny (model P w) X.A (letOwnedTupleGo tg (.ref it) u) (fun _ s2 => Ex2 fun x H' => Inv X pins σ H' s2 ∧ RelV x u ∧ J.yld i H x H' ∧ tn (i + 1) s2.heap ∧ ∀ b ∈ fp, H' b = none) E s1) E s
  done : ∀ (X : Cx), X.prog = P → X.w = w → X.K = K → X.calm = true → ∀ (i : Nat) (pins : List (Addr × Obj)) (s : Shared) (σ : St) (H : Hp) (E : Value → Shared → Prop), Inv X pins σ H s → (∀ b ∈ fp, FpOk X pins H b) → tn i s.heap → J.stop i H →
    wpAny (model P w) X.A (pyNext (.ref it)) (fun r s1 => r = none ∧ Inv X pins σ H s1) E s
  self : ∀ (A : Around) (i : Nat) (s : Shared) (Q : Value → Shared → Prop) (E : Value → Shared → Prop), tn i s.heap → Q (.ref it) s → wpAny (model P w) A (pyIter (.ref it)) Q E s
abbrev TI := St → Hp → (It → Hp → Prop) → Prop
def PIE (X : Cx) (pins : List (Addr × Obj)) (σ : St) (tg : Expr) (R : It → Hp → Prop) (itv : Value) (s2 : Shared) : Prop :=
  Ex5 fun (it : Addr) (fp : List Addr) (tn : Nat → Heap → Prop) (J : It) (H' : Hp) => itv = .ref it ∧ Inv X pins σ H' s2 ∧ Turn X.prog X.w X.K tg J fp it tn ∧ tn 0 s2.heap ∧ (∀ b ∈ fp, FpOk X pins H' b) ∧ R J H'
def PI (X : Cx) (tg iter : Expr) (wi : TI) : Prop :=
  ∀ (pins : List (Addr × Obj)) (s : Shared) (σ : St) (H : Hp) (R : It → Hp → Prop), Inv X pins σ H s → wi σ H R →
    wpAny (model X.prog X.w) X.A (eval iter X.env) (fun v s1 => wpAny (model X.prog X.w) X.A (pyIter v) (PIE X pins σ tg R) X.xe s1) X.xe s
theorem go_of {M : Model} {A : Around} {E : Value → Shared → Prop} {s : Shared} {tg : Expr} {it : Addr} {u : Value} {o : Obj} {n : String} {vs : Array Value} {Q : Unit → Shared → Prop} (ho : s.heap.get? it = some o) (hc : o.cls = .type n) (hd : o.data = .fields vs)
    (hn : ["enumerate", "zip", "dict_itemiterator", "dict_reverseitemiterator", "odict_iterator", "itertools.zip_longest", "itertools.pairwise"].contains n = false) (hQ : Q () s) : wpAny M A (letOwnedTupleGo tg (.ref it) u) Q E s := by
  unfold letOwnedTupleGo
  cases tg <;> first
    | exact wpAny_pure hQ
    | (cases u <;> first
        | exact wpAny_pure hQ
        | (refine wpAny_bind (wpAny_load ho ?_)
           rw [hc, hd]
           show wpAny M A (if (["enumerate", "zip", "dict_itemiterator", "dict_reverseitemiterator", "odict_iterator", "itertools.zip_longest", "itertools.pairwise"].contains n && vs[0]? == some (rawInt _)) = true then _ else _) Q E s
           rw [if_neg (by intro h; rw [hn, Bool.false_and] at h; cases h)]
           exact wpAny_pure hQ))
def Itl (K : PySem.W.Frag) (a : Addr) : It :=
  ⟨fun i H => Ex2 fun xs x => SqL K H a xs ∧ xs[i]? = some x, fun i H x H' => H' = H ∧ ∀ xs, SqL K H a xs → xs[i]? = some x, fun i H => ∃ xs, SqL K H a xs ∧ xs.length ≤ i⟩
def Itt (K : PySem.W.Frag) (a : Addr) : It :=
  ⟨fun i H => Ex2 fun xs x => SqT K H a xs ∧ xs[i]? = some x, fun i H x H' => H' = H ∧ ∀ xs, SqT K H a xs → xs[i]? = some x, fun i H => ∃ xs, SqT K H a xs ∧ xs.length ≤ i⟩
def Itr (lo : Int) (n : Nat) : It := ⟨fun i _ => i < n, fun i H x H' => H' = H ∧ x = .int (lo + i), fun i _ => n ≤ i⟩
theorem turn_list {P : Program} {w : World} {K : PySem.W.Frag} {tg : Expr} (a it : Addr) : Turn P w K tg (Itl K a) [it] it (fun i h => h.IsListIter it a i) where
  mem := by simp
  obj := fun i h st b hb => by
    have e : b = it := by simpa using hb
    subst e
    obtain ⟨o, e, c, d⟩ := st
    exact ⟨o, e, fun v z => by rw [d] at z; cases z⟩
  keep := fun i h h' st k => st.at fun o e => k it (by simp) o e
  item := by
    intro X hP hw hK hc i pins s σ H E I hf st hg
    subst hP hw hK
    obtain ⟨xs, x, hq, hx⟩ := hg
    obtain ⟨its, rv, p, hz⟩ := I.list hq
    obtain ⟨u, hu, ru⟩ := rv.get hx
    obtain ⟨f0, f1, f2, f3, f4, f5⟩ := hf it (by simp)
    refine wpAny_pyNext_list_item st p.isList (x := u) (by simpa using hu) fun h' st' sb => ?_
    have I1 : Inv X pins σ H { s with heap := h' } := I.turned (t' := s.toks) (fun b o hb e => (sb.2 b hb).trans e) f0 f1 f3 f4 f5
    obtain ⟨o, e, c, d⟩ := id st'
    exact ⟨u, rfl, go_of (s := { s with heap := h' }) e c d (by decide) ⟨x, H, I1, ru, ⟨rfl, fun ys hy => by rw [I.list_inj hy hq]; exact hx⟩, st', fun b hb => (hf b hb).1⟩⟩
  done := by
    intro X hP hw hK hc i pins s σ H E I hf st hg
    subst hP hw hK
    obtain ⟨xs, hq, hx⟩ := hg
    obtain ⟨its, rv, p, hz⟩ := I.list hq
    obtain ⟨f0, f1, f2, f3, f4, f5⟩ := hf it (by simp)
    have hl := rv.length
    exact wpAny_pyNext_list_end (I.ok.hd hc) st p.isList (by simp; trivial) fun h' eb => ⟨rfl, I.turned (t' := s.toks) (fun b o hb e => eb b o hb e) f0 f1 f3 f4 f5⟩
  self := fun _ _ _ _ _ st h => wpAny_pyIter_listiter st h
theorem turn_tuple {P : Program} {w : World} {K : PySem.W.Frag} {tg : Expr} (a it : Addr) : Turn P w K tg (Itt K a) [it] it (fun i h => h.IsTupleIter it a i) where
  mem := by simp
  obj := fun i h st b hb => by
    have e : b = it := by simpa using hb
    subst e
    obtain ⟨o, e, c, d⟩ := st
    exact ⟨o, e, fun v z => by rw [d] at z; cases z⟩
  keep := fun i h h' st k => st.at fun o e => k it (by simp) o e
  item := by
    intro X hP hw hK hc i pins s σ H E I hf st hg
    subst hP hw hK
    obtain ⟨xs, x, hq, hx⟩ := hg
    obtain ⟨its, rv, p, hz⟩ := I.tuple hq
    obtain ⟨u, hu, ru⟩ := rv.get hx
    obtain ⟨f0, f1, f2, f3, f4, f5⟩ := hf it (by simp)
    refine wpAny_pyNext_tuple_item st (show s.heap.IsTuple a its.toArray from p) (x := u) (by simpa using hu) fun h' st' sb => ?_
    have I1 : Inv X pins σ H { s with heap := h' } := I.turned (t' := s.toks) (fun b o hb e => (sb.2 b hb).trans e) f0 f1 f3 f4 f5
    obtain ⟨o, e, c, d⟩ := id st'
    exact ⟨u, rfl, go_of (s := { s with heap := h' }) e c d (by decide) ⟨x, H, I1, ru, ⟨rfl, fun ys hy => by rw [I.tuple_inj hy hq]; exact hx⟩, st', fun b hb => (hf b hb).1⟩⟩
  done := by
    intro X hP hw hK hc i pins s σ H E I hf st hg
    subst hP hw hK
    obtain ⟨xs, hq, hx⟩ := hg
    obtain ⟨its, rv, p, hz⟩ := I.tuple hq
    obtain ⟨f0, f1, f2, f3, f4, f5⟩ := hf it (by simp)
    have hl := rv.length
    exact wpAny_pyNext_tuple_end (I.ok.hd hc) st (show s.heap.IsTuple a its.toArray from p) (by simp; trivial) fun h' eb => ⟨rfl, I.turned (t' := s.toks) (fun b o hb e => eb b o hb e) f0 f1 f3 f4 f5⟩
  self := fun _ _ _ _ _ st h => wpAny_pyIter_tupleiter st h
theorem turn_range {P : Program} {w : World} {K : PySem.W.Frag} {tg : Expr} (it : Addr) (lo : Int) (n : Nat) : Turn P w K tg (Itr lo n) [it] it (fun i h => IsRangeIter h it (lo + (i : Nat) * 1) ((n : Int) - (i : Nat)) 1) where
  mem := by simp
  obj := fun i h st b hb => by
    have e : b = it := by simpa using hb
    subst e
    exact ⟨_, st, fun v z => by
      have z' : Data.fields _ = Data.cell v := z
      cases z'⟩
  keep := fun i h h' st k => k it (by simp) _ st
  item := by
    intro X hP hw hK hc i pins s σ H E I hf st hg
    subst hP hw hK
    obtain ⟨f0, f1, f2, f3, f4, f5⟩ := hf it (by simp)
    have W := Walks.range (prog := X.prog) (w := X.w) (I.ok.hd hc) it lo 1 n
    refine W.item i s _ _ hg st fun v h' tk hv st' kk => ?_
    obtain ⟨t, rfl⟩ := hv
    have I1 : Inv X pins σ H { s with heap := h', toks := tk } := I.turned (fun b o hb e => kk b o (by simpa using hb) e) f0 f1 f3 f4 f5
    refine ⟨_, rfl, go_of (s := { s with heap := h', toks := tk }) (n := "range_iterator") st' rfl rfl (by decide) ⟨.int (lo + i), H, I1, ⟨t, ?_⟩, ⟨rfl, rfl⟩, st', fun b hb => (hf b hb).1⟩⟩
    rw [Int.mul_one]
  done := by
    intro X hP hw hK hc i pins s σ H E I hf st hg
    subst hP hw hK
    obtain ⟨f0, f1, f2, f3, f4, f5⟩ := hf it (by simp)
    exact wpAny_pyNext_range_end (I.ok.hd hc) st (by have : n ≤ i := hg; trivial) fun h' eb => ⟨rfl, I.turned (t' := s.toks) (fun b o hb e => eb b o hb e) f0 f1 f3 f4 f5⟩
  self := fun _ _ _ _ _ st h => wpAny_pyIter_rangeiter st h
end L2
namespace L2
open PySem PySem.Spec PyProof.Rows
section
variable {X : Cx} {tg : Expr}
def iList (K : PySem.W.Frag) (tl : TE) : TI := fun σ H R => tl σ H fun x H1 => ∃ a, x = .ref a ∧ (∃ xs, SqL K H1 a xs) ∧ R (Itl K a) H1
def iTup (K : PySem.W.Frag) (tl : TE) : TI := fun σ H R => tl σ H fun x H1 => ∃ a, x = .ref a ∧ (∃ xs, SqT K H1 a xs) ∧ R (Itt K a) H1
theorem pi_list {l : Expr} {tl : TE} (hl : PE X l tl) : PI X tg l (iList X.K tl) := by
  intro pins s σ H R I h
  refine thn (hl pins s σ H _ I h) fun v s1 ⟨x, H1, I1, r1, q1⟩ => ?_
  obtain ⟨a, e, ⟨xs, hq⟩, q⟩ := q1
  subst e
  cases r1
  obtain ⟨its, rv, p, hz⟩ := I1.list hq
  refine wpAny_pyIter_list p.isList ?_
  refine ⟨s1.heap.objs.size, [s1.heap.objs.size], _, _, H1, rfl, I1.kept (t' := s1.toks) fun b o e => Heap.get?_push_of_some _ e, turn_list a _, ⟨_, Heap.get?_push_size _ rfl, rfl, rfl⟩, fun b hb => ?_, q⟩
  have e : b = s1.heap.objs.size := by simpa using hb
  subst e
  exact I1.fpOk (Nat.le_refl _) (I1.hok.fresh (Nat.le_refl _))
theorem pi_tup {l : Expr} {tl : TE} (hl : PE X l tl) : PI X tg l (iTup X.K tl) := by
  intro pins s σ H R I h
  refine thn (hl pins s σ H _ I h) fun v s1 ⟨x, H1, I1, r1, q1⟩ => ?_
  obtain ⟨a, e, ⟨xs, hq⟩, q⟩ := q1
  subst e
  cases r1
  obtain ⟨its, rv, p, hz⟩ := I1.tuple hq
  refine wpAny_pyIter_tuple (show s1.heap.IsTuple a its.toArray from p) ?_
  refine ⟨s1.heap.objs.size, [s1.heap.objs.size], _, _, H1, rfl, I1.kept (t' := s1.toks) fun b o e => Heap.get?_push_of_some _ e, turn_tuple a _, ⟨_, Heap.get?_push_size _ rfl, rfl, rfl⟩, fun b hb => ?_, q⟩
  have e : b = s1.heap.objs.size := by simpa using hb
  subst e
  exact I1.fpOk (Nat.le_refl _) (I1.hok.fresh (Nat.le_refl _))
theorem range_it {pins : List (Addr × Obj)} {σ : St} {H : Hp} {s : Shared} {R : It → Hp → Prop} {E : Value → Shared → Prop} {lo hi : Int} {t u v : Tok} {tk : Nat} (I : Inv X pins σ H s) (h1 : -(2 ^ 62) ≤ lo) (h2 : lo < 2 ^ 62) (h3 : -(2 ^ 62) ≤ hi) (h4 : hi < 2 ^ 62)
    (q : R (Itr lo (hi - lo).toNat) H) : wpAny (model X.prog X.w) X.A (pyIter (.ref s.heap.objs.size)) (PIE X pins σ tg R) E { s with heap := s.heap.push { cls := .type "range", data := .fields #[.int lo t, .int hi u, .int 1 v] }, toks := tk } := by
  refine wpAny_pyIter_range (IsRange.new ..) (small_one h1 h2 h3 h4) ?_
  have I1 : Inv X pins σ H { s with heap := s.heap.push { cls := .type "range", data := .fields #[.int lo t, .int hi u, .int 1 v] }, toks := tk } := I.kept fun b o e => Heap.get?_push_of_some _ e
  refine ⟨(s.heap.push { cls := .type "range", data := .fields #[.int lo t, .int hi u, .int 1 v] }).objs.size, [(s.heap.push { cls := .type "range", data := .fields #[.int lo t, .int hi u, .int 1 v] }).objs.size], _, _, H, rfl,
    I1.kept (t' := tk) fun b o e => Heap.get?_push_of_some _ e, turn_range _ lo (hi - lo).toNat, ?_, fun b hb => ?_, q⟩
  · have e1 : lo + ((0 : Nat) : Int) * 1 = lo := by simp
    have e2 : (((hi - lo).toNat : Nat) : Int) - ((0 : Nat) : Int) = Builtin.Range.rangeSize lo hi 1 := by rw [rangeSize_one]; split <;> trivial
    show IsRangeIter _ _ (lo + ((0 : Nat) : Int) * 1) ((((hi - lo).toNat : Nat) : Int) - ((0 : Nat) : Int)) 1
    rw [e1, e2]
    exact Heap.get?_push_size _ rfl
  · have e : b = (s.heap.push { cls := .type "range", data := .fields #[.int lo t, .int hi u, .int 1 v] }).objs.size := by simpa using hb
    subst e
    exact I1.fpOk (Nat.le_refl _) (I1.hok.fresh (Nat.le_refl _))
def iRng1 (ta : TA) : TI := fun σ H R => ta σ H fun vs H1 => ∃ j : Int, vs = [.int j] ∧ -(2 ^ 62) ≤ j ∧ j < 2 ^ 62 ∧ R (Itr 0 j.toNat) H1
theorem pi_range1 {a : Expr} {ta : TA} {p pos : Pos} (hg : Gl X "range") (hm : X.mg "range" = none) (ha : PA X [a] ta) (hs : starEach [a] X.env = [(false, eval a X.env)] := by rfl) : PI X tg (.Call (.Name "range" p) [a] [] pos) (iRng1 ta) := by
  intro pins s σ H R I h
  refine Call_ (ld_blt I hg hm boot_range (PyProof.Rows.callWith_type1 (thn (ha pos pins s σ H _ I h) fun us s1 ⟨vs, H1, I1, r1, q1⟩ => ?_) hs rfl))
  obtain ⟨j, e, q1, q2, q⟩ := q1
  subst e
  cases r1 with
  | cons r rr =>
    cases rr
    obtain ⟨t, rfl⟩ := r
    exact call_range_1 (range_it I1 (by trivial) (by trivial) q1 q2 (by simpa using q))
def tFor (wi : TI) (g : TG) (tb : TS) : TS := fun D σ H => wi σ H fun J H1 => ∃ W : Nat → Nat → St → Hp → Prop, (∃ m, W 0 m σ H1) ∧ ∀ i m σ H, W i m σ H →
  (J.stop i H ∧ D.nx σ H) ∨ (J.go i H ∧ ∃ N : St → Hp → Prop, (∀ σ' H', N σ' H' → ∃ m', m' < m ∧ W (i + 1) m' σ' H') ∧ ∀ x H', J.yld i H x H' → g x σ H' fun σ2 H2 => tb { D with nx := N, ct := N, bk := D.nx } σ2 H2)
def pinsAt (fp : List Addr) (h : Heap) : List (Addr × Obj) := fp.filterMap fun b => (h.get? b).map fun o => (b, o)
theorem mem_pinsAt {fp : List Addr} {h : Heap} {b : Addr} {o : Obj} (hb : b ∈ fp) (e : h.get? b = some o) : (b, o) ∈ pinsAt fp h := List.mem_filterMap.mpr ⟨b, hb, by rw [e]; rfl⟩
theorem of_pinsAt {fp : List Addr} {h : Heap} {p : Addr × Obj} (hp : p ∈ pinsAt fp h) : p.1 ∈ fp ∧ h.get? p.1 = some p.2 := by
  obtain ⟨b, hb, e⟩ := List.mem_filterMap.mp hp
  cases q : h.get? b with
  | none => rw [q] at e; cases e
  | some o =>
    rw [q] at e
    have e' : (b, o) = p := Option.some.inj e
    subst e'
    exact ⟨hb, q⟩
theorem Inv.pinned {pins : List (Addr × Obj)} {σ : St} {H : Hp} {s : Shared} {fp : List Addr} (I : Inv X pins σ H s) (hf : ∀ b ∈ fp, FpOk X pins H b) (ho : ∀ b ∈ fp, ∃ o, s.heap.get? b = some o ∧ ∀ v, o.data ≠ .cell v) : Inv X (pins ++ pinsAt fp s.heap) σ H s :=
  I.pins_of fun p hp => (List.mem_append.mp hp).elim (fun z => I.pin p (List.mem_append_right _ z)) fun z => by
    obtain ⟨hb, e⟩ := of_pinsAt z
    obtain ⟨f0, f1, f2, _⟩ := hf p.1 hb
    obtain ⟨o, e', d⟩ := ho p.1 hb
    rw [e] at e'; cases e'
    exact ⟨e, f0, f1, f2, d⟩
theorem Inv.unpinned {pins pl : List (Addr × Obj)} {σ : St} {H : Hp} {s : Shared} (I : Inv X (pins ++ pl) σ H s) : Inv X pins σ H s := I.pins_of fun p hp => I.pin p (List.mem_append_right _ (List.mem_append_left _ hp))
theorem ps_for {iter : Expr} {body : List Stmt} {wi : TI} {g : TG} {tb : TS} {pos : Pos} (hp : PassesOwn (model X.prog X.w) X.A X.env X.xe) (hc : X.calm = true) (hi : PI X tg iter wi) (hg : PG X tg g) (hb : PSs X body tb)
    (hs : ∀ x, foldedSetIterable iter X.env x = pure x := by intro _; rfl) : PS X (.For tg iter body [] pos) (tFor wi g tb) := by
  intro pins s σ H D I h
  refine wpAny_For (thn (hi pins s σ H _ I h) fun v s1 h1 => thn h1 fun itv s2 h2 => ?_) hs
  obtain ⟨it, fp, tn, J, H2, e, I2, T, st2, f2, W, ⟨m0, w0⟩, turn⟩ := h2
  subst e
  have stat : ∀ {H' : Hp}, (∀ b ∈ fp, H' b = none) → ∀ b ∈ fp, FpOk X pins H' b := fun hn b hb => ⟨hn b hb, (f2 b hb).2⟩
  refine codeAny_forLoop_any (fun n s' => ∃ i σ' H', Inv X pins σ' H' s' ∧ tn i s'.heap ∧ (∀ b ∈ fp, H' b = none) ∧ W i n σ' H') ?_ m0 ⟨0, σ, H2, I2, st2, fun b hb => (f2 b hb).1, w0⟩
  rintro n s3 ⟨i, σ3, H3, I3, st3, fr3, w3⟩
  rcases turn i n σ3 H3 w3 with ⟨stop, qn⟩ | ⟨go, N, hN, step⟩
  · refine wpAny_passesOwn hp (thn (T.done X rfl rfl rfl hc i pins s3 σ3 H3 X.xe I3 (stat fr3) st3 stop) fun r s4 ⟨hr, I4⟩ => ?_)
    subst hr
    exact wpAny_execs_nil ⟨σ3, H3, I4, qn⟩
  · refine wpAny_passesOwn hp (thn (T.item X rfl rfl rfl hc i pins s3 σ3 H3 X.xe I3 (stat fr3) st3 go) fun r s4 ⟨u, hr, h4⟩ => ?_)
    subst hr
    refine wpAny_passesOwn hp (thn h4 fun _ s5 ⟨x, H5, I5, r5, y5, st5, fr5⟩ => ?_)
    have I5' := I5.pinned (stat fr5) (T.obj _ _ st5)
    refine wpAny_passesOwn hp (thn (hg _ s5 σ3 H5 x u _ I5' r5 (step x H5 y5)) fun _ s6 ⟨σ6, H6, I6, q6⟩ => ?_)
    refine wpAny_passesOwn hp (thn (hb _ s6 σ6 H6 _ I6 q6) fun f s7 q7 => ?_)
    have again : ∀ {σ7 : St} {H7 : Hp}, Inv X (pins ++ pinsAt fp s5.heap) σ7 H7 s7 → N σ7 H7 → ∃ m, m < n ∧ ∃ i σ' H', Inv X pins σ' H' s7 ∧ tn i s7.heap ∧ (∀ b ∈ fp, H' b = none) ∧ W i m σ' H' := fun {σ7 H7} I7 n7 => by
      obtain ⟨m', hm, w7⟩ := hN σ7 H7 n7
      refine ⟨m', hm, i + 1, σ7, H7, I7.unpinned, T.keep _ _ _ st5 fun b hb o e => (I7.pin (b, o) (List.mem_append_right _ (List.mem_append_right _ (mem_pinsAt hb e)))).1, fun b hb => ?_, w7⟩
      obtain ⟨o, e, d⟩ := T.obj _ _ st5 b hb
      exact (I7.pin (b, o) (List.mem_append_right _ (List.mem_append_right _ (mem_pinsAt hb e)))).2.1
    cases f with
    | next => obtain ⟨σ7, H7, I7, n7⟩ := q7; exact again I7 n7
    | cont => obtain ⟨σ7, H7, I7, n7⟩ := q7; exact again I7 n7
    | brk => obtain ⟨σ7, H7, I7, q7⟩ := q7; exact ⟨σ7, H7, I7.unpinned, q7⟩
    | ret v => obtain ⟨x7, σ7, H7, I7, r7, q7⟩ := q7; exact ⟨x7, σ7, H7, I7.unpinned, r7, q7⟩
end
theorem for_list {K : PySem.W.Frag} {a : Addr} {xs : List V} {g : TG} {tb : TS} {D : Ends} {σ : St} {H : Hp} (Pv : Nat → St → Hp → Prop) (h0 : Pv 0 σ H) (hl : ∀ i σ H, i ≤ xs.length → Pv i σ H → SqL K H a xs)
    (hs : ∀ i x σ H, xs[i]? = some x → Pv i σ H → g x σ H fun σ2 H2 => tb { D with nx := Pv (i + 1), ct := Pv (i + 1), bk := D.nx } σ2 H2) (hd : ∀ σ H, Pv xs.length σ H → D.nx σ H) :
    ∃ W : Nat → Nat → St → Hp → Prop, (∃ m, W 0 m σ H) ∧ ∀ i m σ H, W i m σ H →
      ((Itl K a).stop i H ∧ D.nx σ H) ∨ ((Itl K a).go i H ∧ ∃ N : St → Hp → Prop, (∀ σ' H', N σ' H' → ∃ m', m' < m ∧ W (i + 1) m' σ' H') ∧ ∀ x H', (Itl K a).yld i H x H' → g x σ H' fun σ2 H2 => tb { D with nx := N, ct := N, bk := D.nx } σ2 H2) := by
  refine ⟨fun i m σ H => m = xs.length - i ∧ i ≤ xs.length ∧ Pv i σ H, ⟨xs.length, by simp, Nat.zero_le _, h0⟩, ?_⟩
  rintro i m σ H ⟨rfl, hi, p⟩
  have q := hl i σ H hi p
  by_cases hlt : i < xs.length
  · refine .inr ⟨⟨xs, xs[i], q, by simp [hlt]⟩, Pv (i + 1), fun σ' H' p' => ⟨xs.length - (i + 1), by trivial, rfl, hlt, p'⟩, fun x H' y => ?_⟩
    obtain ⟨e, y⟩ := y
    subst e
    exact hs i x σ _ (y xs q) p
  · have e : i = xs.length := by trivial
    subst e
    exact .inl ⟨⟨xs, q, Nat.le_refl _⟩, hd σ H p⟩
theorem for_tup {K : PySem.W.Frag} {a : Addr} {xs : List V} {g : TG} {tb : TS} {D : Ends} {σ : St} {H : Hp} (Pv : Nat → St → Hp → Prop) (h0 : Pv 0 σ H) (hl : ∀ i σ H, i ≤ xs.length → Pv i σ H → SqT K H a xs)
    (hs : ∀ i x σ H, xs[i]? = some x → Pv i σ H → g x σ H fun σ2 H2 => tb { D with nx := Pv (i + 1), ct := Pv (i + 1), bk := D.nx } σ2 H2) (hd : ∀ σ H, Pv xs.length σ H → D.nx σ H) :
    ∃ W : Nat → Nat → St → Hp → Prop, (∃ m, W 0 m σ H) ∧ ∀ i m σ H, W i m σ H →
      ((Itt K a).stop i H ∧ D.nx σ H) ∨ ((Itt K a).go i H ∧ ∃ N : St → Hp → Prop, (∀ σ' H', N σ' H' → ∃ m', m' < m ∧ W (i + 1) m' σ' H') ∧ ∀ x H', (Itt K a).yld i H x H' → g x σ H' fun σ2 H2 => tb { D with nx := N, ct := N, bk := D.nx } σ2 H2) := by
  refine ⟨fun i m σ H => m = xs.length - i ∧ i ≤ xs.length ∧ Pv i σ H, ⟨xs.length, by simp, Nat.zero_le _, h0⟩, ?_⟩
  rintro i m σ H ⟨rfl, hi, p⟩
  have q := hl i σ H hi p
  by_cases hlt : i < xs.length
  · refine .inr ⟨⟨xs, xs[i], q, by simp [hlt]⟩, Pv (i + 1), fun σ' H' p' => ⟨xs.length - (i + 1), by trivial, rfl, hlt, p'⟩, fun x H' y => ?_⟩
    obtain ⟨e, y⟩ := y
    subst e
    exact hs i x σ _ (y xs q) p
  · have e : i = xs.length := by trivial
    subst e
    exact .inl ⟨⟨xs, q, Nat.le_refl _⟩, hd σ H p⟩
theorem for_range {lo : Int} {n : Nat} {g : TG} {tb : TS} {D : Ends} {σ : St} {H : Hp} (Pv : Nat → St → Hp → Prop) (h0 : Pv 0 σ H)
    (hs : ∀ i σ H, i < n → Pv i σ H → g (.int (lo + i)) σ H fun σ2 H2 => tb { D with nx := Pv (i + 1), ct := Pv (i + 1), bk := D.nx } σ2 H2) (hd : ∀ σ H, Pv n σ H → D.nx σ H) :
    ∃ W : Nat → Nat → St → Hp → Prop, (∃ m, W 0 m σ H) ∧ ∀ i m σ H, W i m σ H →
      ((Itr lo n).stop i H ∧ D.nx σ H) ∨ ((Itr lo n).go i H ∧ ∃ N : St → Hp → Prop, (∀ σ' H', N σ' H' → ∃ m', m' < m ∧ W (i + 1) m' σ' H') ∧ ∀ x H', (Itr lo n).yld i H x H' → g x σ H' fun σ2 H2 => tb { D with nx := N, ct := N, bk := D.nx } σ2 H2) := by
  refine ⟨fun i m σ H => m = n - i ∧ i ≤ n ∧ Pv i σ H, ⟨n, by simp, Nat.zero_le _, h0⟩, ?_⟩
  rintro i m σ H ⟨rfl, hi, p⟩
  by_cases hlt : i < n
  · refine .inr ⟨hlt, Pv (i + 1), fun σ' H' p' => ⟨n - (i + 1), by trivial, rfl, hlt, p'⟩, fun x H' y => ?_⟩
    obtain ⟨e, y⟩ := y
    subst e y
    exact hs i σ _ hlt p
  · have e : i = n := by trivial
    subst e
    exact .inl ⟨Nat.le_refl _, hd σ H p⟩
end L2
namespace L2
open PySem PySem.Spec PyProof.Rows
abbrev R2 := V → V → Hp → VK → Prop
def OpR (X : Cx) (f : Value → Value → Sem Value) (r : R2) : Prop :=
  ∀ (pins : List (Addr × Obj)) (s : Shared) (σ : St) (H : Hp) (x y : V) (v u : Value) (Q : VK), Inv X pins σ H s → RelV x v → RelV y u → r x y H Q →
    wpAny (model X.prog X.w) X.A (f v u) (EP X pins σ Q) X.xe s
def UnR (X : Cx) (f : Value → Sem Value) (r : V → Hp → VK → Prop) : Prop :=
  ∀ (pins : List (Addr × Obj)) (s : Shared) (σ : St) (H : Hp) (x : V) (v : Value) (Q : VK), Inv X pins σ H s → RelV x v → r x H Q →
    wpAny (model X.prog X.w) X.A (f v) (EP X pins σ Q) X.xe s
def CallR (X : Cx) (f : Value) (r : List V → Hp → VK → Prop) : Prop :=
  ∀ (pins : List (Addr × Obj)) (s : Shared) (σ : St) (H : Hp) (xs : List V) (us : List Value) (Q : VK), Inv X pins σ H s → Vals xs us → r xs H Q →
    wpAny (model X.prog X.w) X.A (call f us) (EP X pins σ Q) X.xe s
def tOp (r : R2) (ta tb : TE) : TE := fun σ H Q => ta σ H fun x H1 => tb σ H1 fun y H2 => r x y H2 Q
def tUn (r : V → Hp → VK → Prop) (ta : TE) : TE := fun σ H Q => ta σ H fun x H1 => r x H1 Q
inductive rI_ (C : Int → Int → Prop) (g : Int → Int → V) (x : V) (y : V) (H : Hp) (Q : VK) : Prop
  | mk (i : _) (j : _) (h0 : x = .int i) (h1 : y = .int j) (h2 : C i j) (h3 : Q (g i j) H)
def rI (C : Int → Int → Prop) (g : Int → Int → V) : R2 := fun x y H Q => rI_ C g x y H Q
inductive rI0_ (g : Int → Int → V) (x : V) (y : V) (H : Hp) (Q : VK) : Prop
  | mk (i : _) (j : _) (h0 : x = .int i) (h1 : y = .int j) (h2 : Q (g i j) H)
def rI0 (g : Int → Int → V) : R2 := fun x y H Q => rI0_ g x y H Q
def rU (g : Int → V) : V → Hp → VK → Prop := fun x H Q => IsIn x fun i => Q (g i) H
section
variable {X : Cx} {a b c : Expr} {ta tb tc : TE} {pos : Pos}
theorem binT (ha : PE X a ta) (hb : PE X b tb) {pins : List (Addr × Obj)} {s : Shared} {σ : St} {H : Hp} {R : V → V → Hp → Prop} (I : Inv X pins σ H s)
    (h : ta σ H fun x H1 => tb σ H1 fun y H2 => R x y H2) {Q : Value → Shared → Prop} {f : Value → Value → Sem Value}
    (hf : ∀ v u s2 x y H2, Inv X pins σ H2 s2 → RelV x v → RelV y u → R x y H2 → wpAny (model X.prog X.w) X.A (f v u) Q X.xe s2) :
    wpAny (model X.prog X.w) X.A (eval a X.env) (fun v s₁ => wpAny (model X.prog X.w) X.A (eval b X.env) (fun u s₂ => wpAny (model X.prog X.w) X.A (f v u) Q X.xe s₂) X.xe s₁) X.xe s := by
  refine thn (ha pins s σ H _ I h) fun v s1 ⟨x, H1, I1, r1, q1⟩ => ?_
  refine thn (hb pins s1 σ H1 _ I1 q1) fun u s2 ⟨y, H2, I2, r2, q2⟩ => ?_
  exact hf v u s2 x y H2 I2 r1 r2 q2
theorem pe_op {op : Operator} {r : R2} (ho : OpR X (binaryOp op) r) (ha : PE X a ta) (hb : PE X b tb) : PE X (.BinOp a op b pos) (tOp r ta tb) := by
  intro pins s σ H Q I h
  exact wpAny_BinOp (binT ha hb I h fun v u s2 x y H2 I2 rx ry q => ho pins s2 σ H2 x y v u Q I2 rx ry q)
theorem pe_un {op : UnaryOp} {r : V → Hp → VK → Prop} (ho : UnR X (unaryOp op) r) (ha : PE X a ta) : PE X (.UnaryOp op a pos) (tUn r ta) := by
  intro pins s σ H Q I h
  exact UnaryOp_ (thn (ha pins s σ H _ I h) fun v s1 ⟨x, H1, I1, r1, q1⟩ => ho pins s1 σ H1 x v Q I1 r1 q1)
theorem opI {f : Value → Value → Sem Value} {C : Int → Int → Prop} {g : Int → Int → Int}
    (rule : ∀ (i j : Int) (t u : Tok) (s : Shared) (Q : Value → Shared → Prop) (E : Value → Shared → Prop), C i j → Q (.int (g i j) s.toks) { s with toks := s.toks + 1 } → wpAny (model X.prog X.w) X.A (f (.int i t) (.int j u)) Q E s) :
    OpR X f (rI C fun i j => .int (g i j)) := by
  intro pins s σ H x y v u Q I rx ry h
  obtain ⟨i, j, rfl, rfl, hc, q⟩ := h
  obtain ⟨t, rfl⟩ := rx
  obtain ⟨t', rfl⟩ := ry
  exact rule i j t t' s _ _ hc ⟨.int (g i j), H, I.tok _, ⟨_, rfl⟩, q⟩
theorem opI0 {f : Value → Value → Sem Value} {g : Int → Int → Int}
    (rule : ∀ (i j : Int) (t u : Tok) (s : Shared) (Q : Value → Shared → Prop) (E : Value → Shared → Prop), Q (.int (g i j) s.toks) { s with toks := s.toks + 1 } → wpAny (model X.prog X.w) X.A (f (.int i t) (.int j u)) Q E s) :
    OpR X f (rI0 fun i j => .int (g i j)) := by
  intro pins s σ H x y v u Q I rx ry h
  obtain ⟨i, j, rfl, rfl, q⟩ := h
  obtain ⟨t, rfl⟩ := rx
  obtain ⟨t', rfl⟩ := ry
  exact rule i j t t' s _ _ ⟨.int (g i j), H, I.tok _, ⟨_, rfl⟩, q⟩
theorem opB0 {f : Value → Value → Sem Value} {g : Int → Int → Bool}
    (rule : ∀ (i j : Int) (t u : Tok) (s : Shared) (Q : Value → Shared → Prop) (E : Value → Shared → Prop), Q (.bool (g i j)) s → wpAny (model X.prog X.w) X.A (f (.int i t) (.int j u)) Q E s) :
    OpR X f (rI0 fun i j => .bl (g i j)) := by
  intro pins s σ H x y v u Q I rx ry h
  obtain ⟨i, j, rfl, rfl, q⟩ := h
  obtain ⟨t, rfl⟩ := rx
  obtain ⟨t', rfl⟩ := ry
  exact rule i j t t' s _ _ ⟨.bl (g i j), H, I, rfl, q⟩
def CDiv (i j : Int) : Prop := 0 < j ∧ j < 1073741824
def CPow (i j : Int) : Prop := 0 ≤ j ∧ j ≤ 1000000 ∧ i.natAbs < 2 ^ 64
def CMul (i j : Int) : Prop := (-(2 ^ 64) < i ∧ i < 2 ^ 64) ∨ (-(2 ^ 64) < j ∧ j < 2 ^ 64)
theorem CMul.ok {i j : Int} (h : CMul i j) : IntMulOk i j := by
  rcases h with ⟨h1, h2⟩ | ⟨h1, h2⟩
  · exact .of_left (intBits_le_64 h1 h2)
  · exact .of_right (intBits_le_64 h1 h2)
theorem op_add : OpR X (binaryOp .Add) (rI0 fun i j => .int (i + j)) := opI0 fun _ _ _ _ _ _ _ q => add_int q
theorem op_sub : OpR X (binaryOp .Sub) (rI0 fun i j => .int (i - j)) := opI0 fun _ _ _ _ _ _ _ q => sub_int q
theorem op_mul : OpR X (binaryOp .Mult) (rI CMul fun i j => .int (i * j)) := opI fun _ _ _ _ _ _ _ hc q => mul_int q hc.ok
theorem op_fdiv : OpR X (binaryOp .FloorDiv) (rI CDiv fun i j => .int (i / j)) := opI fun i j _ _ _ _ _ hc q => by
  have h1 : (0 : Int) < j := hc.1
  have h2 : j < 1073741824 := hc.2
  exact floordiv_int (by trivial) (by rw [Int.fdiv_eq_ediv_of_nonneg i (by trivial)]; exact q) (.inl (PyProof.noPylong_small (by trivial)))
theorem op_mod : OpR X (binaryOp .Mod) (rI (fun _ j => 0 < j) fun i j => .int (i % j)) := opI fun i j _ _ _ _ _ hc q => by
  have h1 : (0 : Int) < j := hc
  exact mod_int' (by trivial) (by rw [Int.fmod_eq_emod_of_nonneg i (by trivial)]; exact q)
theorem op_modN : OpR X (binaryOp .Mod) (rI (fun _ j => j ≠ 0) fun i j => .int (i.fmod j)) := opI fun _ _ _ _ _ _ _ hc q => mod_int' hc q
theorem op_pow : OpR X (binaryOp .Pow) (rI CPow fun i j => .int (i ^ j.toNat)) := opI fun _ _ _ _ _ _ _ hc q => pow_int_small hc.1 hc.2.1 hc.2.2 q
theorem unI {f : Value → Sem Value} {g : Int → Int}
    (rule : ∀ (i : Int) (t : Tok) (s : Shared) (Q : Value → Shared → Prop) (E : Value → Shared → Prop), Q (.int (g i) s.toks) { s with toks := s.toks + 1 } → wpAny (model X.prog X.w) X.A (f (.int i t)) Q E s) :
    UnR X f (rU fun i => .int (g i)) := by
  intro pins s σ H x v Q I rx h
  obtain ⟨i, rfl, q⟩ := h
  obtain ⟨t, rfl⟩ := rx
  exact rule i t s _ _ ⟨.int (g i), H, I.tok _, ⟨_, rfl⟩, q⟩
theorem un_neg : UnR X (unaryOp .USub) (rU fun i => .int (-i)) := unI fun _ _ _ _ _ q => neg_int q
end
def scal : V → V → Bool
  | .non, .non => true | .non, .int _ => true | .int _, .non => true | .non, .bl _ => true | .bl _, .non => true | .non, .str _ => true | .str _, .non => true
  | .int _, .int _ => true | .bl _, .bl _ => true | .str _, .str _ => true | .byt _, .byt _ => true
  | .int _, .str _ => true | .str _, .int _ => true | .bl _, .str _ => true | .str _, .bl _ => true
  | _, _ => false
def rEq : R2 := fun x y H Q => scal x y = true ∧ Q (.bl (decide (x = y))) H
def rNe : R2 := fun x y H Q => scal x y = true ∧ Q (.bl (!decide (x = y))) H
theorem dec_int {i j : Int} : decide (V.int i = V.int j) = (i == j) := by
  rw [Bool.eq_iff_iff]
  simp
theorem dec_bl {i j : Bool} : decide (V.bl i = V.bl j) = (i == j) := by
  rw [Bool.eq_iff_iff]
  simp
theorem dec_str {i j : Str} : decide (V.str i = V.str j) = (i == j) := by
  rw [Bool.eq_iff_iff]
  simp
theorem dec_byt {i j : Array UInt8} : decide (V.byt i = V.byt j) = (i.toList == j.toList) := by
  rw [Bool.eq_iff_iff]
  cases i
  cases j
  simp
section
variable {X : Cx} {a b c : Expr} {ta tb tc : TE} {pos : Pos}
theorem fin_bl {pins : List (Addr × Obj)} {σ : St} {H : Hp} {s : Shared} {Q : VK} {k k' : Bool} (I : Inv X pins σ H s) (q : Q (.bl k) H) (e : k = k') : EP X pins σ Q (.bool k') s := by
  subst e
  exact ⟨.bl k, H, I, rfl, q⟩
theorem op_eq : OpR X (compareOp .Eq) rEq := by
  intro pins s σ H x y v u Q I rx ry h
  obtain ⟨hs, q⟩ := h
  cases x with
  | non =>
    cases rx
    cases y with
    | non => cases ry; exact PySem.EqNone.eq_none_none (fin_bl I q (by simp))
    | bl j => cases ry; exact PySem.EqNone.eq_none_bool (fin_bl I q (by simp))
    | int j => obtain ⟨t', rfl⟩ := ry; exact PySem.EqNone.eq_none_int (fin_bl I q (by simp))
    | str j => obtain ⟨t', rfl⟩ := ry; exact PySem.EqNone.eq_none_str (fin_bl I q (by simp))
    | _ => exact absurd (show false = true from hs) Bool.false_ne_true
  | bl i =>
    cases rx
    cases y with
    | non => cases ry; exact PySem.EqNone.eq_bool_none (fin_bl I q (by simp))
    | bl j => cases ry; exact eq_bool (fin_bl I q dec_bl)
    | str j => obtain ⟨t', rfl⟩ := ry; exact PySem.EqMixed.eq_bool_str (fin_bl I q (by simp))
    | _ => exact absurd (show false = true from hs) Bool.false_ne_true
  | int i =>
    obtain ⟨t, rfl⟩ := rx
    cases y with
    | non => cases ry; exact PySem.EqNone.eq_int_none (fin_bl I q (by simp))
    | int j => obtain ⟨t', rfl⟩ := ry; exact eq_int (fin_bl I q dec_int)
    | str j => obtain ⟨t', rfl⟩ := ry; exact PySem.EqMixed.eq_int_str (fin_bl I q (by simp))
    | _ => exact absurd (show false = true from hs) Bool.false_ne_true
  | str i =>
    obtain ⟨t, rfl⟩ := rx
    cases y with
    | non => cases ry; exact PySem.EqNone.eq_str_none (fin_bl I q (by simp))
    | bl j => cases ry; exact PySem.EqMixed.eq_str_bool (fin_bl I q (by simp))
    | int j => obtain ⟨t', rfl⟩ := ry; exact PySem.EqMixed.eq_str_int (fin_bl I q (by simp))
    | str j => obtain ⟨t', rfl⟩ := ry; exact eq_str (fin_bl I q dec_str)
    | _ => exact absurd (show false = true from hs) Bool.false_ne_true
  | byt i =>
    obtain ⟨t, rfl⟩ := rx
    cases y with
    | byt j => obtain ⟨t', rfl⟩ := ry; exact PySem.W.eq_bytes (fin_bl I q dec_byt)
    | _ => exact absurd (show false = true from hs) Bool.false_ne_true
  | _ => cases y <;> exact absurd (show false = true from hs) Bool.false_ne_true
theorem op_ne : OpR X (compareOp .NotEq) rNe := by
  intro pins s σ H x y v u Q I rx ry h
  obtain ⟨hs, q⟩ := h
  cases x with
  | non =>
    cases rx
    cases y with
    | non => cases ry; exact PySem.EqNone.ne_none_none (fin_bl I q (by simp))
    | bl j => cases ry; exact PySem.EqNone.ne_none_bool (fin_bl I q (by simp))
    | int j => obtain ⟨t', rfl⟩ := ry; exact PySem.EqNone.ne_none_int (fin_bl I q (by simp))
    | str j => obtain ⟨t', rfl⟩ := ry; exact PySem.EqNone.ne_none_str (fin_bl I q (by simp))
    | _ => exact absurd (show false = true from hs) Bool.false_ne_true
  | bl i =>
    cases rx
    cases y with
    | non => cases ry; exact PySem.EqNone.ne_bool_none (fin_bl I q (by simp))
    | bl j => cases ry; exact ne_bool (fin_bl I q (congrArg not dec_bl))
    | str j => obtain ⟨t', rfl⟩ := ry; exact PySem.EqMixed.ne_bool_str (fin_bl I q (by simp))
    | _ => exact absurd (show false = true from hs) Bool.false_ne_true
  | int i =>
    obtain ⟨t, rfl⟩ := rx
    cases y with
    | non => cases ry; exact PySem.EqNone.ne_int_none (fin_bl I q (by simp))
    | int j => obtain ⟨t', rfl⟩ := ry; exact ne_int (fin_bl I q (congrArg not dec_int))
    | str j => obtain ⟨t', rfl⟩ := ry; exact PySem.EqMixed.ne_int_str (fin_bl I q (by simp))
    | _ => exact absurd (show false = true from hs) Bool.false_ne_true
  | str i =>
    obtain ⟨t, rfl⟩ := rx
    cases y with
    | non => cases ry; exact PySem.EqNone.ne_str_none (fin_bl I q (by simp))
    | bl j => cases ry; exact PySem.EqMixed.ne_str_bool (fin_bl I q (by simp))
    | int j => obtain ⟨t', rfl⟩ := ry; exact PySem.EqMixed.ne_str_int (fin_bl I q (by simp))
    | str j => obtain ⟨t', rfl⟩ := ry; exact ne_str (fin_bl I q (congrArg not dec_str))
    | _ => exact absurd (show false = true from hs) Bool.false_ne_true
  | byt i =>
    obtain ⟨t, rfl⟩ := rx
    cases y with
    | byt j => obtain ⟨t', rfl⟩ := ry; exact PySem.W.ne_bytes (fin_bl I q (congrArg not dec_byt))
    | _ => exact absurd (show false = true from hs) Bool.false_ne_true
  | _ => cases y <;> exact absurd (show false = true from hs) Bool.false_ne_true
theorem op_lt : OpR X (compareOp .Lt) (rI0 fun i j => .bl (decide (i < j))) := opB0 fun _ _ _ _ _ _ _ q => lt_int q
theorem op_le : OpR X (compareOp .LtE) (rI0 fun i j => .bl (decide (i ≤ j))) := opB0 fun _ _ _ _ _ _ _ q => le_int q
theorem op_gt : OpR X (compareOp .Gt) (rI0 fun i j => .bl (decide (j < i))) := opB0 fun _ _ _ _ _ _ _ q => gt_int q
theorem op_ge : OpR X (compareOp .GtE) (rI0 fun i j => .bl (decide (j ≤ i))) := opB0 fun _ _ _ _ _ _ _ q => ge_int q
theorem nomark (b : Expr) {op : CmpOp} (h : op ≠ .In := by decide) (h2 : op ≠ .NotIn := by decide) : behindInMarks op b = false := by
  have e1 : (op == CmpOp.In) = false := by cases op <;> first | rfl | exact absurd rfl h
  have e2 : (op == CmpOp.NotIn) = false := by cases op <;> first | rfl | exact absurd rfl h2
  cases b <;> simp [behindInMarks, e1, e2]
theorem pe_cmpR {op : CmpOp} {r : R2} (ho : OpR X (compareOp op) r) (ha : PE X a ta) (hb : PE X b tb) (hm : behindInMarks op b = false) : PE X (.Compare a [op] [b] pos) (tOp r ta tb) := by
  intro pins s σ H Q I h
  exact wpAny_Compare1 (binT ha hb I h fun v u s2 x y H2 I2 rx ry q => ho pins s2 σ H2 x y v u Q I2 rx ry q) hm
def tTest (t : TE) : TT := fun σ H Q => t σ H fun x H' => IsBl x fun k => Q k H'
theorem pt_cmpR {op : CmpOp} {r : R2} (ho : OpR X (compareOp op) r) (ha : PE X a ta) (hb : PE X b tb) (hm : behindInMarks op b = false) : PT X (.Compare a [op] [b] pos) (tTest (tOp r ta tb)) := by
  intro pins s σ H Q I h
  refine wpAny_isTrue_Compare1 (thn (ha pins s σ H _ I h) fun v s1 ⟨x, H1, I1, r1, q1⟩ => thn (hb pins s1 σ H1 _ I1 q1) fun u s2 ⟨y, H2, I2, r2, q2⟩ =>
    thn (ho pins s2 σ H2 x y v u _ I2 r1 r2 q2) fun c s3 ⟨z, H3, I3, r3, k, e, q3⟩ => ?_) hm
  subst e
  cases r3
  exact wpAny_truthy_bool ⟨H3, I3, q3⟩
theorem line63 : (sizeLine : Nat) < 2 ^ 63 := by rw [sizeLine_eq]; decide
theorem op_add_str : OpR X (binaryOp .Add) (fun x y H Q => Ex2 fun i j => x = .str i ∧ y = .str j ∧ i.length + j.length ≤ sizeLine ∧ Q (.str (i ++ j)) H) := by
  intro pins s σ H x y v u Q I rx ry h
  obtain ⟨i, j, rfl, rfl, hz, q⟩ := h
  obtain ⟨t, rfl⟩ := rx
  obtain ⟨t', rfl⟩ := ry
  exact add_str (fun t' tk => ⟨.str (i ++ j), H, I.tok _, ⟨_, rfl⟩, q⟩) hz
theorem vals1 {x : V} {us : List Value} (r : Vals [x] us) : ∃ u, us = [u] ∧ RelV x u := by
  cases r with
  | cons r1 r2 => cases r2; exact ⟨_, rfl, r1⟩
theorem vals2 {x y : V} {us : List Value} (r : Vals [x, y] us) : Ex2 fun u w' => us = [u, w'] ∧ RelV x u ∧ RelV y w' := by
  cases r with
  | cons r1 r2 =>
    cases r2 with
    | cons r3 r4 => cases r4; exact ⟨_, _, rfl, r1, r3⟩
theorem call_abs : CallR X (.builtin "abs") (fun xs H Q => ∃ i, xs = [.int i] ∧ Q (.int (if i < 0 then -i else i)) H) := by
  intro pins s σ H xs us Q I r h
  obtain ⟨i, rfl, q⟩ := h
  obtain ⟨u, rfl, t, rfl⟩ := vals1 r
  exact call_abs_int fun u tk => ⟨.int (if i < 0 then -i else i), H, I.tok _, ⟨_, rfl⟩, q⟩
theorem call_max2 (hc : X.calm = true) : CallR X (.builtin "max") (fun xs H Q => Ex2 fun i j => xs = [.int i, .int j] ∧ Q (.int (if j > i then j else i)) H) := by
  intro pins s σ H xs us Q I r h
  obtain ⟨i, j, rfl, q⟩ := h
  obtain ⟨u, w', rfl, ⟨t, rfl⟩, ⟨t', rfl⟩⟩ := vals2 r
  refine max_two_ints (I.ok.hd hc) fun h' tk k => ⟨_, H, I.kept k, ?_, q⟩
  by_cases hj : j > i
  · rw [if_pos hj, if_pos hj]; exact ⟨_, rfl⟩
  · rw [if_neg hj, if_neg hj]; exact ⟨_, rfl⟩
theorem call_int1 : CallR X (.type "int") (fun xs H Q => (∃ i, xs = [.int i] ∧ Q (.int i) H) ∨ ∃ k, xs = [.bl k] ∧ Q (.int (if k then 1 else 0)) H) := by
  intro pins s σ H xs us Q I r h
  rcases h with ⟨i, rfl, q⟩ | ⟨k, rfl, q⟩
  · obtain ⟨u, rfl, t, rfl⟩ := vals1 r
    exact call_int_int ⟨.int i, H, I, ⟨_, rfl⟩, q⟩
  · obtain ⟨u, rfl, r1⟩ := vals1 r
    cases r1
    exact call_int_bool ⟨.int (if k then 1 else 0), H, I.tok _, ⟨_, rfl⟩, q⟩
theorem call_str_int : CallR X (.type "str") (fun xs H Q => ∃ i, xs = [.int i] ∧ i.natAbs.log2 < 1920 ∧ Q (.str (toString i)) H) := by
  intro pins s σ H xs us Q I r h
  obtain ⟨i, rfl, hz, q⟩ := h
  obtain ⟨u, rfl, t, rfl⟩ := vals1 r
  exact PySem.P.str_of_int hz ⟨.str _, H, I.tok _, ⟨_, rfl⟩, q⟩
end
end L2
namespace L2
open PySem PySem.Spec PyProof.Rows
structure ObjM (h : Heap) (x dx C : Addr) (mA : Str → Option Value) : Prop where
  obj : h.get? x = some (PySem.W.instObj C dx)
  ns : h.Ns1 dx mA
  ne : dx ≠ x
theorem lookIn_ns {h : Heap} {dx : Addr} {mA : Str → Option Value} (n : h.Ns1 dx mA) : ∃ od, h.get? dx = some od ∧ ∀ name, PySem.W.lookIn name od = some (mA name) := by
  obtain ⟨o, es, ep, ho, hd, hk, _, hm⟩ := n
  refine ⟨o, ho, fun name => ?_⟩
  have e := hm name
  unfold nsFind findBy at e
  rw [← Array.find?_toList] at e
  unfold PySem.W.lookIn
  rw [hd]
  dsimp only
  split
  · rename_i y q
    rw [q] at e
    exact congrArg some e
  · rename_i q
    rw [q] at e
    have a : es.toList.any (·.refKey) = false := by
      rw [List.any_eq_false]
      intro y hy
      obtain ⟨z, t, hkey⟩ := hk y (Array.mem_toList_iff.mp hy)
      simp [DictEntry.refKey, hkey]
    have a' : ¬ es.toList.any (·.refKey) = true := by rw [a]; exact Bool.false_ne_true
    rw [if_neg a']
    exact congrArg some e
theorem ObjM.look {h : Heap} {x dx C : Addr} {mA : Str → Option Value} (I : ObjM h x dx C mA) : ∃ od, PySem.W.InstAt h x (PySem.W.instObj C dx) C (some od) ∧ ∀ name, PySem.W.lookIn name od = some (mA name) :=
  let ⟨od, ho, hl⟩ := lookIn_ns I.ns
  ⟨od, ⟨I.obj, rfl, rfl, ho⟩, hl⟩
section
variable {prog : Program} {w : World} {A : Around} {E : Value → Shared → Prop} {s : Shared} {K : PySem.W.Frag} {x dx C f : Addr} {mA : Str → Option Value} {name : Str} {v : Value}
end
section
variable {P : Program} {w : World} {H H' : Hp} {h h' : Heap} {a C dx : Addr} {fs fs' : List (Str × V)}
theorem ins_get (hok : HOk P w H h) (e : H a = some (.ins C dx fs)) : ∃ mA, ObjM h a dx C mA ∧ (∀ f, RelO (fs.lookup f) (mA f)) ∧ PySem.Within mA (fs.map (·.1)) ∧ fs.length ≤ 1000 ∧ H dx = some (.own a) := by
  obtain ⟨d, z, ne, ob, mA, n, r, q⟩ := (show ObjOk P w H h a (.ins C dx fs) from hok a _ e)
  exact ⟨mA, ⟨ob, n, ne⟩, r, q, z, d⟩
end
structure Cls (K : PySem.W.Frag) (C : Addr) : Prop where
  pg : PySem.W.plainGet K C Str.empty = true
  hd : PySem.W.hasDictIn K C = true
  po : PySem.W.plainOver K C = true
  sa : PySem.W.findIn K (.ref C) "__setattr__" = some (some (.builtin "object.__setattr__"))
theorem Cls.get {K : PySem.W.Frag} {C : Addr} (c : Cls K C) (f : Str) : PySem.W.plainGet K C f = true := c.pg
section
variable {X : Cx} {pins : List (Addr × Obj)} {σ : St} {H : Hp} {s : Shared} {a C dx : Addr} {fs : List (Str × V)} {f : Str} {v : V} {A : Around} {E : Value → Shared → Prop}
end
section
variable {X : Cx} {o e value : Expr} {f : Str} {pos pos' tpos : Pos} {ta tv : TE}
end
section
variable {X : Cx} {pins : List (Addr × Obj)} {σ : St} {H : Hp} {s : Shared} {A : Around} {E : Value → Shared → Prop} {Q : Value → Shared → Prop} {c : Value} {b : Bool}
inductive TyOf (K : PySem.W.Frag) (H : Hp) : V → Value → Prop where
  | non : TyOf K H .non (.type "NoneType")
  | bl (x : Bool) : TyOf K H (.bl x) (.type "bool")
  | int (i : Int) : TyOf K H (.int i) (.type "int")
  | str (x : Str) : TyOf K H (.str x) (.type "str")
  | flt (x : UInt64) : TyOf K H (.flt x) (.type "float")
  | lst {a : Addr} {xs : List V} (e : H a = some (.lst xs)) : TyOf K H (.ref a) (.type "list")
  | frz {a : Addr} {o : Obj} {xs : List V} (e : H a = some (.frz o (.lst xs))) : TyOf K H (.ref a) (.type "list")
  | tup {a : Addr} {xs : List V} (e : H a = some (.tup xs)) : TyOf K H (.ref a) (.type "tuple")
  | dK {a : Addr} {kvs : List (Key × V)} (e : H a = some (.dK kvs)) : TyOf K H (.ref a) (.type "dict")
  | dT {a : Addr} {kvs : List (List Key × V)} (e : H a = some (.dT kvs)) : TyOf K H (.ref a) (.type "dict")
  | ins {a C dx : Addr} {fs : List (Str × V)} (e : H a = some (.ins C dx fs)) (cl : Cls K C) (ha : PySem.W.findIn K (.ref C) "__class__" = some (some (.builtin "object.__class__")))
      (hn : PySem.W.specialIn K (.builtin "object.__class__") "__get__" = some (some (.builtin "getset_descriptor.__get__"))) (htk : PySem.W.takesIn K (.builtin "object.__class__") = some true)
      (hm : PySem.W.mroIn K C (.type "object") = some true) : TyOf K H (.ref a) (.ref C)
theorem isinst_ok {x : V} {u t : Value} (I : Inv X pins σ H s) (rx : RelV x u) (ty : TyOf X.K H x t) (e : PySem.W.kitOne X.K t c = some b) (h : ∀ tk, Q (.bool b) { s with toks := tk }) :
    wpAny (model X.prog X.w) A (call (.builtin "isinstance") [u, c]) Q E s := by
  cases ty with
  | non => cases (show u = Value.none from rx); exact PySem.W.kia_one PySem.W.kitx_none I.kIn True.intro e (fun z => nomatch z) h
  | bl y => cases (show u = Value.bool y from rx); exact PySem.W.kia_one PySem.W.kitx_bool I.kIn True.intro e (fun z => nomatch z) h
  | int i => obtain ⟨t, q⟩ := (show ∃ t, u = Value.int i t from rx); cases q; exact PySem.W.kia_one PySem.W.kitx_int I.kIn True.intro e (fun z => nomatch z) h
  | str y => obtain ⟨t, q⟩ := (show ∃ t, u = Value.str y t from rx); cases q; exact PySem.W.kia_one PySem.W.kitx_str I.kIn True.intro e (fun z => nomatch z) h
  | flt y => obtain ⟨t, q⟩ := (show ∃ t, u = Value.float y t from rx); cases q; exact PySem.W.kia_one PySem.W.kitx_float I.kIn True.intro e (fun z => nomatch z) h
  | @lst a xs ea =>
    cases (show u = Value.ref a from rx)
    obtain ⟨_, _, n, _, h1⟩ := (show ObjOk X.prog X.w H s.heap a (.lst xs) from I.hok a _ ea)
    exact PySem.W.kia_one PySem.W.kitx_list I.kIn ⟨_, h1, rfl⟩ e (fun z => nomatch z) h
  | @frz a ob xs ea =>
    cases (show u = Value.ref a from rx)
    obtain ⟨_, _, _, n, _, h1⟩ := (show ObjOk X.prog X.w H s.heap a (.frz ob (.lst xs)) from I.hok a _ ea)
    exact PySem.W.kia_one PySem.W.kitx_list I.kIn ⟨_, h1, rfl⟩ e (fun z => nomatch z) h
  | @tup a xs ea =>
    cases (show u = Value.ref a from rx)
    obtain ⟨_, _, _, p, _⟩ := (show ObjOk X.prog X.w H s.heap a (.tup xs) from I.hok a _ ea)
    obtain ⟨o, h1, h2, _⟩ := p
    exact PySem.W.kia_one PySem.W.kitx_tuple I.kIn ⟨o, h1, h2⟩ e (fun z => nomatch z) h
  | @dK a kvs ea =>
    cases (show u = Value.ref a from rx)
    obtain ⟨_, _, vs, _, p⟩ := (show ObjOk X.prog X.w H s.heap a (.dK kvs) from I.hok a _ ea)
    obtain ⟨o, es, ep, h1, h2, _⟩ := p
    exact PySem.W.kia_one PySem.W.kitx_dict I.kIn ⟨o, h1, h2.1⟩ e (fun z => nomatch z) h
  | @dT a kvs ea =>
    cases (show u = Value.ref a from rx)
    obtain ⟨_, _, xs, _, o, es, ep, h1, h2, _⟩ := (show ObjOk X.prog X.w H s.heap a (.dT kvs) from I.hok a _ ea)
    exact PySem.W.kia_one PySem.W.kitx_dict I.kIn ⟨o, h1, h2.1⟩ e (fun z => nomatch z) h
  | @ins a C dx fs ea cl ha hn htk hm =>
    cases (show u = Value.ref a from rx)
    obtain ⟨mA, O, _⟩ := ins_get I.hok ea
    obtain ⟨od, J, _⟩ := O.look
    exact PySem.W.kia_one (PySem.W.kitx_own (cl.get _) cl.hd ha hn htk hm) I.kIn J e (fun z => nomatch z) h
end
end L2
namespace L2
open PySem PySem.Spec PyProof.Rows
structure Room (k : Nat) (A : Around) : Prop where
  hd : A.handled = none
  dp : A.depth + 3 * k + 5 < recursionLimit
  un : A.units + 16 * k + 200 < cLine
  gd : A.guards = some []
theorem Room.mono {j k : Nat} {A : Around} (r : Room k A) (h : j ≤ k) : Room j A := ⟨r.hd, by have := r.dp; trivial, by have := r.un; trivial, r.gd⟩
theorem Room.deeper {k : Nat} {A : Around} (r : Room (k + 1) A) (env : Env) : Room k (A.deeper env) :=
  ⟨r.hd, by have := r.dp; show A.depth + 1 + 3 * k + 5 < _; trivial, by have := r.un; show A.units + 3 + 16 * k + 200 < _; trivial, r.gd⟩
theorem Room.depth {k : Nat} {A : Around} (r : Room k A) : A.depth < recursionLimit := by have := r.dp; trivial
theorem Room.units {k : Nat} {A : Around} (r : Room k A) : A.units + 64 < cLine := by have := r.un; trivial
def tNil : TA := fun _ H Q => Q [] H
def tCons (ta : TE) (tr : TA) : TA := fun σ H Q => ta σ H fun x H1 => tr σ H1 fun xs H2 => Q (x :: xs) H2
section
variable {X : Cx} {e : Expr} {es : List Expr} {te : TE} {t : TA} {pos : Pos}
theorem pa_nil : PA X [] tNil := fun _ _ _ _ H Q I h => Calls.spliced_nil ⟨[], H, I, .nil, h⟩
theorem pa_cons (ha : PE X e te) (hr : PA X es t) (hs : starEach (e :: es) X.env = (false, eval e X.env) :: starEach es X.env := by rfl) : PA X (e :: es) (tCons te t) := by
  intro pos pins s σ H Q I h
  rw [hs]
  show wpAny _ _ (spliced ((false, eval e X.env) :: backTo pos (starEach es X.env))) _ _ s
  refine Calls.spliced_cons (thn (ha pins s σ H _ I h) fun u s1 ⟨x, H1, I1, r1, q1⟩ => ?_)
  exact thn (hr pos pins s1 σ H1 _ I1 q1) fun us s2 ⟨xs, H2, I2, r2, q2⟩ => ⟨x :: xs, H2, I2, .cons r1 r2, q2⟩
def tLst (t : TA) : TE := fun σ H Q => t σ H fun xs H1 => xs.length ≤ sizeLine ∧ ∀ p, H1 p = none → Q (.ref p) (upd H1 p (.lst xs))
theorem pe_lst (h : PA X es t) : PE X (.List es pos) (tLst t) := by
  intro pins s σ H Q I hq
  refine wpAny_List_spliced (thn (h pos pins s σ H _ I hq) fun us s1 ⟨xs, H1, I1, r, z, q⟩ => ⟨by rw [← r.length]; exact z, ?_⟩)
  have hf : H1 s1.heap.objs.size = none := I1.hok.fresh (Nat.le_refl _)
  refine ⟨.ref s1.heap.objs.size, upd H1 s1.heap.objs.size (.lst xs), I1.laid (t' := s1.toks) (fun b u e => Heap.get?_push_of_some _ e) (Nat.le_refl _) ?_, rfl, q _ hf⟩
  exact ⟨z, us, 0, r, Heap.get?_push_size _ rfl⟩
end
abbrev Sp := List V → Hp → VK → XK → Prop
abbrev CXT := List Env → Hp → Shared → XK → Value → Shared → Prop
structure Env0 (P : Program) (w : World) (K : PySem.W.Frag) (mg : Str → Option Value) (base : Heap) (A : Around) (outer : List Env) (s : Shared) (H : Hp) : Prop where
  frames : A.frames = some outer
  mod : Mod K mg base
  bs : ∀ b o, base.get? b = some o → s.heap.get? b = some o ∧ H b = none
  bsz : base.objs.size ≤ s.heap.objs.size
  funs : s.heap.FunFrames base outer
  frf : ∀ b ∈ frs outer, H b = none
  hok : HOk P w H s.heap
  bare : AllBare s.gens
def CE (outer : List Env) (P : Program) (w : World) (H : Hp) (s : Shared) (Q : VK) (u : Value) (s' : Shared) : Prop :=
  Ex2 fun v H' => s'.os = s.os ∧ AllBare s'.gens ∧ Un (frs outer) [] H H' s.heap s'.heap ∧ HOk P w H' s'.heap ∧ RelV v u ∧ Q v H'
def CR (CX : CXT) (outer : List Env) (P : Program) (w : World) (H : Hp) (s : Shared) (Q : VK) (E : XK) (r : Result) (s' : Shared) : Prop :=
  match r with
  | .ok (.ret u) => CE outer P w H s Q u s'
  | .ok _ => False
  | .error e => CX outer H s E e s'
structure FnOk (P : Program) (w : World) (K : PySem.W.Frag) (mg : Str → Option Value) (base : Heap) (CX : CXT) (k : Nat) (f : Addr) (fd : FuncData) (ps : List Str) (sp : Sp) : Prop where
  len : ∀ vs H Q E, sp vs H Q E → vs.length = ps.length
  run : ∀ (A : Around) (outer : List Env) (s : Shared) (H : Hp) (args : Args) (us : List Value) (vs : List V) (Q : VK) (E : XK), Room k A → Env0 P w K mg base A outer s H → BindsTo s fd args (ps.zip us) → Vals vs us → sp vs H Q E →
    codeAny (model P w) A (.call (.ref f) args) (CR CX outer P w H s Q E) s
section
variable {X : Cx} {pins : List (Addr × Obj)} {σ : St} {H : Hp} {s s' : Shared}
theorem Inv.env0 (I : Inv X pins σ H s) : Env0 X.prog X.w X.K X.mg X.base X.A X.stack s H :=
  ⟨I.ok.frames, I.ok.mod, I.bs, Nat.le_trans I.ok.bsz I.sz, I.stack, I.stkFree, I.hok, I.bare⟩
theorem Inv.after {Q : VK} {u : Value} (I : Inv X pins σ H s) (h : CE X.stack X.prog X.w H s Q u s') : EP X pins σ Q u s' := by
  obtain ⟨v, H', os, bare, un, hok, r, q⟩ := h
  obtain ⟨hh, g, d, t, os'⟩ := s'
  obtain rfl : os' = s.os := os
  exact ⟨v, H', I.call (h' := hh) (g' := g) (d' := d) (t' := t) (ch := []) un hok bare (fun b z => absurd z (by simp)), r, q⟩
end
def tCall (sp : Sp) (dvs : List V) (E : XK) (t : TA) : TE := fun σ H Q => t σ H fun vs H1 => sp (vs ++ dvs) H1 Q E
def Binds (K : PySem.W.Frag) (fd : FuncData) (ps : List Str) (ds : List Value) : Prop :=
  ∀ (s : Shared) (us : List Value), K.In s.heap → (us ++ ds).length = ps.length → BindsTo s fd ⟨us, []⟩ (ps.zip (us ++ ds))
theorem Binds.all {K : PySem.W.Frag} {fd : FuncData} {ps : List Str} (h : ∀ us : List Value, us.length = ps.length → bindArgs fd ⟨us, []⟩ = pure (ps.zip us)) : Binds K fd ps [] := fun s us _ hl => by
  rw [List.append_nil] at hl ⊢
  exact .of_eq (h us hl)
def Passes (CX : CXT) (X : Cx) (E : XK) : Prop := ∀ (pins : List (Addr × Obj)) (σ : St) (H : Hp) (s : Shared) (e : Value) (s' : Shared), Inv X pins σ H s → CX X.stack H s E e s' → X.xe e s'
section
variable {X : Cx} {CX : CXT} {k : Nat} {f C : Addr} {fd : FuncData} {ps : List Str} {sp : Sp} {dvs : List V} {ds : List Value} {E : XK} {x m : Str} {p pos apos : Pos} {e o : Expr} {es : List Expr} {ta : TE} {t : TA}
theorem run_fn {pins : List (Addr × Obj)} {σ : St} {H : Hp} {s : Shared} {Q : VK} {us : List Value} {vs : List V} (F : FnOk X.prog X.w X.K X.mg X.base CX k f fd ps sp) (hr : Room k X.A) (hb : Binds X.K fd ps ds) (hd : Vals dvs ds) (hx : Passes CX X E)
    (I : Inv X pins σ H s) (r : Vals vs us) (h : sp (vs ++ dvs) H Q E) : wpAny (model X.prog X.w) X.A (call (.ref f) us) (EP X pins σ Q) X.xe s := by
  have r2 : Vals (vs ++ dvs) (us ++ ds) := r.append hd
  have hl : (us ++ ds).length = ps.length := by rw [← r2.length]; exact F.len _ _ _ _ h
  refine wpAny_call (codeAny_mono (F.run X.A X.stack s H ⟨us, []⟩ (us ++ ds) (vs ++ dvs) Q E hr I.env0 (hb s us I.kIn hl) r2 h) fun r s' hq => ?_)
  cases r with
  | error e => exact hx pins σ H s e s' I hq
  | ok fl =>
    cases fl with
    | ret u => exact I.after hq
    | next => exact False.elim hq
    | brk => exact False.elim hq
    | cont => exact False.elim hq
theorem pe_call (F : FnOk X.prog X.w X.K X.mg X.base CX k f fd ps sp) (hr : Room k X.A) (hg : Gl X x) (hm : X.mg x = some (.ref f)) (hk : PySem.W.keepIn X.K (.ref f) = true) (hb : Binds X.K fd ps ds) (hd : Vals dvs ds) (hx : Passes CX X E)
    (ha : PA X (e :: es) t) (hdb : (x == ("__debug__" : Str)) = false := by decide) (he : starEach (e :: es) X.env = (false, eval e X.env) :: starEach es X.env := by rfl) (hpl : (backTo pos (starEach es X.env)).any (·.1) = false := by rfl) :
    PE X (.Call (.Name x p) (e :: es) [] pos) (tCall sp dvs E t) := by
  intro pins s σ H Q I h
  refine wpAny_Call_Name_kw (ld_glob I hg hm ?_ hdb)
  refine PySem.W.callWith_K (h₀ := X.base) I.ok.mod.kin hk (thn (ha pos pins s σ H _ I h) fun us s1 ⟨vs, H1, I1, r, q⟩ => ⟨I1.kIn, ?_⟩) he hpl
  exact run_fn F hr hb hd hx I1 r q
end
section
variable {X : Cx} {CX : CXT} {k : Nat} {f C : Addr} {fd : FuncData} {ps ks : List Str} {sp : Sp} {E : XK} {x m : Str} {p pos apos kpos : Pos} {e o : Expr} {es : List Expr} {kws : List Keyword} {te ta : TE} {t tk : TA} {nm : Option Str}
variable {g : List Value → List Value → List Value} {gV : List V → List V → List V}
end
structure FnScope (N P : List Str) (sc : Scope) : Prop where
  kind : sc.kind = .function
  co : sc.isCoroutine = false
  gen : sc.isGenerator = false
  nd : N.Nodup
  pre : N.take P.length = P
  par : ∀ x ∈ P, sc.names.lookup x = some .local ∨ sc.names.lookup x = some .cell
  nofree : ∀ y ∈ sc.names, y.2 ≠ .free
theorem bindL_out {kindOf : Str → Option NameKind} {x : Str} : ∀ {binds : List (Str × Value)} {m : Str → Option Value}, (∀ v, (x, v) ∉ binds) → bindL kindOf binds m x = m x
  | [], _, _ => rfl
  | (n, v) :: r, m, h => by
    unfold bindL
    rw [bindL_out fun w hw => h w (List.mem_cons_of_mem _ hw)]
    split
    · have : x ≠ n := by rintro rfl; exact h v List.mem_cons_self
      simp [this]
    · rfl
theorem bindC_out {kindOf : Str → Option NameKind} {x : Str} : ∀ {binds : List (Str × Value)} {m : Str → Option Value}, (∀ v, (x, v) ∉ binds) → bindC kindOf binds m x = m x
  | [], _, _ => rfl
  | (n, v) :: r, m, h => by
    unfold bindC
    rw [bindC_out fun w hw => h w (List.mem_cons_of_mem _ hw)]
    split
    · rfl
    · have : x ≠ n := by rintro rfl; exact h v List.mem_cons_self
      simp [this]
theorem bindL_get {kindOf : Str → Option NameKind} {x : Str} {v : Value} : ∀ {P : List Str} {vs : List Value} {i : Nat} {m : Str → Option Value}, P.Nodup → P[i]? = some x → vs[i]? = some v → kindOf x = some .local →
    bindL kindOf (P.zip vs) m x = some v
  | [], _, _, _, _, h, _, _ => by simp at h
  | _ :: _, [], _, _, _, _, h, _ => by simp at h
  | p :: P, w :: vs, 0, m, nd, h1, h2, hk => by
    simp at h1 h2; subst h1; subst h2
    show bindL kindOf ((p, w) :: P.zip vs) m p = _
    unfold bindL
    rw [bindL_out fun v hv => (List.nodup_cons.mp nd).1 (List.of_mem_zip hv).1, if_pos hk]
    simp
  | p :: P, w :: vs, i + 1, m, nd, h1, h2, hk => by
    show bindL kindOf ((p, w) :: P.zip vs) m x = _
    unfold bindL
    exact bindL_get (i := i) (List.nodup_cons.mp nd).2 (by simpa using h1) (by simpa using h2) hk
theorem bindC_get {kindOf : Str → Option NameKind} {x : Str} {v : Value} : ∀ {P : List Str} {vs : List Value} {i : Nat} {m : Str → Option Value}, P.Nodup → P[i]? = some x → vs[i]? = some v → kindOf x ≠ some .local →
    bindC kindOf (P.zip vs) m x = some v
  | [], _, _, _, _, h, _, _ => by simp at h
  | _ :: _, [], _, _, _, _, h, _ => by simp at h
  | p :: P, w :: vs, 0, m, nd, h1, h2, hk => by
    simp at h1 h2; subst h1; subst h2
    show bindC kindOf ((p, w) :: P.zip vs) m p = _
    unfold bindC
    rw [bindC_out fun v hv => (List.nodup_cons.mp nd).1 (List.of_mem_zip hv).1, if_neg hk]
    simp
  | p :: P, w :: vs, i + 1, m, nd, h1, h2, hk => by
    show bindC kindOf ((p, w) :: P.zip vs) m x = _
    unfold bindC
    exact bindC_get (i := i) (List.nodup_cons.mp nd).2 (by simpa using h1) (by simpa using h2) hk
def start (N : List Str) (vs : List V) : St := vs.map some ++ List.replicate (N.length - vs.length) none
def cxOf (CX : CXT) (P : Program) (w : World) (K : PySem.W.Frag) (mg : Str → Option Value) (base : Heap) (N : List Str) (qual : Str) (scope : Scope) (f : Addr) (cd : Value) (A : Around) (outer : List Env) (s : Shared) (H : Hp) (E : XK) : Cx where
  prog := P
  w := w
  K := K
  mg := mg
  base := base
  A := A.deeper (envOfC qual scope s.heap.objs.size f cd)
  N := N
  s₀ := s
  H₀ := H
  env := envOfC qual scope s.heap.objs.size f cd
  outer := outer
  stack := envOfC qual scope s.heap.objs.size f cd :: outer
  ex := []
  calm := true
  fn := fun _ => true
  pn := []
  xe := fun e s' => wpAny (model P w) (A.deeper (envOfC qual scope s.heap.objs.size f cd)) (leaving (envOfC qual scope s.heap.objs.size f cd) e) (fun _ s'' => CX outer H s E e s'') (fun e' s'' => CX outer H s E e' s'') s'
theorem cell_has {sc : Scope} {n : Nat} {x : Str} (h : sc.names.lookup x = some .cell) : ∃ c, (cellsFrom n sc.names []).lookup x = some c := by
  have q := PySem.W.cellsFrom_some sc.names n [] (.inl h)
  exact Option.isSome_iff_exists.mp q
theorem inv_start {CX : CXT} {P : Program} {w : World} {K : PySem.W.Frag} {mg : Str → Option Value} {base : Heap} {N ps : List Str} {qual : Str} {scope : Scope} {f : Addr} {cd : Value} {A : Around} {outer : List Env} {s s1 : Shared} {H : Hp} {E : XK} {us : List Value} {vs : List V}
    (S : FnScope N ps scope) (hd : A.handled = none) (e0 : Env0 P w K mg base A outer s H) (hl : vs.length = ps.length) (r : Vals vs us)
    (x : InCallC s s.heap.objs.size (bindL (envOfC qual scope s.heap.objs.size f cd).kindOf (ps.zip us) fun _ => none) (cellsFrom (s.heap.objs.size + 1) scope.names []) (bindC (envOfC qual scope s.heap.objs.size f cd).kindOf (ps.zip us) fun _ => none) s1) :
    Inv (cxOf CX P w K mg base N qual scope f cd A outer s H E) [] (start N vs) H s1 := by
  have hpl : ps.length ≤ N.length := by have := congrArg List.length S.pre; rw [List.length_take] at this; trivial
  obtain ⟨h1, tk, rfl, hk⟩ := x.done
  have noA : ∀ b : Addr, b ∉ (cxOf CX P w K mg base N qual scope f cd A outer s H E).ex := fun b z => absurd (show b ∈ ([] : List Addr) from z) (by simp)
  refine ⟨⟨e0.mod, S.kind, rfl, rfl, Nat.le_refl _, fun y z c h1 h2 => ?_, fun y hy => ?_, fun y c _ h => ?_, fun _ => hd, Around.frames_deeper e0.frames, .inr ⟨rfl, rfl⟩, fun b z => absurd z (noA b), e0.bs, e0.bsz, fun b _ _ => noA b, fun b z => absurd z (noA b), e0.funs, e0.frf⟩,
    rfl, e0.bare, Un.kept hk, ⟨_, x.toInCall.ns, fun i y v h1 h2 h3 => ?_⟩, fun y c h => ⟨_, x.cell y c h⟩, e0.hok.fresh (Nat.le_refl _), fun y c h => ?_, fun p hp => absurd (show p ∈ ([] : List (Addr × Obj)) from hp) (by simp), e0.hok.kept hk, ?_⟩
  · exact name_of_addr x.apart (PySem.mem_of_lookup h1) (PySem.mem_of_lookup h2)
  · have hy : scope.names.lookup y = some .cell ∨ scope.names.lookup y = some .free := hy
    rcases hy with hy | hy
    · exact cell_has hy
    · exact absurd rfl (S.nofree _ (PySem.mem_of_lookup hy))
  · exact Nat.le_of_lt (x.above y c (PySem.mem_of_lookup h))
  · have hi : i < vs.length := by
      unfold start at h2
      by_cases hi : i < vs.length
      · exact hi
      · rw [List.getElem?_append_right (by simpa using hi)] at h2
        rw [List.getElem?_replicate] at h2
        split at h2 <;> cases h2
    have ha : vs[i]? = some v := by
      unfold start at h2
      rw [List.getElem?_append_left (by simpa using hi), List.getElem?_map] at h2
      cases e : vs[i]? with
      | none => rw [e] at h2; cases h2
      | some a => rw [e] at h2; cases h2; rfl
    obtain ⟨u, hu, rv⟩ := r.get ha
    have hp : ps[i]? = some y := by
      rw [← S.pre, List.getElem?_take_of_lt (by trivial)]; exact h1
    have ndP : ps.Nodup := by rw [← S.pre]; exact S.nd.sublist (List.take_sublist _ _)
    refine ⟨u, rv, ?_⟩
    rcases S.par y (List.mem_of_getElem? hp) with k | k
    · exact .inl ⟨k, bindL_get ndP hp hu k⟩
    · obtain ⟨c, e⟩ := cell_has (n := s.heap.objs.size + 1) k
      refine .inr ⟨.inl k, c, e, ?_⟩
      have q := x.cell y c e
      rw [bindC_get ndP hp hu (by show scope.names.lookup y ≠ _; rw [k]; decide)] at q
      exact q
  · exact e0.hok.fresh (Nat.le_of_lt (x.above y c (PySem.mem_of_lookup h)))
  · unfold start
    show _ = N.length
    rw [List.length_append, List.length_map, List.length_replicate]
    trivial
theorem fn_of {CX : CXT} {P : Program} {w : World} {K : PySem.W.Frag} {mg : Str → Option Value} {base : Heap} {k : Nat} {f : Addr} {name qual : Str} {params : Arguments} {body : List Stmt} {scope : Scope} {dV kV doc pm cdv ct oc : Value} {an od : Option Addr}
    {osl : Array (Option Value)} {N ps : List Str} {sp : Sp} (lk : K.lookup f = some ⟨oc, od, .func (PySem.W.fnOf name qual params body scope dV kV doc pm an cdv ct), osl⟩) (hcd : PySem.W.codeIn K cdv qual = true) (S : FnScope N ps scope)
    (len : ∀ vs H Q E, sp vs H Q E → vs.length = ps.length)
    (hbody : ∀ (A : Around) (outer : List Env) (s : Shared) (H : Hp) (vs : List V) (Q : VK) (E : XK), Room k (A.deeper (envOfC qual scope s.heap.objs.size f cdv)) → sp vs H Q E →
      ∃ t, PSs (cxOf CX P w K mg base N qual scope f cdv A outer s H E) body t ∧ t { nx := fun _ H' => Q .non H', rt := Q } (start N vs) H) :
    FnOk P w K mg base CX (k + 1) f (PySem.W.fnOf name qual params body scope dV kV doc pm an cdv ct) ps sp := by
  refine ⟨len, fun A outer s H args us vs Q E hr e0 hb r hsp => ?_⟩
  have hl := len _ _ _ _ hsp
  have KX : K.In s.heap := e0.mod.kin.keeps fun b o e => (e0.bs b o e).1
  have lim : s.heap.NoLimit := e0.mod.nolimit.keeps fun b o e => (e0.bs b o e).1
  have hkind : ∀ y ∈ ps.zip us, scope.names.lookup y.1 = some .local ∨ (scope.names.lookup y.1 = some .cell ∧ ((cellsFrom (s.heap.objs.size + 1) scope.names []).lookup y.1).isSome = true) := fun ⟨n, v⟩ hy => by
    rcases S.par n (List.of_mem_zip hy).1 with q | q
    · exact .inl q
    · exact .inr ⟨q, PySem.W.cellsFrom_some _ _ _ (.inl q)⟩
  refine codeAny_call_function hr.depth (KX _ _ lk) rfl S.co S.gen rfl (PySem.W.codeRec_of KX hcd) (hb _ _ _ _ ?_)
  refine wpAny_newFunctionEnv_cells S.kind hkind fun env he s1 x => ?_
  subst he
  refine ⟨lim.keeps x.toInCall.keep, codeAny_func ?_⟩
  obtain ⟨t, ht, hq⟩ := hbody A outer s H vs Q E (hr.deeper _) hsp
  have I : Inv (cxOf CX P w K mg base N qual scope f cdv A outer s H E) [] (start N vs) H s1 := inv_start S hr.hd e0 hl r x
  refine wpAny_mono (ht [] s1 (start N vs) H _ I hq) (fun fl s' hs => ?_) fun e s' hs => hs
  have fin : ∀ {σ' : St} {H' : Hp} {v : V} {u : Value}, Inv (cxOf CX P w K mg base N qual scope f cdv A outer s H E) [] σ' H' s' → RelV v u → Q v H' → CE outer P w H s Q u s' :=
    fun {σ' H' v u} J rv q => ⟨v, H', J.os, J.bare, J.base, J.hok, rv, q⟩
  cases fl with
  | ret u =>
    obtain ⟨v, σ', H', J, rv, q⟩ := hs
    exact fin J rv q
  | next =>
    obtain ⟨σ', H', J, q⟩ := hs
    exact fin (v := V.non) (u := Value.none) J rfl q
  | brk =>
    obtain ⟨_, _, _, q⟩ := hs
    exact False.elim q
  | cont =>
    obtain ⟨_, _, _, q⟩ := hs
    exact False.elim q
end L2
namespace L2
open PySem PySem.Spec PyProof.Rows
section
variable {X : Cx} {x : Str} {p pos : Pos} {e : Expr} {es : List Expr} {t : TA} {id T : String} {r : List V → Hp → VK → Prop}
def tCB (r : List V → Hp → VK → Prop) (t : TA) : TE := fun σ H Q => t σ H fun vs H1 => r vs H1 Q
theorem pe_callB (hc : CallR X (.builtin id) r) (hg : Gl X x) (hm : X.mg x = none) (hv : bootBuiltins x = some (.builtin id)) (ha : PA X (e :: es) t) (hn : x ≠ "__name__" := by decide) (hdb : (x == ("__debug__" : Str)) = false := by decide)
    (he : starEach (e :: es) X.env = (false, eval e X.env) :: starEach es X.env := by rfl) (hpl : (backTo pos (starEach es X.env)).any (·.1) = false := by rfl) : PE X (.Call (.Name x p) (e :: es) [] pos) (tCB r t) := by
  intro pins s σ H Q I h
  refine wpAny_Call_Name_kw (ld_blt I hg hm hv ?_ hn hdb)
  exact PyProof.Rows.callWith_builtin1 (thn (ha pos pins s σ H _ I h) fun us s1 ⟨vs, H1, I1, r1, q1⟩ => hc pins s1 σ H1 vs us Q I1 r1 q1) he hpl
theorem pe_callTy (hc : CallR X (.type T) r) (hg : Gl X x) (hm : X.mg x = none) (hv : bootBuiltins x = some (.type T)) (ha : PA X (e :: es) t) (hn : x ≠ "__name__" := by decide) (hdb : (x == ("__debug__" : Str)) = false := by decide)
    (he : starEach (e :: es) X.env = (false, eval e X.env) :: starEach es X.env := by rfl) (hpl : (backTo pos (starEach es X.env)).any (·.1) = false := by rfl) : PE X (.Call (.Name x p) (e :: es) [] pos) (tCB r t) := by
  intro pins s σ H Q I h
  refine wpAny_Call_Name_kw (ld_blt I hg hm hv ?_ hn hdb)
  exact PyProof.Rows.callWith_type1 (thn (ha pos pins s σ H _ I h) fun us s1 ⟨vs, H1, I1, r1, q1⟩ => hc pins s1 σ H1 vs us Q I1 r1 q1) he hpl
end
end L2
namespace HT
open PySem PyProof.Rows
section
open PySem.SeqAt
open PySem.AutoSeq1 (wpAny_loadPart')
open PySem.MeetsSeq PySem.MeetsSeq2 PySem.MeetsSeq3
end
section
variable {prog : Program} {w : World} {A : Around} {E : Value → Shared → Prop} {s : Shared}
theorem cat_tup {t b : Addr} {vs ws : List Value} {Q : Value → Shared → Prop} (ht : IsTup s.heap t vs.toArray) (hb : IsTup s.heap b ws.toArray) (hv : vs ≠ [])
    (h1 : ws = [] → Q (.ref t) s) (h2 : ws ≠ [] → Q (.ref s.heap.objs.size) { s with heap := s.heap.push { cls := .type "tuple", data := .seq (vs ++ ws).toArray } })
    (hsz : vs.length + ws.length ≤ sizeLine) : wpAny (model prog w) A (binaryOp .Add (.ref t) (.ref b)) Q E s := by
  obtain ⟨⟨cls, dd, data, sl⟩, ho, hc, n, hd⟩ := id ht
  obtain ⟨⟨cls2, dd2, data2, sl2⟩, ho2, hc2, n2, hd2⟩ := id hb
  simp only at hc hd hc2 hd2
  subst hc hd hc2 hd2
  have e : vs.toArray ++ ws.toArray = (vs ++ ws).toArray := by simp
  by_cases hw : ws = []
  · exact concat_meets ⟨_, ho, rfl⟩ ⟨_, ho2, rfl⟩ noFill_tuple_add seq_tuple_add PySem.F.slot_tuple_add PySem.F.entry_tuple_add (PySem.F.args_tuple_add_2 _ _)
      (tuple_addW1 t b vs.toArray ws.toArray n n2 dd dd2 sl sl2 (by simpa using hv) (by simp [hw])) ⟨ho, ho2, h1 hw⟩
  · refine concat_meets ⟨_, ho, rfl⟩ ⟨_, ho2, rfl⟩ noFill_tuple_add seq_tuple_add PySem.F.slot_tuple_add PySem.F.entry_tuple_add (PySem.F.args_tuple_add_2 _ _)
      (tuple_addW2 t b vs.toArray ws.toArray n n2 dd dd2 sl sl2 (by simpa using hv) (by simpa using hw) (by rw [List.size_toArray, List.size_toArray]; exact hsz)) ⟨ho, ho2, ?_⟩
    rw [e]
    exact h2 hw
def sIx (n d : Nat) : Option Int → Nat
  | none => d
  | some v => if v < 0 then (v + (n : Int)).toNat else min v.toNat n
theorem sIx_none (n d : Nat) : sIx n d none = d := rfl
theorem sIx_nat (n d k : Nat) : sIx n d (some (k : Int)) = min k n := by
  show (if (k : Int) < 0 then ((k : Int) + (n : Int)).toNat else min (k : Int).toNat n) = min k n
  rw [if_neg (by trivial), Int.toNat_natCast]
theorem sIx_le (n d : Nat) (hd : d ≤ n) (o : Option Int) : sIx n d o ≤ n := by
  cases o with
  | none => exact hd
  | some v =>
    show (if v < 0 then (v + (n : Int)).toNat else min v.toNat n) ≤ n
    by_cases hv : v < 0
    · rw [if_pos hv]; trivial
    · rw [if_neg hv]; exact Nat.min_le_right _ _
theorem clip_eq (v : Int) (n d : Nat) : (if v < 0 then max (v + (n : Int)) 0 else min v (n : Int)) = ((sIx n d (some v) : Nat) : Int) := by
  show (if v < 0 then max (v + (n : Int)) 0 else min v (n : Int)) = (((if v < 0 then (v + (n : Int)).toNat else min v.toNat n) : Nat) : Int)
  by_cases hv : v < 0
  · simp only [if_pos hv]; trivial
  · simp only [if_neg hv]; trivial
theorem adjust_gen (lo hi : Option Int) (n : Nat) : Builtin.Slice.sliceAdjust lo hi 1 (n : Int) = (((sIx n 0 lo : Nat) : Int), ((sIx n n hi : Nat) : Int)) := by
  have h1 : ¬ ((1 : Int) < 0) := by trivial
  unfold Builtin.Slice.sliceAdjust
  simp only [h1, if_false]
  refine Prod.ext ?_ ?_
  · cases lo with
    | none => rfl
    | some v => exact clip_eq v n 0
  · cases hi with
    | none => rfl
    | some v => exact clip_eq v n n
theorem places_gen (i j : Nat) : Builtin.Slice.slicePlaces (i : Int) (j : Int) 1 = j - i := by
  unfold Builtin.Slice.slicePlaces
  have h1 : (1 : Int) > 0 := by trivial
  simp only [h1, if_true, Int.ediv_one]
  split <;> trivial
theorem slicePart_ {v : Value} {o : Option Int} {Q : Option Int → Shared → Prop} (p : IsPart v o) (h : Q o s) : wpAny (model prog w) A (Builtin.Slice.slicePartIndex v) Q E s := by
  cases p with
  | none => exact slicePart_none h
  | int i t => exact slicePart_int h
theorem sliceApplied_gen {sl : Addr} {vl vu : Value} {lo hi : Option Int} {n : Nat} {Q : Int × Int × Nat → Shared → Prop} (hs : s.heap.IsSliceOf sl vl vu .none) (pl : IsPart vl lo) (pu : IsPart vu hi)
    (h : Q (((sIx n 0 lo : Nat) : Int), 1, sIx n n hi - sIx n 0 lo) s) : wpAny (model prog w) A (Builtin.Slice.sliceApplied (.ref sl) (pure (n : Int))) Q E s := by
  obtain ⟨os, hos, hcs, hds⟩ := id hs
  unfold Builtin.Slice.sliceApplied Builtin.Slice.sliceFields
  refine wpAny_bind (wpAny_bind (wpAny_field hos hds (x := vl) rfl (wpAny_bind (wpAny_field hos hds (x := vu) rfl (wpAny_bind (wpAny_field hos hds (x := .none) rfl (wpAny_pure ?_)))))))
  refine wpAny_bind (slicePart_none ?_)
  show wpAny _ _ (if ((1 : Int) == 0) = true then _ else _) _ _ s
  rw [if_neg (by decide)]
  refine wpAny_bind (slicePart_ pl (wpAny_bind (slicePart_ pu (wpAny_bind (wpAny_pure ?_)))))
  show wpAny _ _ (match Builtin.Slice.sliceAdjust lo hi 1 (n : Int) with | (lo, hi) => pure (lo, (1 : Int), Builtin.Slice.slicePlaces lo hi 1)) _ _ s
  rw [adjust_gen lo hi n]
  show wpAny _ _ (pure (((sIx n 0 lo : Nat) : Int), (1 : Int), Builtin.Slice.slicePlaces ((sIx n 0 lo : Nat) : Int) ((sIx n n hi : Nat) : Int) 1)) _ _ s
  rw [places_gen]
  exact wpAny_pure h
theorem pick_gen (xs : Array Value) (i k : Nat) : ((List.range k).filterMap fun (m : Nat) => xs[((i : Int) + (m : Int) * 1).toNat]?).toArray = ((xs.toList.drop i).take k).toArray := by
  have e : (fun (m : Nat) => xs[((i : Int) + (m : Int) * 1).toNat]?) = fun m => xs[i + m]? := by
    funext m
    have : ((i : Int) + (m : Int) * 1).toNat = i + m := by trivial
    rw [this]
  rw [e]
  have := pick_run xs i k
  rw [List.filterMap_map] at this
  have e2 : ((fun x => xs[x]?) ∘ fun x => i + x) = fun m => xs[i + m]? := rfl
  rw [e2] at this
  rw [this]
theorem getItem_tuple_cut {t sl : Addr} {items : Array Value} {vl vu : Value} {lo hi : Option Int} {Q : Value → Shared → Prop} (ht : IsTup s.heap t items) (hs : s.heap.IsSliceOf sl vl vu .none) (pl : IsPart vl lo) (pu : IsPart vu hi)
    (hw : ¬ (sIx items.size 0 lo = 0 ∧ sIx items.size items.size hi = items.size))
    (h : Q (.ref s.heap.objs.size) { s with heap := s.heap.push { cls := .type "tuple", data := .seq ((items.toList.drop (sIx items.size 0 lo)).take (sIx items.size items.size hi - sIx items.size 0 lo)).toArray } })
    (hsz : items.size ≤ sizeLine) : wpAny (model prog w) A (getItem (.ref t) (.ref sl)) Q E s := by
  have htake : sizeOk (.seq ((items.toList.drop (sIx items.size 0 lo)).take (sIx items.size items.size hi - sIx items.size 0 lo)).toArray) := by
    show ((items.toList.drop (sIx items.size 0 lo)).take (sIx items.size items.size hi - sIx items.size 0 lo)).toArray.size ≤ sizeLine
    rw [List.size_toArray, List.length_take, List.length_drop, Array.length_toList]
    trivial
  have hj : sIx items.size items.size hi ≤ items.size := sIx_le _ _ (Nat.le_refl _) hi
  obtain ⟨os, hos, hcs, hds⟩ := id hs
  have hTs : s.TypeIs (.ref sl) "slice" := ⟨os, hos, hcs⟩
  unfold getItem
  try with_reducible refine wpAny_holding ?_
  first | refine wpAny_bind (wpAny_pure ?_) | skip
  refine wpAny_bind (wpAny_sequenceKey ht.typeIs (by decide) ?_)
  refine wpAny_bind (wpAny_callSpecial?_slot (name := Str.ofString "__getitem__") ht.typeIs PyProof.Rows.slot_tuple_getitem
    (wpAny_call_entry PyProof.Rows.slot_tuple_getitem ht.typeIs entry_tuple_getitem ?_ (args_tuple_getitem _ _)))
  show wpAny _ _ (Builtin.Tuple.tupleItemsOf (.ref t) >>= _) _ _ s
  refine wpAny_bind (tupleItemsOf_ ht ?_)
  refine wpAny_bind (wpAny_typeOf hTs ?_)
  rw [if_pos (by decide)]
  refine wpAny_bind (sliceApplied_gen hs pl pu ?_)
  have hno : ¬ ((((sIx items.size 0 lo : Nat) : Int) == 0 && (1 : Int) == 1 && (sIx items.size items.size hi - sIx items.size 0 lo) == items.size) = true) := by
    intro q
    rw [Bool.and_eq_true, Bool.and_eq_true] at q
    have q1 : ((sIx items.size 0 lo : Nat) : Int) = 0 := eq_of_beq q.1.1
    have q2 : sIx items.size items.size hi - sIx items.size 0 lo = items.size := eq_of_beq q.2
    exact hw ⟨by trivial, by trivial⟩
  show wpAny _ _ (if (((sIx items.size 0 lo : Nat) : Int) == 0 && (1 : Int) == 1 && (sIx items.size items.size hi - sIx items.size 0 lo) == items.size) = true then _ else _) _ _ s
  rw [if_neg hno, pick_gen]
  first
    | exact wpAny_bind (m := Builtin.Tuple.tupleExact _) (wpAny_newObj_type (wpAny_pure ⟨_, rfl, wpAny_pure h⟩) htake)
    | exact wpAny_bind (m := Builtin.Tuple.tupleExact _) (wpAny_newObj_type (wpAny_bind (wpAny_pure (wpAny_pure ⟨_, rfl, wpAny_pure h⟩))) htake)
    | exact wpAny_bind (wpAny_bind (m := Builtin.Tuple.tupleExact _) (wpAny_newObj_type (wpAny_pure (wpAny_pure ⟨_, rfl, wpAny_pure h⟩)) htake))
    | exact wpAny_bind (wpAny_bind (m := Builtin.Tuple.tupleExact _) (wpAny_newObj_type (wpAny_pure ⟨_, rfl, wpAny_pure h⟩) htake))
end
end HT
namespace L2
open PySem PySem.Spec PyProof.Rows
abbrev TO := St → Hp → (Option Int → Hp → Prop) → Prop
def PO (X : Cx) (e : Option Expr) (t : TO) : Prop :=
  ∀ (pins : List (Addr × Obj)) (s : Shared) (σ : St) (H : Hp) (Q : Option Int → Hp → Prop), Inv X pins σ H s → t σ H Q →
    wpAny (model X.prog X.w) X.A (evalPart e X.env) (fun u s' => Ex2 fun o H' => Inv X pins σ H' s' ∧ IsPart u o ∧ Q o H') X.xe s
def tNoPart : TO := fun _ H Q => Q none H
def tPart (t : TE) : TO := fun σ H Q => t σ H fun x H1 => IsIn x fun i => Q (some i) H1
section
variable {X : Cx} {e : Expr} {te : TE} {lo hi : Option Expr} {tl th : TO} {pos p2 : Pos}
theorem po_none : PO X none tNoPart := by
  intro pins s σ H Q I h
  rw [evalPart_none]
  exact wpAny_pure ⟨none, H, I, .none, h⟩
theorem po_some (h : PE X e te) : PO X (some e) (tPart te) := by
  intro pins s σ H Q I hw
  rw [evalPart_some]
  refine thn (h pins s σ H _ I hw) fun u s1 ⟨x, H1, I1, r1, q1⟩ => ?_
  obtain ⟨i, rfl, q⟩ := q1
  obtain ⟨t, rfl⟩ := r1
  exact ⟨some i, H1, I1, .int i t, q⟩
def SlR (X : Cx) (r : V → Option Int → Option Int → Hp → VK → Prop) : Prop :=
  ∀ (pins : List (Addr × Obj)) (s : Shared) (σ : St) (H : Hp) (x : V) (v vl vu : Value) (lo hi : Option Int) (sl : Addr) (Q : VK), Inv X pins σ H s → RelV x v → s.heap.IsSliceOf sl vl vu .none → IsPart vl lo → IsPart vu hi → r x lo hi H Q →
    Ex2 fun T id => typeLookup (.type T) "__getitem__" = pure (some (.builtin id)) ∧ s.TypeIs v T ∧ wpAny (model X.prog X.w) X.A (getItem v (.ref sl)) (EP X pins σ Q) X.xe s
def tSl (r : V → Option Int → Option Int → Hp → VK → Prop) (te : TE) (tl th : TO) : TE := fun σ H Q => te σ H fun x H1 => tl σ H1 fun l H2 => th σ H2 fun u H3 => r x l u H3 Q
theorem pe_slice {r : V → Option Int → Option Int → Hp → VK → Prop} (hr : SlR X r) (he : PE X e te) (hl : PO X lo tl) (hu : PO X hi th) : PE X (.Subscript e (.Slice lo hi none p2) pos) (tSl r te tl th) := by
  intro pins s σ H Q I h
  refine Subscript_ (thn (he pins s σ H _ I h) fun v s1 ⟨x, H1, I1, r1, q1⟩ => ?_)
  refine wpAny_Slice (thn (hl pins s1 σ H1 _ I1 q1) fun vl s2 ⟨l, H2, I2, pl, q2⟩ => thn (hu pins s2 σ H2 _ I2 q2) fun vu s3 ⟨u, H3, I3, pu, q3⟩ => ?_)
  rw [evalPart_none]
  refine wpAny_pure ?_
  have I4 : Inv X pins σ H3 { s3 with heap := s3.heap.push { cls := .type "slice", data := .fields #[vl, vu, .none] } } := I3.kept (t' := s3.toks) fun b ob q => Heap.get?_push_of_some _ q
  obtain ⟨T, id, hT, ht, hg⟩ := hr pins { s3 with heap := s3.heap.push { cls := .type "slice", data := .fields #[vl, vu, .none] } } σ H3 x v vl vu l u s3.heap.objs.size Q I4 r1 (Heap.IsSliceOf.new ..) pl pu q3
  show wpAny (model X.prog X.w) X.A (subscriptTail e (.Slice lo hi none p2) v (.ref s3.heap.objs.size)) (EP X pins σ Q) X.xe { s3 with heap := s3.heap.push { cls := .type "slice", data := .fields #[vl, vu, .none] } }
  exact tail_any (ops := [.ref s3.heap.objs.size, v]) ht hT hg (by with_unfolding_all rfl)
def cutV (xs : List V) (lo hi : Option Int) : List V := (xs.drop (HT.sIx xs.length 0 lo)).take (HT.sIx xs.length xs.length hi - HT.sIx xs.length 0 lo)
theorem cutV_length (xs : List V) (lo hi : Option Int) : (cutV xs lo hi).length ≤ xs.length := by
  unfold cutV
  rw [List.length_take, List.length_drop]
  trivial
inductive rSlT_ (K : PySem.W.Frag) (x : V) (lo : Option Int) (hi : Option Int) (H : Hp) (Q : VK) : Prop
  | mk (a : _) (xs : _) (h0 : x = .ref a) (h1 : SqT K H a xs) (h2 : ¬ (HT.sIx xs.length 0 lo = 0 ∧ HT.sIx xs.length xs.length hi = xs.length)) (h3 : ∀ p, H p = none → Q (.ref p) (upd H p (.tup (cutV xs lo hi))))
def rSlT (K : PySem.W.Frag) : V → Option Int → Option Int → Hp → VK → Prop := fun x lo hi H Q => rSlT_ K x lo hi H Q
theorem sl_tup : SlR X (rSlT X.K) := by
  intro pins s σ H x v vl vu lo hi sl Q I rx hs pl pu h
  obtain ⟨a, xs, rfl, hx, hw, q⟩ := h
  cases rx
  obtain ⟨its, r, ht, hz⟩ := I.tuple hx
  have hlen : its.toArray.size = xs.length := by rw [List.size_toArray]; exact r.length.symm
  refine ⟨"tuple", _, PyProof.Rows.slot_tuple_getitem.lookup, ht.typeIs, ?_⟩
  refine HT.getItem_tuple_cut ht hs pl pu (by rw [hlen]; exact hw) ?_ (by rw [hlen]; exact hz)
  rw [hlen]
  refine ⟨.ref s.heap.objs.size, _, I.laid (t' := s.toks) (o := .tup (cutV xs lo hi)) (fun b ob q => Heap.get?_push_of_some _ q) (Nat.le_refl _) ?_, rfl, q _ (I.hok.fresh (Nat.le_refl _))⟩
  exact ⟨Nat.le_trans (cutV_length xs lo hi) hz, _, (r.drop (HT.sIx xs.length 0 lo)).take (HT.sIx xs.length xs.length hi - HT.sIx xs.length 0 lo), IsTup.new _ _, _, Heap.get?_push_size _ rfl, rfl⟩
inductive rCatT_ (K : PySem.W.Frag) (x : V) (y : V) (H : Hp) (Q : VK) : Prop
  | mk (a : _) (b : _) (xs : _) (ys : _) (h0 : x = .ref a) (h1 : y = .ref b) (h2 : SqT K H a xs) (h3 : SqT K H b ys) (h4 : xs ≠ []) (h5 : xs.length + ys.length ≤ sizeLine) (h6 : (ys = [] → Q (.ref a) H)) (h7 : (ys ≠ [] → ∀ p, H p = none → Q (.ref p) (upd H p (.tup (xs ++ ys)))))
def rCatT (K : PySem.W.Frag) : R2 := fun x y H Q => rCatT_ K x y H Q
theorem Vals.nil_iff {xs : List V} {us : List Value} (r : Vals xs us) : us = [] ↔ xs = [] := by
  cases r with
  | nil => simp
  | cons _ _ => simp
theorem op_catT : OpR X (binaryOp .Add) (rCatT X.K) := by
  intro pins s σ H x y v u Q I rx ry h
  obtain ⟨a, b, xs, ys, rfl, rfl, ha, hb, hx, hz, q1, q2⟩ := h
  cases rx
  cases ry
  obtain ⟨its, r1, p1, _⟩ := I.tuple ha
  obtain ⟨its2, r2, p2, _⟩ := I.tuple hb
  refine HT.cat_tup p1 p2 (fun z => hx (r1.nil_iff.mp z)) (fun z => ⟨.ref a, H, I, rfl, q1 (r2.nil_iff.mp z)⟩) (fun z => ?_) (by rw [← r1.length, ← r2.length]; exact hz)
  refine ⟨.ref s.heap.objs.size, _, I.laid (t' := s.toks) (o := .tup (xs ++ ys)) (fun b ob q => Heap.get?_push_of_some _ q) (Nat.le_refl _) ?_, rfl, q2 (fun w => z (r2.nil_iff.mpr w)) _ (I.hok.fresh (Nat.le_refl _))⟩
  exact ⟨by rw [List.length_append]; exact hz, _, r1.append r2, IsTup.new _ _, _, Heap.get?_push_size _ rfl, rfl⟩
end
end L2
namespace L2
open PySem PySem.Spec PyProof.Rows
def ixN (n : Nat) (i : Int) : Option Nat := if 0 ≤ i then (if i < n then some i.toNat else none) else if -(n : Int) ≤ i then some (i + n).toNat else none
def atI {α : Type} (xs : List α) (i : Int) : Option α := (ixN xs.length i).bind fun j => xs[j]?
theorem ixN_seq {n : Nat} {i : Int} {j : Nat} (h : ixN n i = some j) : seqIndex? i n = some j ∧ j < n ∧ -(n : Int) ≤ i ∧ i < n := by
  unfold ixN at h
  by_cases h0 : 0 ≤ i
  · rw [if_pos h0] at h
    by_cases h1 : i < n
    · rw [if_pos h1] at h
      have e : i.toNat = j := Option.some.inj h
      exact ⟨by rw [seqIndex_of h0 h1, e], by trivial, by trivial, h1⟩
    · rw [if_neg h1] at h; cases h
  · rw [if_neg h0] at h
    by_cases h1 : -(n : Int) ≤ i
    · rw [if_pos h1] at h
      have e : (i + n).toNat = j := Option.some.inj h
      exact ⟨by rw [seqIndex_neg (by trivial) h1, e], by trivial, h1, by trivial⟩
    · rw [if_neg h1] at h; cases h
theorem atI_get {α : Type} {xs : List α} {i : Int} {v : α} (h : atI xs i = some v) : ∃ j, seqIndex? i xs.length = some j ∧ xs[j]? = some v ∧ j < xs.length ∧ -(xs.length : Int) ≤ i ∧ i < xs.length := by
  unfold atI at h
  cases e : ixN xs.length i with
  | none => rw [e] at h; cases h
  | some j =>
    rw [e] at h
    obtain ⟨h1, h2, h3, h4⟩ := ixN_seq e
    exact ⟨j, h1, h, h2, h3, h4⟩
theorem atI_nat {α : Type} {xs : List α} {j : Nat} {v : α} (h : xs[j]? = some v) : atI xs (j : Int) = some v := by
  have hj : j < xs.length := (List.getElem?_eq_some_iff.mp h).1
  have e : ixN xs.length (j : Int) = some j := by
    unfold ixN
    rw [if_pos (by trivial), if_pos (by trivial)]; simp
  unfold atI; rw [e]; exact h
def PlainIx (b : Expr) : Prop := ∀ o i, subscripted b false o i = operate [o, i] (getItem o i)
def IxR (X : Cx) (r : R2) : Prop :=
  ∀ (value slice : Expr) (pins : List (Addr × Obj)) (s : Shared) (σ : St) (H : Hp) (x y : V) (v u : Value) (Q : VK), Inv X pins σ H s → RelV x v → RelV y u → r x y H Q →
    subscripted slice false v u = operate [v, u] (getItem v u) → wpAny (model X.prog X.w) X.A (subscriptTail value slice v u) (EP X pins σ Q) X.xe s
def MtR (X : Cx) (id : String) (r : V → List V → Hp → VK → Prop) : Prop :=
  ∀ (pins : List (Addr × Obj)) (s : Shared) (σ : St) (H : Hp) (x : V) (xs : List V) (v : Value) (us : List Value) (Q : VK), Inv X pins σ H s → RelV x v → Vals xs us → r x xs H Q →
    wpAny (model X.prog X.w) X.A (call (.builtin id) (v :: us)) (EP X pins σ Q) X.xe s
section
variable {X : Cx} {a b : Expr} {ta tb : TE} {pos : Pos}
theorem IxR.or {r r' : R2} (h : IxR X r) (h' : IxR X r') : IxR X (fun x y H Q => r x y H Q ∨ r' x y H Q) := by
  intro value slice pins s σ H x y v u Q I rx ry q hs
  rcases q with q | q
  · exact h value slice pins s σ H x y v u Q I rx ry q hs
  · exact h' value slice pins s σ H x y v u Q I rx ry q hs
theorem pe_ix {r : R2} (hr : IxR X r) (ha : PE X a ta) (hb : PE X b tb) (hs : PlainIx b) : PE X (.Subscript a b pos) (tOp r ta tb) := by
  intro pins s σ H Q I h
  exact Subscript_ (binT ha hb I h fun v u s2 x y H2 I2 rx ry q => hr a b pins s2 σ H2 x y v u Q I2 rx ry q (hs _ _))
inductive rIxL_ (K : PySem.W.Frag) (x : V) (y : V) (H : Hp) (Q : VK) : Prop
  | mk (p : _) (xs : _) (i : _) (v : _) (h0 : x = .ref p) (h1 : y = .int i) (h2 : SqL K H p xs) (h3 : atI xs i = some v) (h4 : Q v H)
def rIxL (K : PySem.W.Frag) : R2 := fun x y H Q => rIxL_ K x y H Q
inductive rIxT_ (K : PySem.W.Frag) (x : V) (y : V) (H : Hp) (Q : VK) : Prop
  | mk (p : _) (xs : _) (i : _) (v : _) (h0 : x = .ref p) (h1 : y = .int i) (h2 : SqT K H p xs) (h3 : atI xs i = some v) (h4 : Q v H)
def rIxT (K : PySem.W.Frag) : R2 := fun x y H Q => rIxT_ K x y H Q
inductive rIxS_ (x : V) (y : V) (H : Hp) (Q : VK) : Prop
  | mk (z : _) (i : _) (c : _) (h0 : x = .str z) (h1 : y = .int i) (h2 : z.length ≤ sizeLine) (h3 : atI z.cps.toList i = some c) (h4 : Q (.str ⟨#[c]⟩) H)
def rIxS : R2 := fun x y H Q => rIxS_  x y H Q
theorem ix_list : IxR X (rIxL X.K) := by
  intro value slice pins s σ H x y v u Q I rx ry h hs
  obtain ⟨p, xs, i, z, rfl, rfl, hq, he, q⟩ := h
  cases rx
  obtain ⟨t, rfl⟩ := ry
  obtain ⟨its, r, pl, hz⟩ := I.list hq
  obtain ⟨j, h1, h2, h3, h4, h5⟩ := atI_get he
  obtain ⟨w, ew, rw'⟩ := r.get h2
  have hl := r.length
  have hn := line63
  have fin : EP X pins σ Q w s := ⟨z, H, I, rw', q⟩
  by_cases h0 : 0 ≤ i
  · have hj : i.toNat = j := by
      rw [seqIndex_of h0 h5] at h1
      exact Option.some.inj h1
    exact item_listR pl.isList h0 (by trivial) (by rw [hj]; simpa using ew) fin hs
  · have hj : (i + (its.toArray.size : Int)).toNat = j := by
      rw [seqIndex_neg (by trivial) h4] at h1
      rw [List.size_toArray, ← hl]
      exact Option.some.inj h1
    exact subscriptTail_builtinR (x := w) pl.isList.typeIs slot_list_getitem.lookup
      (wpAny_getItem_list_neg (Q := fun r s' => r = w ∧ EP X pins σ Q r s') pl.isList (by trivial) (by rw [List.size_toArray] <;> trivial) (by trivial) (by rw [hj]; simpa using ew) ⟨rfl, fin⟩) hs
theorem ix_tup : IxR X (rIxT X.K) := by
  intro value slice pins s σ H x y v u Q I rx ry h hs
  obtain ⟨p, xs, i, z, rfl, rfl, hq, he, q⟩ := h
  cases rx
  obtain ⟨t, rfl⟩ := ry
  obtain ⟨its, r, pl, hz⟩ := I.tuple hq
  obtain ⟨j, h1, h2, h3, h4, h5⟩ := atI_get he
  obtain ⟨w, ew, rw'⟩ := r.get h2
  have hl := r.length
  have hn := line63
  have fin : EP X pins σ Q w s := ⟨z, H, I, rw', q⟩
  exact subscriptTail_builtinR (x := w) pl.typeIs slot_tuple_getitem.lookup
    (getItem_tuple (j := j) (Q := fun r s' => r = w ∧ EP X pins σ Q r s') pl (by trivial) (by trivial) (by rw [List.size_toArray, ← hl]; exact h1) (by simpa using ew) ⟨rfl, fin⟩) hs
theorem ix_str : IxR X rIxS := by
  intro value slice pins s σ H x y v u Q I rx ry h hs
  obtain ⟨z, i, c, rfl, rfl, hz, he, q⟩ := h
  obtain ⟨t, rfl⟩ := rx
  obtain ⟨t', rfl⟩ := ry
  obtain ⟨j, h1, h2, h3, h4, h5⟩ := atI_get he
  have hl : z.cps.toList.length = z.length := by simp [Str.length]
  rw [hl] at h1 h4 h5
  have hn := line63
  exact tail_any (typeIs_str s z t) slot_str_getitem.lookup (getItem_str (c := c) (by
    have e1 : decide (i < -(2 ^ 63 : Int)) = false := decide_eq_false (by trivial)
    have e2 : decide (i ≥ 2 ^ 63) = false := decide_eq_false (by trivial)
    rw [e1, e2, Bool.or_false]) (by rw [h1]; simpa using h2) ⟨.str ⟨#[c]⟩, H, I.tok _, ⟨_, rfl⟩, q⟩) hs
def rIx (K : PySem.W.Frag) : R2 := fun x y H Q => rIxL K x y H Q ∨ rIxT K x y H Q ∨ rIxS x y H Q
theorem ix_seq : IxR X (rIx X.K) := ix_list.or (ix_tup.or ix_str)
theorem mapSeq_set (its : List Value) (n j : Nat) (u : Value) : Obj.mapSeq (·.setIfInBounds j u) { cls := .type "list", data := .seq its.toArray n } = { cls := .type "list", data := .seq (its.set j u).toArray n } := by
  simp [Obj.mapSeq]
theorem Inv.lst {pins : List (Addr × Obj)} {σ : St} {H : Hp} {s : Shared} {p : Addr} {xs : List V} (I : Inv X pins σ H s) (h : H p = some (.lst xs)) :
    Ex2 fun (its : List Value) (n : Nat) => Vals xs its ∧ s.heap.get? p = some { cls := .type "list", data := .seq its.toArray n } ∧ xs.length ≤ sizeLine := by
  obtain ⟨z, its, n, r, e⟩ := I.hok p _ h
  exact ⟨its, n, r, e, z⟩
theorem Inv.lstUpd {pins : List (Addr × Obj)} {σ : St} {H : Hp} {s : Shared} {p : Addr} {xs ys : List V} {its its' : List Value} {n n' : Nat} {f : Obj → Obj} (I : Inv X pins σ H s) (h : H p = some (.lst xs))
    (ho : s.heap.get? p = some { cls := .type "list", data := .seq its.toArray n }) (hf : f { cls := .type "list", data := .seq its.toArray n } = { cls := .type "list", data := .seq its'.toArray n' }) (r : Vals ys its') (hz : ys.length ≤ sizeLine) (t : Nat) :
    Inv X pins σ (upd H p (.lst ys)) { s with heap := s.heap.update p f, toks := t } := by
  have e : (s.heap.update p f).get? p = some { cls := .type "list", data := .seq its'.toArray n' } := by
    rw [Heap.get?_update_self f ho (by rw [hf] <;> rfl), hf]
  refine I.write (x := p) (e := p) (by rw [h]; trivial) (.inl rfl) (fun b u hb q => (Heap.get?_update_other _ _ (Ne.symm hb)).trans q) ⟨_, e⟩ ?_
  exact ⟨hz, its', n', r, e⟩
inductive rSetL_ (o : V) (i : V) (v : V) (H : Hp) (Q : (Hp → Prop)) : Prop
  | mk (p : _) (xs : _) (k : _) (j : _) (h0 : o = .ref p) (h1 : i = .int k) (h2 : H p = some (.lst xs)) (h3 : ixN xs.length k = some j) (h4 : Q (upd H p (.lst (xs.set j v))))
def rSetL : V → V → V → Hp → (Hp → Prop) → Prop := fun o i v H Q => rSetL_  o i v H Q
theorem set_list : PSet X rSetL := by
  intro pins s σ H o i v ov iv u Q I ro ri rv h
  obtain ⟨p, xs, k, j, rfl, rfl, hp, hj, q⟩ := h
  cases ro
  obtain ⟨t, rfl⟩ := ri
  obtain ⟨its, n, r, ho, hz⟩ := I.lst hp
  obtain ⟨h1, h2, h3, h4⟩ := ixN_seq hj
  have hl := r.length
  have hn := line63
  have I' : Inv X pins σ (upd H p (.lst (xs.set j v))) { s with heap := s.heap.update p (Obj.mapSeq (·.setIfInBounds j u)) } :=
    I.lstUpd hp ho (mapSeq_set its n j u) (r.set rv j) (by rw [List.length_set]; exact hz) s.toks
  by_cases h0 : 0 ≤ k
  · have hk : k.toNat = j := by
      rw [seqIndex_of h0 h4] at h1
      exact Option.some.inj h1
    exact PySem.W.ki_setAt ho h0 (by trivial) (by rw [List.size_toArray, ← hl]; exact h4) (by rw [hk]; exact ⟨_, I', q⟩)
  · have hk : (k + (its.toArray.size : Int)).toNat = j := by
      rw [seqIndex_neg (by trivial) h3] at h1
      rw [List.size_toArray, ← hl]
      exact Option.some.inj h1
    exact PySem.W.ki_setBack ho (by trivial) (by rw [List.size_toArray, ← hl]; exact h3) (by trivial) (by rw [hk]; exact ⟨_, I', q⟩)
theorem slice_bounds (lo hi : Option Int) (n : Nat) : (sliceBounds lo hi none n).1 = ((HT.sIx n 0 lo : Nat) : Int) ∧ (sliceBounds lo hi none n).2.1 = ((HT.sIx n n hi : Nat) : Int) ∧ (sliceBounds lo hi none n).2.2 = 1 := by
  refine ⟨?_, ?_, rfl⟩
  · cases lo with
    | none => simp [sliceBounds, HT.sIx]
    | some i =>
      simp only [sliceBounds, HT.sIx, Option.getD_none, show (1 : Int) > 0 by decide, if_true]
      by_cases h : i < 0
      · simp only [h, if_true] <;> trivial
      · simp only [h, if_false] <;> trivial
  · cases hi with
    | none => simp [sliceBounds, HT.sIx]
    | some i =>
      simp only [sliceBounds, HT.sIx, Option.getD_none, show (1 : Int) > 0 by decide, if_true]
      by_cases h : i < 0
      · simp only [h, if_true] <;> trivial
      · simp only [h, if_false] <;> trivial
theorem slicePick_cut (its : List Value) (lo hi : Option Int) : slicePick its.toArray lo hi none = ((its.drop (HT.sIx its.length 0 lo)).take (HT.sIx its.length its.length hi - HT.sIx its.length 0 lo)).toArray := by
  obtain ⟨h1, h2, h3⟩ := slice_bounds lo hi its.toArray.size
  unfold slicePick
  rw [h1, h2, h3]
  simp only [sliceRange_one, pick_run, List.size_toArray] <;> rfl
inductive rSlL_ (K : PySem.W.Frag) (x : V) (lo : Option Int) (hi : Option Int) (H : Hp) (Q : VK) : Prop
  | mk (a : _) (xs : _) (h0 : x = .ref a) (h1 : SqL K H a xs) (h2 : ∀ p, H p = none → Q (.ref p) (upd H p (.lst (cutV xs lo hi))))
def rSlL (K : PySem.W.Frag) : V → Option Int → Option Int → Hp → VK → Prop := fun x lo hi H Q => rSlL_ K x lo hi H Q
theorem sl_list : SlR X (rSlL X.K) := by
  intro pins s σ H x v vl vu lo hi sl Q I rx hs pl pu h
  obtain ⟨a, xs, rfl, hx, q⟩ := h
  cases rx
  obtain ⟨its, r, ht, hz⟩ := I.list hx
  have hlen := r.length
  refine ⟨"list", _, slot_list_getitem.lookup, ht.isList.typeIs, ?_⟩
  refine wpAny_getItem_list_slice ht.isList hs pl pu .none (by simp) ?_ (by rw [List.size_toArray] <;> trivial)
  rw [slicePick_cut, ← hlen]
  refine ⟨.ref s.heap.objs.size, _, I.laid (t' := s.toks) (o := .lst (cutV xs lo hi)) (fun b ob q => Heap.get?_push_of_some _ q) (Nat.le_refl _) ?_, rfl, q _ (I.hok.fresh (Nat.le_refl _))⟩
  exact ⟨Nat.le_trans (cutV_length xs lo hi) hz, _, 0, (r.drop (HT.sIx xs.length 0 lo)).take (HT.sIx xs.length xs.length hi - HT.sIx xs.length 0 lo), Heap.get?_push_size _ rfl⟩
theorem call_len_seq : CallR X (.builtin "len") (fun xs H Q => Ex2 fun p ys => xs = [.ref p] ∧ (SqL X.K H p ys ∨ SqT X.K H p ys) ∧ Q (.int ys.length) H) := by
  intro pins s σ H xs us Q I r h
  obtain ⟨p, ys, rfl, hq, q⟩ := h
  obtain ⟨u, rfl, rx⟩ := vals1 r
  cases rx
  have hn := line63
  rcases hq with hq | hq
  · obtain ⟨its, r', pl, hz⟩ := I.list hq
    have hlen := r'.length
    exact Calls.call_len_list pl.isList (by simp only [List.size_toArray] <;> trivial) ⟨.int ys.length, H, I.tok _, ⟨s.toks + 1, by rw [List.size_toArray, hlen]⟩, q⟩
  · obtain ⟨its, r', pl, hz⟩ := I.tuple hq
    have hlen := r'.length
    exact len_tuple pl (by simp only [List.size_toArray] <;> trivial) ⟨.int ys.length, H, I.tok _, ⟨s.toks + 1, by rw [List.size_toArray, hlen]⟩, q⟩
theorem call_list_of : CallR X (.type "list") (fun xs H Q => Ex2 fun p ys => xs = [.ref p] ∧ (SqL X.K H p ys ∨ SqT X.K H p ys) ∧ ∀ l, H l = none → Q (.ref l) (upd H l (.lst ys))) := by
  intro pins s σ H xs us Q I r h
  obtain ⟨p, ys, rfl, hq, q⟩ := h
  obtain ⟨u, rfl, rx⟩ := vals1 r
  cases rx
  have fin : ∀ (its : List Value), Vals ys its → ys.length ≤ sizeLine → ∀ (h' : Heap) (c' : Nat), (∀ b o', s.heap.get? b = some o' → h'.get? b = some o') →
      h'.get? s.heap.objs.size = some { cls := .type "list", dict := none, data := .seq its.toArray c', slots := #[] } → EP X pins σ Q (.ref s.heap.objs.size) { s with heap := h' } := fun its r' hz h' c' kp e =>
    ⟨.ref s.heap.objs.size, _, I.laid (t' := s.toks) kp (Nat.le_refl _) (show ObjOk X.prog X.w _ h' _ (.lst ys) from ⟨hz, its, c', r', e⟩), rfl, q _ (I.hok.fresh (Nat.le_refl _))⟩
  rcases hq with hq | hq
  · obtain ⟨its, r', pl, hz⟩ := I.list hq
    have hlen := r'.length
    obtain ⟨o, ho, hc, n, hd⟩ := pl.isList
    exact call_list_seq p (.inl rfl) ho hc hd (fun h' c' kp e => fin its r' hz h' c' kp e) (by simp only [List.size_toArray] <;> trivial)
  · obtain ⟨its, r', pl, hz⟩ := I.tuple hq
    have hlen := r'.length
    obtain ⟨o, ho, hc, n, hd⟩ := pl
    exact call_list_seq p (.inr rfl) ho hc hd (fun h' c' kp e => fin its r' hz h' c' kp e) (by simp only [List.size_toArray] <;> trivial)
theorem call_tuple_of : CallR X (.type "tuple") (fun xs H Q => Ex2 fun p ys => xs = [.ref p] ∧ ((SqL X.K H p ys ∧ ∀ l, H l = none → Q (.ref l) (upd H l (.tup ys))) ∨ (SqT X.K H p ys ∧ Q (.ref p) H))) := by
  intro pins s σ H xs us Q I r h
  obtain ⟨p, ys, rfl, h⟩ := h
  obtain ⟨u, rfl, rx⟩ := vals1 r
  cases rx
  rcases h with ⟨hq, q⟩ | ⟨hq, q⟩
  · obtain ⟨its, r', pl, hz⟩ := I.list hq
    have hlen := r'.length
    refine call_tuple_list pl.isList (fun h' kp => ?_) (by simp only [List.size_toArray] <;> trivial)
    have I1 : Inv X pins σ H { s with heap := h' } := I.kept (t' := s.toks) kp
    have I2 : Inv X pins σ (upd H h'.objs.size (.tup ys)) { s with heap := h'.push { cls := .type "tuple", data := .seq its.toArray } } :=
      I1.laid (t' := s.toks) (fun b o e => Heap.get?_push_of_some _ e) (Nat.le_refl _) (show ObjOk X.prog X.w _ _ _ (.tup ys) from ⟨hz, its, r', IsTup.new _ _, _, Heap.get?_push_size _ rfl, rfl⟩)
    exact ⟨.ref h'.objs.size, _, I2, rfl, q _ (I1.hok.fresh (Nat.le_refl _))⟩
  · obtain ⟨its, r', pl, hz⟩ := I.tuple hq
    exact call_tuple_same pl ⟨.ref p, H, I, rfl, q⟩
def tyV (K : PySem.W.Frag) (T : String) (x : V) (H : Hp) : Prop := match x with
  | .str _ => T = "str"
  | .int _ => T = "int"
  | .ref p => (T = "list" ∧ ∃ xs, SqL K H p xs) ∨ (T = "tuple" ∧ ∃ o, K.lookup p = some o ∧ o.cls = .type "tuple" ∧ o.dict = none) ∨
      (T = "dict" ∧ ((∃ kvs, H p = some (.dK kvs)) ∨ ∃ kvs, H p = some (.dT kvs))) ∨ (T = "set" ∧ Ex2 fun S n => H p = some (.set S n))
  | _ => False
theorem tyV_is {pins : List (Addr × Obj)} {σ : St} {H : Hp} {s : Shared} {T : String} {x : V} {v : Value} (I : Inv X pins σ H s) (r : RelV x v) (ty : tyV X.K T x H) :
    s.TypeIs v T ∧ ∀ a, v = .ref a → ∃ ob, s.heap.get? a = some ob ∧ ob.dict = none := by
  cases x with
  | str z =>
    obtain ⟨t, rfl⟩ := r
    cases (show T = "str" from ty)
    exact ⟨typeIs_str s z t, fun _ e => nomatch e⟩
  | int i =>
    obtain ⟨t, rfl⟩ := r
    cases (show T = "int" from ty)
    exact ⟨typeIs_int s i t, fun _ e => nomatch e⟩
  | ref p =>
    cases r
    rcases ty with ⟨rfl, xs, hq⟩ | ⟨rfl, o, hk, hc, hd⟩ | ⟨rfl, hk⟩ | ⟨rfl, S, n, hk⟩
    · obtain ⟨its, _, pl, _⟩ := I.list hq
      refine ⟨pl.isList.typeIs, fun a e => ?_⟩
      cases e
      obtain ⟨o, n, e, c, hd, _⟩ := pl
      exact ⟨o, e, hd⟩
    · refine ⟨⟨o, I.kIn p o hk, hc⟩, fun a e => ?_⟩
      cases e
      exact ⟨o, I.kIn _ o hk, hd⟩
    · have z : ∃ o, s.heap.get? p = some o ∧ o.ExactDict := by
        rcases hk with ⟨kvs, hk⟩ | ⟨kvs, hk⟩
        · obtain ⟨_, _, _, _, o, _, _, e, ex, _⟩ := I.hok p _ hk
          exact ⟨o, e, ex⟩
        · obtain ⟨_, _, _, _, o, _, _, e, ex, _⟩ := I.hok p _ hk
          exact ⟨o, e, ex⟩
      obtain ⟨o, e, ex⟩ := z
      refine ⟨⟨o, e, ex.1⟩, fun a e2 => ?_⟩
      cases e2
      exact ⟨o, e, ex.2.1⟩
    · obtain ⟨o, _, _, _, e, ex, _⟩ := I.hok p _ hk
      refine ⟨⟨o, e, ex.1⟩, fun a e2 => ?_⟩
      cases e2
      exact ⟨o, e, ex.2.1⟩
  | _ => exact False.elim ty
def tBM0 (K : PySem.W.Frag) (T : String) (r : V → List V → Hp → VK → Prop) (to : TE) : TE := fun σ H Q => to σ H fun x H1 => tyV K T x H1 ∧ r x [] H1 Q
def tBM (K : PySem.W.Frag) (T : String) (r : V → List V → Hp → VK → Prop) (to : TE) (t : TA) : TE := fun σ H Q => to σ H fun x H1 => tyV K T x H1 ∧ t σ H1 fun xs H2 => r x xs H2 Q
variable {o e : Expr} {es : List Expr} {to : TE} {t : TA} {name : Str} {apos cpos : Pos} {T id : String} {r : V → List V → Hp → VK → Prop}
theorem pe_bm0 (pa : PlainAttrs T) (slot : Slot T name id) (hty : typeOf (.builtin id) = pure (.type "method_descriptor")) (hm : MtR X id r) (ho : PE X o to)
    (hbase : attributeBase o name X.env (eval o X.env) = eval o X.env := by rfl) (hline : (apos.endLine == cpos.line) = true := by rfl) : PE X (.Call (.Attribute o name apos) [] [] cpos) (tBM0 X.K T r to) := by
  intro pins s σ H Q I h
  refine wpAny_Call_method0_late hbase hline (thn (ho pins s σ H _ I h) fun v s1 ⟨x, H1, I1, r1, ty, q1⟩ => ?_)
  obtain ⟨h1, h2⟩ := tyV_is I1 r1 ty
  exact ⟨T, id, pa, slot, hty, h1, h2, Calls.callWith_builtin rfl (PySem.evalArgs_none (hm pins s1 σ H1 x [] v [] Q I1 r1 .nil q1))⟩
theorem pe_bm (pa : PlainAttrs T) (slot : Slot T name id) (hty : typeOf (.builtin id) = pure (.type "method_descriptor")) (hm : MtR X id r) (ho : PE X o to) (ha : PA X (e :: es) t)
    (hbase : attributeBase o name X.env (eval o X.env) = eval o X.env := by rfl)
    (hfew : ((backTo cpos (starEach (e :: es) X.env)).all (fun x => !x.1) && (backToKw cpos (keywordEach [] X.env)).all (fun x => x.1.isSome)
      && decide ((e :: es).length + ([] : List Keyword).length + (if ([] : List Keyword).isEmpty then 0 else 1) < 30)) = true := by rfl)
    (hline : (apos.endLine == cpos.line) = true := by rfl) (hs : starEach (e :: es) X.env = (false, eval e X.env) :: starEach es X.env := by rfl) (hplain : (backTo cpos (starEach es X.env)).any (·.1) = false := by rfl) :
    PE X (.Call (.Attribute o name apos) (e :: es) [] cpos) (tBM X.K T r to t) := by
  intro pins s σ H Q I h
  refine wpAny_Call_method_late hbase hfew hline rfl (thn (ho pins s σ H _ I h) fun v s1 ⟨x, H1, I1, r1, ty, q1⟩ => ?_)
  obtain ⟨h1, h2⟩ := tyV_is I1 r1 ty
  refine ⟨T, id, pa, slot, hty, h1, h2, ?_⟩
  have hA := ha cpos pins s1 σ H1 _ I1 q1
  rw [hs] at hA ⊢
  refine Calls.callWith_builtin (by show (false || (backTo cpos (starEach es X.env)).any (·.1)) = false; rw [hplain] <;> rfl) (Calls.evalArgs_plain ?_)
  exact thn hA fun us s2 ⟨vs, H2, I2, r2, q2⟩ => hm pins s2 σ H2 x vs v us Q I2 r1 r2 q2
/- xs.append(e), list.index on a module's tuple .. are MtR facts of 06m -/
end
end L2
namespace L2
open PySem PySem.Spec PyProof.Rows
def MtM (X : Cx) (id : String) (r : V → List V → Hp → VK → Prop) : Prop :=
  ∀ (pins : List (Addr × Obj)) (s : Shared) (σ : St) (H : Hp) (x : V) (xs : List V) (v : Value) (us : List Value) (Q : VK), Inv X pins σ H s → RelV x v → Vals xs us → r x xs H Q →
    wpAny (model X.prog X.w) X.A (call (.builtin id) (v :: us)) (EP X pins σ Q) X.xe s
theorem Vals.one : ∀ {x : V} {us : List Value}, Vals [x] us → ∃ u, us = [u] ∧ RelV x u
  | _, _, .cons r .nil => ⟨_, rfl, r⟩
theorem Vals.two : ∀ {x y : V} {us : List Value}, Vals [x, y] us → Ex2 fun u v => us = [u, v] ∧ RelV x u ∧ RelV y v
  | _, _, _, .cons r (.cons q .nil) => ⟨_, _, rfl, r, q⟩
theorem Vals.rep {xs : List V} {us : List Value} (h : Vals xs us) : ∀ k : Nat, Vals (List.replicate k xs).flatten (List.replicate k us).flatten
  | 0 => .nil
  | k + 1 => by
    rw [List.replicate_succ, List.replicate_succ, List.flatten_cons, List.flatten_cons]
    exact Vals.append h (Vals.rep h k)
theorem foldl_rep (its : List Value) : ∀ (k : Nat) (acc : List Value),
    List.foldl (fun x1 x2 => x1 ++ x2) acc.toArray (List.replicate k its.toArray) = (acc ++ (List.replicate k its).flatten).toArray
  | 0, acc => by simp
  | k + 1, acc => by
    have e : acc.toArray ++ its.toArray = (acc ++ its).toArray := by simp
    have e2 : (acc ++ its) ++ (List.replicate k its).flatten = acc ++ (List.replicate (k + 1) its).flatten := by
      rw [List.replicate_succ, List.flatten_cons, List.append_assoc]
    rw [← e2, ← foldl_rep its k (acc ++ its), ← e, List.replicate_succ, List.foldl_cons]
section
variable {X : Cx} {pins : List (Addr × Obj)} {σ : St} {H : Hp} {s : Shared} {l b : Addr} {xs ys zs : List V}
theorem Inv.lset {its its' : List Value} {n : Nat} {f : Array Value → Array Value} {t' : Nat} (I : Inv X pins σ H s) (hH : H l = some (.lst xs))
    (e : s.heap.get? l = some { cls := .type "list", data := .seq its.toArray n }) (hf : f its.toArray = its'.toArray) (hv : Vals ys its') (hz : ys.length ≤ sizeLine) :
    Inv X pins σ (upd H l (.lst ys)) { s with heap := s.heap.update l (Obj.mapSeq f), toks := t' } := by
  have q := PySem.IsL.update e f
  rw [hf] at q
  refine I.write (x := l) (e := l) (by rw [hH]; exact trivial) (.inl rfl) (fun b' u hb hu => (Heap.get?_update_other s.heap (Obj.mapSeq f) (Ne.symm hb)).trans hu) ⟨_, q⟩ ?_
  exact ⟨hz, its', _, hv, q⟩
theorem Inv.lnew {its : List Value} {t' : Nat} (I : Inv X pins σ H s) (hv : Vals ys its) (hz : ys.length ≤ sizeLine) :
    Inv X pins σ (upd H s.heap.objs.size (.lst ys)) { s with heap := s.heap.push { cls := .type "list", data := .seq its.toArray }, toks := t' } :=
  I.laid (fun _ _ q => Heap.get?_push_of_some _ q) (Nat.le_refl _) ⟨hz, its, 0, hv, Heap.get?_push_size _ rfl⟩
theorem Inv.fresh (I : Inv X pins σ H s) : H s.heap.objs.size = none := I.hok.fresh (Nat.le_refl _)
theorem Inv.lstM (I : Inv X pins σ H s) (hH : H l = some (.lst xs)) : xs.length ≤ sizeLine ∧ Ex2 fun (its : List Value) (n : Nat) => Vals xs its ∧ xs.length = its.length ∧ s.heap.get? l = some { cls := .type "list", data := .seq its.toArray n } := by
  obtain ⟨z, its, n, r, e⟩ := I.hok l _ hH
  exact ⟨z, its, n, r, r.length, e⟩
theorem notLongL {n : Nat} (h : n ≤ sizeLine) : Builtin.List.listTooLong n = false := by
  unfold Builtin.List.listTooLong
  exact decide_eq_false (by trivial)
end
section
variable {X : Cx}
inductive rAppend_ (x : V) (vs : List V) (H : Hp) (Q : VK) : Prop
  | mk (l : _) (xs : _) (y : _) (h0 : x = .ref l) (h1 : vs = [y]) (h2 : H l = some (.lst xs)) (h3 : xs.length < sizeLine) (h4 : Q .non (upd H l (.lst (xs ++ [y]))))
def rAppend : V → List V → Hp → VK → Prop := fun x vs H Q => rAppend_  x vs H Q
theorem mt_append : MtM X "list.append" rAppend := by
  intro pins s σ H x vs v us Q I rx rv h
  obtain ⟨l, xs, y, rfl, rfl, hH, hz, q⟩ := h
  cases rx
  obtain ⟨u, rfl, ru⟩ := rv.one
  obtain ⟨z, its, n, r, hl, e⟩ := I.lstM hH
  refine call_meets F.slot_list_append ⟨_, e, rfl⟩ F.entry_list_append (F.args_list_append_2 _ _) (PySem.list_append l its.toArray n u (by rw [List.size_toArray]; trivial)) ⟨e, ?_⟩
  refine ⟨.non, _, I.lset (its' := its ++ [u]) hH e (by simp) (r.append (.cons ru .nil)) ?_, rfl, q⟩
  rw [List.length_append, List.length_singleton]
  trivial
inductive rCat_ (x : V) (y : V) (H : Hp) (Q : VK) : Prop
  | mk (l : _) (b : _) (xs : _) (zs : _) (h0 : x = .ref l) (h1 : y = .ref b) (h2 : H l = some (.lst xs)) (h3 : H b = some (.lst zs)) (h4 : xs.length + zs.length ≤ sizeLine) (h5 : ∀ p, H p = none → Q (.ref p) (upd H p (.lst (xs ++ zs))))
def rCat : R2 := fun x y H Q => rCat_  x y H Q
theorem op_cat : OpR X (binaryOp .Add) rCat := by
  intro pins s σ H x y v u Q I rx ry h
  obtain ⟨l, b, xs, zs, rfl, rfl, hH, hB, hz, q⟩ := h
  cases rx
  cases ry
  obtain ⟨z, its, n, r, hl, e⟩ := I.lstM hH
  obtain ⟨z2, its2, n2, r2, hl2, e2⟩ := I.lstM hB
  refine PySem.P.add_list e e2 ?_ (by rw [List.size_toArray, List.size_toArray]; trivial)
  have ea : its.toArray ++ its2.toArray = (its ++ its2).toArray := by simp
  rw [ea]
  exact ⟨.ref _, _, I.lnew (t' := s.toks) (r.append r2) (by rw [List.length_append]; trivial), rfl, q _ I.fresh⟩
inductive rRep_ (x : V) (y : V) (H : Hp) (Q : VK) : Prop
  | mk (l : _) (k : _) (xs : _) (h0 : x = .ref l) (h1 : y = .int k) (h2 : H l = some (.lst xs)) (h3 : -(2 ^ 63) ≤ k) (h4 : k < 2 ^ 63) (h5 : xs.length * k.toNat ≤ sizeLine) (h6 : ∀ p, H p = none → Q (.ref p) (upd H p (.lst (List.replicate k.toNat xs).flatten)))
def rRep : R2 := fun x y H Q => rRep_  x y H Q
theorem len_rep {α : Type} (xs : List α) (k : Nat) : (List.replicate k xs).flatten.length = k * xs.length := by
  induction k with
  | zero => simp
  | succ k ih => rw [List.replicate_succ, List.flatten_cons, List.length_append, ih, Nat.succ_mul, Nat.add_comm]
theorem op_rep : OpR X (binaryOp .Mult) rRep := by
  intro pins s σ H x y v u Q I rx ry h
  obtain ⟨l, k, xs, rfl, rfl, hH, h1, h2, hz, q⟩ := h
  cases rx
  obtain ⟨t, rfl⟩ := ry
  obtain ⟨z, its, n, r, hl, e⟩ := I.lstM hH
  have hlen : its.toArray.size * k.toNat ≤ sizeLine := by rw [List.size_toArray, ← hl]; exact hz
  have hcap : ¬ its.toArray.size * k.toNat > (2 ^ 63 - 1) / 8 := by
    have : (sizeLine : Nat) ≤ (2 ^ 63 - 1) / 8 := by decide
    trivial
  have hfit : ¬ (!Builtin.List.listFitsIndex k) = true := by
    rw [fitsIndex_both h1 h2]
    exact Bool.false_ne_true
  have hlong : ¬ Builtin.List.listTooLong (its.toArray.size * k.toNat) = true := by
    rw [notLongL hlen]
    exact Bool.false_ne_true
  have hnew : List.foldl (fun x1 x2 => x1 ++ x2) #[] (List.replicate (if its.toArray.isEmpty = true then 0 else k.toNat) its.toArray) = (List.replicate k.toNat its).flatten.toArray := by
    have f0 : ∀ m : Nat, List.foldl (fun x1 x2 => x1 ++ x2) #[] (List.replicate m its.toArray) = (List.replicate m its).flatten.toArray := fun m => by
      have := foldl_rep its m []
      rw [List.nil_append] at this
      exact this
    rw [f0]
    cases its with
    | nil => simp
    | cons a r' => rw [if_neg (by simp)]
  refine wpAny_binaryOp_repeat_ref (T := "list") (U := "int") (by decide) ⟨_, e, rfl⟩ (fun s' => typeIs_int s' k t) noFill_list_mul F.fills_int_mul F.slot_int_rmul repeat_list F.slot_int_index.lookup
    (call_meets F.slot_int_rmul (typeIs_int s k t) F.entry_int_rmul (F.args_int_rmul_2 _ _) (int___rmul___int_list k t l its.toArray n)
      ⟨e, rfl, ⟨_, e, rfl⟩, call_meets F.slot_list_mul ⟨_, e, rfl⟩ F.entry_list_mul (F.args_list_mul_2 _ _) (AutoListH.list___mul___list_int_3 l its.toArray n k t hfit hcap hlong) ⟨e, ?_⟩⟩)
  rw [hnew]
  exact ⟨.ref _, _, I.lnew (t' := s.toks) (r.rep k.toNat) (by rw [len_rep, Nat.mul_comm]; exact hz), rfl, q _ I.fresh⟩
end
section
variable {prog : Program} {w : World} {A : Around} {E : Value → Shared → Prop} {s : Shared}
set_option maxRecDepth 100000 in
end
section
variable {X : Cx}
end
end L2
namespace Att
open PySem PySem.W PySem.Calls PyProof.Rows
theorem ints_of_wellAll {P : Params} {h : Heap} : ∀ (ns : List Int) (vs : List Value), WellAll P h vs (ns.map WData.int) → IntsAre vs ns := by
  intro ns
  induction ns with
  | nil =>
    intro vs w
    rw [List.map_nil] at w
    cases w
    exact .nil
  | cons n ns ih =>
    intro vs w
    rw [List.map_cons] at w
    cases w with
    | cons a b =>
      cases a
      exact .cons _ _ (ih _ b)
theorem script_of {l : OpenLaw} {n : Nat} (hn : l.most = some n) {P : Params} {h : Heap} {args : List WData} {vals : List Value}
    (hpre : l.row.toRowW.claim.pre args = true) (hwl : WellAll P h vals args) :
    ∃ a vs ns, vals = [Value.ref a] ∧ args = [WData.list (ns.map WData.int)] ∧ h.get? a = some { cls := .type "list", data := .seq vs.toArray } ∧ IntsAre vs ns ∧ ns.length ≤ n := by
  have hsh : WShape.hasAll [] args [.list .int] = true := (pre_splitW hpre).1
  have hc : l.pre.holds [] { args := args } = true := (pre_splitW hpre).2
  obtain ⟨d, r, rfl, h1, h2⟩ := hasAllW_cons hsh
  obtain rfl := hasAllW_nil h2
  obtain ⟨xs, rfl, h3⟩ := hasW_list h1
  obtain ⟨ns, rfl⟩ := items_int h3
  have hlen : ns.length ≤ n := by
    unfold OpenLaw.pre at hc
    have h4 : (WTm.not (.lt (.lit (.int (n : Int))) (.len (.arg 0)))).holds [] { args := [.list (ns.map .int)] } = true := by
      have h4 := (holds_andW hc).1
      rw [hn] at h4
      exact h4
    have h5 := condW_of h4 (w_not (w_lt w_lit (w_len_list (w_arg rfl))))
    rw [List.length_map] at h5
    refine Nat.le_of_not_lt fun q => ?_
    have q' : (n : Int) < ((ns.length : Nat) : Int) := by trivial
    first
      | (rw [decide_eq_true q'] at h5; exact absurd h5 (by decide))
      | (simp at h5; trivial)
  cases hwl with
  | cons w1 w2 =>
    cases w2
    cases w1 with
    | list ho hall => exact ⟨_, _, ns, rfl, rfl, ho, ints_of_wellAll ns _ hall, hlen⟩
theorem post_true (l : OpenLaw) (args : List WData) : l.row.toRowW.claim.post args (.bool true) args = true :=
  postW_of (r := l.row.toRowW) (X := (true == true))
    (show WShape.has [] (.bool true) .bool = true by first | rfl | decide | simp [WShape.has, WShape.arms, WShape.armsAll])
    (show (WTm.eq .res (.lit (.bool true))).value [] { args := args, res := some (.bool true), after := args } = some (.bool (true == true)) from w_eq_bool (w_res rfl) w_lit) rfl
theorem attach_call {l : OpenLaw} {n : Nat} {q : Program} {loose : List Str} {XP : (Str → Option Value) → Heap → Prop} {YP : World → Heap → Prop} {d : DefRec}
    (hn : l.most = some n) (hdf : d.params.defaults = [])
    (call : ∀ (w : World) (s₀ s₁ : Shared) (mg mb : Str → Option Value) (fa : Addr) (o : Obj) (pm cd doc : Value) (a : Addr) (vs : List Value) (ns : List Int),
      Ground q loose [] XP w s₀ mg mb s₁.heap → YP w s₁.heap →
      s₁.heap.get? fa = some o → o.data = .func (docDef d.name d.params d.body d.scope pm cd doc) → s₁.heap.CodeRec cd d.name → mg d.name = some (.ref fa) →
      s₁.heap.get? a = some { cls := .type "list", data := .seq vs.toArray } → IntsAre vs ns → ns.length ≤ n → s₁.gens = #[] →
      codeAny (model l.prog w) callerA (.call (.ref fa) ⟨[.ref a], []⟩) (fun r s' => r = .ok (.ret (.bool true)) ∧ OldK s₁.heap s'.heap ∧ s'.os = s₁.os ∧ AllBare s'.gens) s₁) :
    WalkO q loose XP YP l.row.toRowW d [] (fun f vs => PySem.call f vs) := by
  intro w s₀ s₁ mg mb G Y fa o pm cd doc dV kV ho hd hcd hD hmg hg args vals as hpre hlay hrd hwl hlo
  obtain rfl : dV = .none := Dflts.none hD hdf
  obtain rfl : kV = .none := Dflts.noKw hD
  obtain ⟨a, vs, ns, rfl, rfl, hobj, hints, hlen⟩ := script_of hn hpre hwl
  refine enter_call (codeAny_mono (call w s₀ s₁ mg mb fa o pm cd doc a vs ns G Y ho (fd_plain hd) hcd hmg hobj hints hlen hg) fun r s' hq => ?_)
  obtain ⟨rfl, h2, h3, h4⟩ := hq
  exact ⟨.inl ⟨.bool true, .bool true, [], rfl, fun _ => rfl, .bool true, post_true l _, fun _ => ⟨List.Pairwise.nil, fun _ hm => (nomatch hm)⟩⟩, h2, h3, h4⟩
section
variable {prog : Program} {w : World} {A : Around} {E : Value → Shared → Prop} {s : Shared} {K : Frag}
end
end Att
namespace L2
open PySem PySem.Spec PyProof.Rows
theorem vals_ints : ∀ {vs : List Value} {ns : List Int}, IntsAre vs ns → Vals (ns.map V.int) vs
  | _, _, .nil => .nil
  | _, _, .cons n t h => .cons ⟨t, rfl⟩ (vals_ints h)
def Only (H : Hp) : Prop := ∀ b, H b = none ∨ Ex2 fun o xs => H b = some (.frz o (.lst xs))
theorem law_call {P : Program} {w : World} {K : PySem.W.Frag} {mg mb : Str → Option Value} {CX : CXT} {k : Nat} {fa a : Addr} {fd : FuncData} {x : Str} {sp : Sp} {s₁ : Shared} {vs : List Value} {ns : List Int}
    (KX : K.In s₁.heap) (hns : s₁.heap.Ns mainGlobals mg) (hb : s₁.heap.Ns builtinsNs mb) (hbb : ∀ x : Str, x ≠ "__name__" → mb x = bootBuiltins x) (hlim : s₁.heap.NoLimit) (hg : s₁.gens = #[])
    (ha : s₁.heap.get? a = some { cls := .type "list", data := .seq vs.toArray }) (hi : IntsAre vs ns) (hl : ns.length ≤ sizeLine) (hr : Room k callerA)
    (F : ∀ base : Heap, K.In base → base.Ns mainGlobals mg → FnOk P w K mg base CX k fa fd [x] sp) (hbind : ∀ (s : Shared) (u : Value), BindsTo s fd ⟨[u], []⟩ [(x, u)])
    (hsp : ∀ H : Hp, Only H → SqL K H a (ns.map V.int) → sp [.ref a] H (fun v _ => v = .bl true) fun _ _ _ => False)
    (hCX : ∀ H e s', CX [] H s₁ (fun _ _ _ => False) e s' → False) :
    codeAny (model P w) callerA (.call (.ref fa) ⟨[.ref a], []⟩) (fun r s' => r = .ok (.ret (.bool true)) ∧ OldK s₁.heap s'.heap ∧ s'.os = s₁.os ∧ AllBare s'.gens) s₁ := by
  have rv := vals_ints hi
  have lenV := hi.length
  have core : ∀ H : Hp, Only H → SqL K H a (ns.map V.int) → HOk P w H s₁.heap → (∀ b, H b ≠ none → b = a) → (H a ≠ none → K.lookup a = none) →
      codeAny (model P w) callerA (.call (.ref fa) ⟨[.ref a], []⟩) (fun r s' => r = .ok (.ret (.bool true)) ∧ OldK s₁.heap s'.heap ∧ s'.os = s₁.os ∧ AllBare s'.gens) s₁ := by
    intro H hO hS hok hA hK
    have base_of : ∀ {b : Addr} {o : Obj}, s₁.heap.get? b = some o → H b = none → (hidT s₁.heap H).get? b = some o := fun e n => hidT_get e n
    have noA : ∀ {b : Addr} {o : Obj} {es : Array DictEntry} {ep : Nat}, s₁.heap.get? b = some o → o.data = .dict es ep → H b = none := fun {b o es ep} e d => by
      cases q : H b with
      | none => rfl
      | some u =>
        have e' : b = a := hA b (by rw [q]; simp)
        subst e'
        rw [ha] at e; cases e
        have d' : Data.seq vs.toArray _ = Data.dict es ep := d
        cases d'
    have nsK : ∀ {b : Addr} {m : Str → Option Value}, s₁.heap.Ns b m → (hidT s₁.heap H).Ns b m := fun {b m} ⟨o, es, ep, e, d, r⟩ => ⟨o, es, ep, base_of e (noA e d), d, r⟩
    have hKb : K.In (hidT s₁.heap H) := fun b o e => base_of (KX b o e) (by
      cases q : H b with
      | none => rfl
      | some u =>
        have e' : b = a := hA b (by rw [q]; simp)
        subst e'
        rw [hK (by rw [q]; simp)] at e; cases e)
    have hM : Mod K mg (hidT s₁.heap H) := ⟨hKb, nsK hns, ⟨mb, nsK hb, hbb⟩, let ⟨mc, h1, h2⟩ := hlim; ⟨mc, nsK h1, h2⟩⟩
    have e0 : Env0 P w K mg (hidT s₁.heap H) callerA [] s₁ H := ⟨rfl, hM, fun b o e => of_hidT e, Nat.le_of_eq (hidT_size _ _), trivial, fun b hb => absurd (show b ∈ ([] : List Addr) from hb) (by simp), hok, .of_eq hg⟩
    refine codeAny_mono ((F _ hKb (nsK hns)).run callerA [] s₁ H ⟨[.ref a], []⟩ [.ref a] [.ref a] _ _ hr e0 (hbind s₁ (.ref a)) (.cons rfl .nil) (hsp H hO hS)) fun r s' h => ?_
    cases r with
    | error e => exact (hCX H e s' h).elim
    | ok fl =>
      cases fl with
      | next => exact False.elim h
      | brk => exact False.elim h
      | cont => exact False.elim h
      | ret u =>
        obtain ⟨v, H', os, bare, un, hok', r', q⟩ := h
        have q' : v = .bl true := q
        subst q'
        obtain rfl : u = Value.bool true := r'
        refine ⟨rfl, OldK.of_keep fun b o e => ?_, os, bare⟩
        cases q : H b with
        | none => exact un.keep b o e q (by intro z; exact absurd (show b ∈ ([] : List Addr) from z) (by simp)) (by simp)
        | some u =>
          rcases hO b with z | ⟨ob, xs, z⟩
          · rw [q] at z; cases z
          · have z2 := un.frzs b ob _ z
            obtain ⟨e1, _⟩ := hok b _ z
            obtain ⟨e2, _⟩ := hok' b _ z2
            rw [e] at e1; cases e1
            exact e2
  cases hk : K.lookup a with
  | some o =>
    have e := KX a o hk
    rw [ha] at e
    cases e
    refine core (fun _ => none) (fun _ => .inl rfl) (.inr ⟨_, vs.toArray, _, hk, rfl, rfl, rfl, by rw [List.size_toArray, lenV]; exact hl, by simpa using rv⟩) (fun b u z => by have z' : (none : Option HO) = some u := z; cases z') (fun b z => absurd rfl z) fun z => absurd rfl z
  | none =>
    refine core (fun b => if b = a then some (.frz { cls := .type "list", data := .seq vs.toArray } (.lst (ns.map V.int))) else none) (fun b => ?_) (.inl (.inr ⟨{ cls := .type "list", data := .seq vs.toArray }, if_pos rfl⟩)) (fun b u z => ?_) (fun b z => ?_) fun _ => hk
    · by_cases hb : b = a
      · exact .inr ⟨_, _, if_pos hb⟩
      · exact .inl (if_neg hb)
    · by_cases hb : b = a
      · have z' := (if_pos hb).symm.trans z
        cases z'
        subst hb
        exact ⟨ha, by rw [List.length_map]; exact hl, vs, _, rv, ha⟩
      · have z' := (if_neg hb).symm.trans z
        cases z'
    · by_cases hb : b = a
      · exact hb
      · exact absurd (if_neg hb) z
end L2
namespace L2
open PySem PySem.Spec PyProof.Rows
abbrev KOf {K : PySem.W.Frag} {h : Heap} (_ : K.In h) : PySem.W.Frag := K
theorem walk_of {l : PySem.W.OpenLaw} {n k : Nat} {q : Program} {loose : List Str} {XP : (Str → Option Value) → Heap → Prop} {YP : World → Heap → Prop} {d : DefRec} {K : Params → PySem.W.Frag} {CX : World → CXT} {sp : World → Sp} {x : Str}
    (hn : l.most = some n) (hn2 : n ≤ sizeLine) (hdf : d.params.defaults = []) (hr : Room k callerA)
    (hY : ∀ (w : World) (h : Heap), YP w h → (K w.params).In h)
    (F : ∀ (w : World) (mg : Str → Option Value) (fa : Addr) (h : Heap), (K w.params).In h → h.Ns mainGlobals mg → mg d.name = some (.ref fa) →
      ∃ fd : FuncData, (∀ (s : Shared) (u : Value), BindsTo s fd ⟨[u], []⟩ [(x, u)]) ∧
        ∀ base : Heap, (K w.params).In base → base.Ns mainGlobals mg → FnOk l.prog w (K w.params) mg base (CX w) k fa fd [x] (sp w))
    (hsp : ∀ (w : World) (H : Hp) (a : Addr) (ns : List Int), ns.length ≤ n → Only H → SqL (K w.params) H a (ns.map V.int) → sp w [.ref a] H (fun v _ => v = .bl true) fun _ _ _ => False)
    (hCX : ∀ (w : World) (H : Hp) (s : Shared) (e : Value) (s' : Shared), CX w [] H s (fun _ _ _ => False) e s' → False) :
    PySem.W.WalkO q loose XP YP l.row.toRowW d [] (fun f vs => PySem.call f vs) := by
  refine Att.attach_call hn hdf fun w s₀ s₁ mg mb fa o pm cd doc a vs ns G Y ho hd hcd hmg hobj hints hlen hg => ?_
  have KX := hY w _ Y
  obtain ⟨fd, hb, hF⟩ := F w mg fa _ KX G.T.g hmg
  exact law_call KX G.T.g G.T.b G.T.builtins G.T.nolimit hg hobj hints (Nat.le_trans hlen hn2) hr hF hb (fun H hO hS => hsp w H a ns hlen hO hS) fun H e s' => hCX w H s₁ e s'
theorem walk_ofK {l : PySem.W.OpenLaw} {n k : Nat} {q : Program} {loose : List Str} {XP : (Str → Option Value) → Heap → Prop} {YP : World → Heap → Prop} {d : DefRec} {K : Params → PySem.W.Frag} {CX : CXT} {sp : PySem.W.Frag → Sp} {x : Str}
    (hn : l.most = some n) (hn2 : n ≤ sizeLine) (hdf : d.params.defaults = []) (hr : Room k callerA)
    (hY : ∀ (w : World) (h : Heap), YP w h → (K w.params).In h)
    (F : ∀ (w : World) (mg : Str → Option Value) (fa : Addr) (h : Heap), (K w.params).In h → h.Ns mainGlobals mg → mg d.name = some (.ref fa) →
      ∃ fd : FuncData, (∀ (s : Shared) (u : Value), BindsTo s fd ⟨[u], []⟩ [(x, u)]) ∧
        ∀ base : Heap, (K w.params).In base → base.Ns mainGlobals mg → FnOk l.prog w (K w.params) mg base CX k fa fd [x] (sp (K w.params)))
    (hsp : ∀ (K : PySem.W.Frag) (H : Hp) (a : Addr) (ns : List Int), ns.length ≤ n → Only H → SqL K H a (ns.map V.int) → sp K [.ref a] H (fun v _ => v = .bl true) fun _ _ _ => False)
    (hCX : ∀ (H : Hp) (s : Shared) (e : Value) (s' : Shared), CX [] H s (fun _ _ _ => False) e s' → False) :
    PySem.W.WalkO q loose XP YP l.row.toRowW d [] (fun f vs => PySem.call f vs) :=
  walk_of (K := K) (CX := fun _ => CX) (sp := fun w => sp (K w.params)) hn hn2 hdf hr hY F (fun w H a ns h1 h2 h3 => hsp (K w.params) H a ns h1 h2 h3) fun _ H s e s' => hCX H s e s'
end L2
/- THE LAST THEOREM (shape; LID, My.* are yours):
   My.Adr: a structure of the addresses that your layer names (classes, functions); My.Txt K t: a structure (Prop) of the equations over K;
   My.txt_mk : {K} {implicit addresses ..} (e1 : nsIn K mainGlobals "law" = some (some (.ref f))) (e2 : K.lookup f = some ⟨oc, od, .func (fnOf "law" "law" params body scope dV kV doc pm an cdv ct), sl⟩) (e3 : codeIn K cdv "law" = true) .. : ∃ t, My.Txt K t
set_option maxRecDepth 100000 in
set_option maxHeartbeats 0 in
theorem PySem.Challenge.cw_LID_holds : PySem.Challenge.rw_LID.Holds := by
  w_on; o_law; k_head; (case hw => w_witness2)
  k_fill
  refine L2.walk_of (l := PySem.Challenge.rw_LID) (n := 63) (k := 40) (x := "script") (CX := fun w => ..) (sp := fun _ => My.sp_law) rfl (by decide) rfl ⟨rfl, by decide, by decide⟩ (fun w h Y => PySem.W.kIn_of Y) ?F ?S ?C
  case F =>
    intro w mg fa h KX G hmg
    have T : ∃ t, My.Txt (L2.KOf KX) t := by
      dsimp only [L2.KOf]                          -- K must stand as «<heap const> w.params» for k_is
      refine' My.txt_mk ?e1 ?e2 ?e3 ..
      (case e1 => PySem.W.k_is)                    -- in the order: a name -> its address -> its object -> its parts
      (case e2 => PySem.W.k_is)
      ..
    obtain ⟨t, T⟩ := T
    have e0 := hmg.symm.trans (PySem.W.mg_of KX G T.law)
    cases e0                                       -- fa is the law's own address
    exact ⟨_, fun s u => .of_eq rfl, fun base kb nb => My.law_fn T kb nb⟩     -- if «.of_eq rfl» comes too early: refine' ⟨_, ?b, fun base kb nb => My.law_fn T kb nb⟩; exact fun s u => .of_eq rfl
  case S => exact fun w H a ns hl hO hS => ..
  case C => exact ..
(the tactic k_is has no namespace: write k_is) -/
namespace L2
open PySem PySem.Spec PyProof.Rows
def defArgs (s : Stmt) : Arguments := match s with
  | .FunctionDef _ a _ _ _ _ _ _ _ _ => a
  | _ => { posonlyargs := [], args := [], vararg := none, kwonlyargs := [], kw_defaults := [], kwarg := none, defaults := [] }
def defBody (s : Stmt) : List Stmt := match s with
  | .FunctionDef _ _ b _ _ _ _ _ _ _ => b
  | _ => []
def defScope (s : Stmt) : Scope := match s with
  | .FunctionDef _ _ _ _ _ _ sc _ _ _ => sc
  | _ => { kind := .function, names := [], isGenerator := false, isCoroutine := false }
abbrev CX0 : CXT := fun _ _ _ _ _ _ => False
abbrev E0 : XK := fun _ _ _ => False
theorem pass0 {X : Cx} : Passes CX0 X E0 := fun _ _ _ _ _ _ _ h => h.elim
structure Fun (K : PySem.W.Frag) (x qual : Str) (st : Stmt) (f : Addr) (fd : FuncData) : Prop where
  ex : Ex9 fun (oc : Value) (od : Option Addr) (kV doc pm : Value) (an : Option Addr) (cdv ct : Value) (osl : Array (Option Value)) =>
    fd = PySem.W.fnOf x qual (defArgs st) (defBody st) (defScope st) .none kV doc pm an cdv ct ∧ K.lookup f = some ⟨oc, od, .func fd, osl⟩ ∧ PySem.W.codeIn K cdv qual = true
  kp : PySem.W.keepIn K (.ref f) = true
section
variable {P : Program} {w : World} {K : PySem.W.Frag} {mg : Str → Option Value} {base : Heap}
theorem Fun.ok {x qual : Str} {st : Stmt} {f : Addr} {fd : FuncData} {N ps : List Str} {k : Nat} {sp : Sp} (F : Fun K x qual st f fd) (S : FnScope N ps (defScope st)) (len : ∀ vs H Q E, sp vs H Q E → vs.length = ps.length)
    (hbody : ∀ (cdv : Value) (A : Around) (outer : List Env) (s : Shared) (H : Hp) (vs : List V) (Q : VK) (E : XK), Room k (A.deeper (envOfC qual (defScope st) s.heap.objs.size f cdv)) → sp vs H Q E →
      ∃ t, PSs (cxOf CX0 P w K mg base N qual (defScope st) f cdv A outer s H E).nox (defBody st) t ∧ t { nx := fun _ H' => Q .non H', rt := Q } (start N vs) H) : FnOk P w K mg base CX0 (k + 1) f fd ps sp := by
  obtain ⟨oc, od, kV, doc, pm, an, cdv, ct, osl, rfl, lk, hcd⟩ := F.ex
  refine fn_of lk hcd S len fun A outer s H vs Q E hr hsp => ?_
  obtain ⟨t, h, q⟩ := hbody cdv A outer s H vs Q E hr hsp
  exact ⟨t, h.nox, q⟩
theorem Fun.binds {x qual : Str} {st : Stmt} {f : Addr} {fd : FuncData} {ps : List Str} (F : Fun K x qual st f fd)
    (h : ∀ (kV doc pm : Value) (an : Option Addr) (cdv ct : Value) (us : List Value), us.length = ps.length → bindArgs (PySem.W.fnOf x qual (defArgs st) (defBody st) (defScope st) .none kV doc pm an cdv ct) ⟨us, []⟩ = pure (ps.zip us)) : Binds K fd ps [] := by
  obtain ⟨oc, od, kV, doc, pm, an, cdv, ct, osl, rfl, lk, hcd⟩ := F.ex
  exact .all (h kV doc pm an cdv ct)
theorem fun_mk {x qual : Str} {st : Stmt} {f : Addr} {oc : Value} {od an : Option Addr} {osl : Array (Option Value)} {kV doc pm cdv ct : Value} (l : K.lookup f = some ⟨oc, od, .func (PySem.W.fnOf x qual (defArgs st) (defBody st) (defScope st) .none kV doc pm an cdv ct), osl⟩)
    (c : PySem.W.codeIn K cdv qual = true) (k : PySem.W.keepIn K (.ref f) = true) : Fun K x qual st f (PySem.W.fnOf x qual (defArgs st) (defBody st) (defScope st) .none kV doc pm an cdv ct) := ⟨⟨oc, od, kV, doc, pm, an, cdv, ct, osl, rfl, l, c⟩, k⟩
end
section
variable {X : Cx}
theorem pv (i : Nat) {x : Str} {pos : Pos} (hN : X.N[i]? = some x := by rfl) (hv : Vis X.env.scope x := by first | exact Or.inl rfl | exact Or.inr (Or.inl rfl) | exact Or.inr (Or.inr rfl)) (hd : (x == ("__debug__" : Str)) = false := by decide)
    (hcd : (x == ("__classdict__" : Str)) = false := by decide) : PE X (.Name x pos) (tVar i) := pe_var hN hv hd hcd
end
theorem iteF {A B : Prop} (h : B) : if false = true then A else B := by
  rw [if_neg Bool.false_ne_true]
  exact h
theorem iteT {A B : Prop} (h : A) : if true = true then A else B := by
  rw [if_pos rfl]
  exact h
theorem ite2 {c A B : Prop} [Decidable c] (h1 : c → A) (h2 : ¬ c → B) : if c then A else B := by
  by_cases h : c
  · rw [if_pos h]
    exact h1 h
  · rw [if_neg h]
    exact h2 h
def Same (H H' : Hp) : Prop := ∀ b o, H b = some o → H' b = some o
theorem Same.refl (H : Hp) : Same H H := fun _ _ h => h
theorem Same.trans {H H1 H2 : Hp} (a : Same H H1) (b : Same H1 H2) : Same H H2 := fun c o h => b c o (a c o h)
theorem Same.free {H H' : Hp} (e : Same H H') {l : Addr} (h : H' l = Option.none) : H l = Option.none := by
  cases q : H l with
  | none => rfl
  | some o =>
    rw [e l o q] at h
    cases h
theorem Same.seq {K : PySem.W.Frag} {H H' : Hp} {a : Addr} {xs : List V} (e : Same H H') (h : SqL K H a xs) : SqL K H' a xs := by
  rcases h with (h | ⟨o, h⟩) | h
  · exact .inl (.inl (e _ _ h))
  · exact .inl (.inr ⟨o, e _ _ h⟩)
  · exact .inr h
end L2
namespace L2
open PySem
theorem clos_ok {scope : Scope} {env : Env} (h : ∀ y ∈ scope.names, y.2 = .free → ∃ c, env.cells.lookup y.1 = some c) :
    ∃ cl, closureFor scope env = pure cl ∧ (∀ x c, cl.lookup x = some c → env.cells.lookup x = some c) ∧ (∀ y ∈ scope.names, y.2 = .free → ∃ c, cl.lookup y.1 = some c) := by
  have go : ∀ (names : List (Str × NameKind)) (acc : List (Str × Addr)), (∀ y ∈ names, y.2 = .free → ∃ c, env.cells.lookup y.1 = some c) → (∀ x c, acc.lookup x = some c → env.cells.lookup x = some c) →
      ∃ cl, (forIn names acc (fun (x : Str × NameKind) (cs : List (Str × Addr)) => match x with
        | (name, kind) => if (kind == .free) = true then (do let a ← cellOf env name; pure (ForInStep.yield ((name, a) :: cs))) else pure (ForInStep.yield cs)) : Sem (List (Str × Addr))) = pure cl ∧
        (∀ x c, cl.lookup x = some c → env.cells.lookup x = some c) ∧ (∀ y ∈ names, y.2 = .free → ∃ c, cl.lookup y.1 = some c) ∧ (∀ x c, acc.lookup x = some c → ∃ c', cl.lookup x = some c') := by
    intro names
    induction names with
    | nil => intro acc _ ha; exact ⟨acc, rfl, ha, fun y hy => (by cases hy), fun x c e => ⟨c, e⟩⟩
    | cons x r ih =>
      intro acc hn ha
      obtain ⟨name, kind⟩ := x
      rw [List.forIn_cons]
      by_cases hk : kind = .free
      · subst hk
        obtain ⟨c, hc⟩ := hn (name, .free) List.mem_cons_self rfl
        have e : cellOf env name = pure c := by unfold cellOf; rw [hc]
        obtain ⟨cl, e1, e2, e3, e4⟩ := ih ((name, c) :: acc) (fun y hy => hn y (List.mem_cons_of_mem _ hy)) (fun x c' hx => by
          rw [List.lookup_cons] at hx
          split at hx
          · rename_i hb
            have : x = name := by simpa using hb
            subst this
            cases hx; exact hc
          · exact ha x c' hx)
        refine ⟨cl, ?_, e2, fun y hy hf => ?_, fun x c' hx => ?_⟩
        · simp only [beq_self_eq_true, if_true]
          rw [e, pure_bind, pure_bind]
          exact e1
        · rcases List.mem_cons.mp hy with rfl | hy
          · exact e4 name c (by simp)
          · exact e3 y hy hf
        · by_cases hb : (x == name) = true
          · have : x = name := by simpa using hb
            subst this
            exact e4 x c (by simp)
          · exact e4 x c' (by rw [List.lookup_cons]; simp only [Bool.not_eq_true] at hb; rw [hb]; exact hx)
      · have hb : (kind == NameKind.free) = false := by simpa using hk
        obtain ⟨cl, e1, e2, e3, e4⟩ := ih acc (fun y hy => hn y (List.mem_cons_of_mem _ hy)) ha
        refine ⟨cl, ?_, e2, fun y hy hf => ?_, e4⟩
        · simp only [hb, Bool.false_eq_true, if_false]
          rw [pure_bind]
          exact e1
        · rcases List.mem_cons.mp hy with rfl | hy
          · exact absurd hf hk
          · exact e3 y hy hf
  obtain ⟨cl, e1, e2, e3, _⟩ := go scope.names [] h (fun x c e => by simp at e)
  refine ⟨cl, ?_, e2, e3⟩
  unfold closureFor
  show (forIn scope.names _ _ >>= fun cs => pure cs) = _
  rw [bind_pure]
  exact e1
section
variable {prog : Program} {w : World} {A : Around} {R : Result → Shared → Prop} {s : Shared}
theorem compLoop_all {elt target iter : Expr} {ifs : List Expr} {scope : Scope} {pos : Pos} {it acc : Value} {env : Env} (I : Nat → Shared → Prop)
    (turn : ∀ n s, I n s → wpAny (model prog w) A (pyNext it) (fun r s₁ => match r with
      | none => R (.ok .next) s₁
      | some v => wpAny (model prog w) A (letOwnedTupleGo target it v) (fun _ s₁' => wpAny (model prog w) A (assign target env v) (fun _ s₂ =>
          wpAny (model prog w) A (forIn ifs true fun c r => if r = true then do let ok ← isTrue c env (eval c env); pure (ForInStep.yield ok) else pure (ForInStep.yield r)) (fun ok s₃ =>
            if ok = true then wpAny (model prog w) A (eval elt env) (fun x s₄ =>
              wpAny (model prog w) A (call (.builtin "list.append") [acc, x]) (fun _ s₅ => ∃ m, m < n ∧ I m s₅) (fun _ _ => False) s₄) (fun _ _ => False) s₃
            else ∃ m, m < n ∧ I m s₃) (fun _ _ => False) s₂) (fun _ _ => False) s₁') (fun _ _ => False) s₁) (fun _ _ => False) s)
    (n : Nat) (h : I n s) :
    codeAny (model prog w) A (.compLoop (.ListComp elt [⟨target, iter, ifs, 0⟩] scope pos) 0 it acc env) R s := by
  refine codeAny_loop rfl I (fun n s hI => ?_) n h
  show wpAny _ A ((compTurn (.ListComp elt [⟨target, iter, ifs, 0⟩] scope pos) 0 it acc env).onRaise (fun x => do noteFrame x env; theTreesLotGoes x)) _ _ s
  refine wpAny_noted ?_
  rw [compTurn_list]
  refine wpAny_bind (wpAny_standAt (wpAny_bind (wpAny_mono (turn n s hI) (fun r s₁ h₁ => ?_) fun _ _ h' => h'.elim)))
  cases r with
  | none => exact wpAny_pure h₁
  | some v =>
    refine wpAny_bind (wpAny_mono h₁ (fun _ s₁' h₁' => ?_) fun _ _ h' => h'.elim)
    refine wpAny_bind (wpAny_mono h₁' (fun _ s₂ h₂ => wpAny_bind (wpAny_mono h₂ (fun ok s₃ h₃ => ?_) fun _ _ h' => h'.elim)) fun _ _ h' => h'.elim)
    cases ok with
    | false => exact wpAny_pure ⟨rfl, h₃⟩
    | true =>
      exact wpAny_bind (wpAny_bind (wpAny_mono h₃ (fun x s₄ h₄ => wpAny_bind (wpAny_mono h₄ (fun _ s₅ h₅ => wpAny_pure (wpAny_pure ⟨rfl, h₅⟩)) fun _ _ h' => h'.elim)) fun _ _ h' => h'.elim))
end
end L2
namespace L2
open PySem PySem.Spec PyProof.Rows
section
variable {X : Cx}
theorem call_isinst : CallR X (.builtin "isinstance") (fun xs H Q => Ex4 fun x T t b => xs = [x, .ty T] ∧ TyOf X.K H x t ∧ PySem.W.kitOne X.K t (.type T) = some b ∧ Q (.bl b) H) := by
  intro pins s σ H xs us Q I r h
  obtain ⟨x, T, t, b, rfl, ty, e, q⟩ := h
  obtain ⟨u, c, rfl, ru, rc⟩ := r.two
  obtain rfl : c = Value.type T := rc
  exact isinst_ok I ru ty e fun tk => ⟨.bl b, H, I.tok tk, rfl, q⟩
end
def cxComp (X : Cx) (scope : Scope) (cl : List (Str × Addr)) (C : Addr) (N' : List Str) (s : Shared) (H : Hp) (ex : List Addr) (pn : List (Addr × Obj)) : Cx :=
  { X with N := N', s₀ := s, H₀ := H, env := compEnvC scope cl C X.env, outer := X.stack, ex := ex, fn := fun _ => false, pn := pn, xe := fun _ _ => False }
def cst (L : Nat) (src : List Nat) (σ : St) : St := List.replicate L none ++ src.map fun j => (σ[j]?).join
def Back (σ σ' : St) : Prop := σ'.length = σ.length ∧ ∀ (i : Nat) v, σ[i]? = some (some v) → σ'[i]? = some (some v)
theorem back1 {x : V} {r : St} : Back (none :: r) (some x :: r) := ⟨rfl, fun i v e => by
  cases i with
  | zero => simp at e
  | succ i => simpa using e⟩
theorem back2 {x y : V} {r : St} : Back (none :: none :: r) (some x :: some y :: r) := ⟨rfl, fun i v e => by
  cases i with
  | zero => simp at e
  | succ i =>
    cases i with
    | zero => simp at e
    | succ i => simpa using e⟩
def PIfs (X : Cx) (ifs : List Expr) (t : TT) : Prop :=
  ∀ (pins : List (Addr × Obj)) (s : Shared) (σ : St) (H : Hp) (Q : Bool → Hp → Prop), Inv X pins σ H s → t σ H Q →
    wpAny (model X.prog X.w) X.A (forIn ifs true fun c r => if r = true then do let ok ← isTrue c X.env (eval c X.env); pure (ForInStep.yield ok) else pure (ForInStep.yield r)) (TP X pins σ Q) X.xe s
def tT : TT := fun _ H Q => Q true H
theorem pifs_nil {X : Cx} : PIfs X [] tT := fun _ _ _ H _ I h => wpAny_pure ⟨H, I, h⟩
def compChk (esc : Scope) (N : List Str) (scope : Scope) (N' : List Str) (L : Nat) (src : List Nat) : Bool :=
  (scope.kind == .function) && scope.names.all (fun y => y.2 != .cell && (y.2 != .local || scope.names.lookup y.1 == some .local) && (y.2 != .free || esc.names.lookup y.1 == some .cell || esc.names.lookup y.1 == some .free)) &&
    (N'.length == L + src.length) && (List.range src.length).all fun i => match src[i]?, N'[L + i]? with
      | some j, some x => (N[j]? == some x) && (scope.names.lookup x == some .free)
      | _, _ => false
structure CompOk (esc : Scope) (N : List Str) (scope : Scope) (N' : List Str) (L : Nat) (src : List Nat) : Prop where
  kind : scope.kind = .function
  nocell : ∀ y ∈ scope.names, y.2 ≠ .cell
  loc : ∀ y ∈ scope.names, y.2 = .local → scope.names.lookup y.1 = some .local
  free : ∀ y ∈ scope.names, y.2 = .free → esc.names.lookup y.1 = some .cell ∨ esc.names.lookup y.1 = some .free
  len : N'.length = L + src.length
  frees : ∀ (i j : Nat), src[i]? = some j → ∃ x, N'[L + i]? = some x ∧ N[j]? = some x ∧ scope.names.lookup x = some .free
theorem compOk_of {esc : Scope} {N : List Str} {scope : Scope} {N' : List Str} {L : Nat} {src : List Nat} (h : compChk esc N scope N' L src = true) : CompOk esc N scope N' L src := by
  unfold compChk at h
  simp only [Bool.and_eq_true, List.all_eq_true] at h
  obtain ⟨⟨⟨h1, h2⟩, h3⟩, h4⟩ := h
  refine ⟨by simpa using h1, fun y hy => ?_, fun y hy e => ?_, fun y hy e => ?_, by simpa using h3, fun i j e => ?_⟩
  · have := (h2 y hy).1.1
    simpa using this
  · have := (h2 y hy).1.2
    rw [e] at this
    simpa using this
  · have := (h2 y hy).2
    rw [e] at this
    simpa using this
  · have hi : i < src.length := (List.getElem?_eq_some_iff.mp e).1
    have := h4 i (List.mem_range.mpr hi)
    rw [e] at this
    cases q : N'[L + i]? with
    | none => rw [q] at this; simp at this
    | some x =>
      rw [q] at this
      simp only [Bool.and_eq_true, beq_iff_eq] at this
      exact ⟨x, rfl, this.1, this.2⟩
def CompW (J : It) (σc : St) (g : TG) (tt : TT) (te : TE) (D : Addr) (H1 : Hp) (Q : VK) : Prop :=
  ∃ W : Nat → Nat → Hp → List V → Prop, (∃ m, W 0 m (upd H1 D (.lst [])) []) ∧ ∀ i m H ys, W i m H ys → H D = some (.lst ys) ∧
    ((J.stop i H ∧ Q (.ref D) H) ∨ (J.go i H ∧ ys.length < sizeLine ∧ ∃ N : Hp → List V → Prop, (∀ H' ys', N H' ys' → ∃ m', m' < m ∧ W (i + 1) m' H' ys') ∧
      ∀ x H', J.yld i H x H' → g x σc H' fun σ2 H2 => Back σc σ2 ∧ tt σ2 H2 fun b H3 => if b = true then te σ2 H3 fun y H4 => H4 D = some (.lst ys) ∧ N (upd H4 D (.lst (ys ++ [y]))) (ys ++ [y]) else N H3 ys))
def tComp (wi : TI) (L : Nat) (src : List Nat) (g : TG) (tt : TT) (te : TE) : TE := fun σ H Q => wi σ H fun J H1 => ∀ D, H1 D = none → CompW J (cst L src σ) g tt te D H1 Q
section
variable {X : Cx} {elt tg iter : Expr} {ifs : List Expr} {scope : Scope} {pos : Pos} {N' : List Str} {L : Nat} {src : List Nat} {wi : TI} {g : TG} {tt : TT} {te : TE}
theorem comp_run (hc : X.calm = true) (ck : CompOk X.env.scope X.N scope N' L src) {cl : List (Str × Addr)} {pins : List (Addr × Obj)} {s : Shared} {σ : St} {H : Hp} {Q : VK} (I : Inv X pins σ H s)
    (hsub : ∀ x c, cl.lookup x = some c → X.env.cells.lookup x = some c) (hhas : ∀ y ∈ scope.names, y.2 = .free → ∃ c, cl.lookup y.1 = some c)
    (hi : PI X tg iter wi) (hg : ∀ cl C s H ex pn, PG (cxComp X scope cl C N' s H ex pn) tg g) (hif : ∀ cl C s H ex pn, PIfs (cxComp X scope cl C N' s H ex pn) ifs tt)
    (he : ∀ cl C s H ex pn, PE (cxComp X scope cl C N' s H ex pn) elt te) (h : tComp wi L src g tt te σ H Q) {RR : Value → Addr → Result → Shared → Prop}
    (hRR : ∀ D C H' f s' m, Inv X pins σ H' s' → s'.heap.Ns C m → FpOk X pins H' C → Q (.ref D) H' → RR (.ref D) C (.ok f) s') :
    wpAny (model X.prog X.w) X.A (eval iter X.env) (fun x s₁ => wpAny (model X.prog X.w) X.A (pyIter x) (fun it s₂ => wpAny (model X.prog X.w) X.A (newList []) (fun acc s₃ =>
      wpAny (model X.prog X.w) X.A (newFunctionEnv scope X.env.globals cl [] X.env.qual none .none (some X.env)) (fun cenv s₄ =>
        codeAny (model X.prog X.w) X.A (.compStart (.ListComp elt [⟨tg, iter, ifs, 0⟩] scope pos) 0 it acc { cenv with scope := relabel scope X.env }) (RR acc cenv.locals) s₄) X.xe s₃) X.xe s₂) X.xe s₁) X.xe s := by
  refine thn (hi pins s σ H _ I h) fun v s1 h1 => thn h1 fun itv s2 h2 => ?_
  obtain ⟨it, fp, tn, J, H2, e, I2, T, st2, f2, q⟩ := h2
  subst e
  refine wpAny_newObj_type (wpAny_newFunctionEnv ck.nocell (by intro y hy; simp at hy) (fun h₁ hns₁ hsb₁ => ?_) ck.kind)
  dsimp only at hns₁ hsb₁ ⊢
  generalize hH2 : s2.heap.push { cls := .type "list", dict := none, data := .seq ([] : List Value).toArray } = hp2 at hns₁ hsb₁ ⊢
  have hC : hp2.objs.size = s2.heap.objs.size + 1 := by rw [← hH2, Heap.size_push]
  have hDC : s2.heap.objs.size ≠ hp2.objs.size := by rw [hC]; exact Nat.ne_of_lt (Nat.lt_succ_self _)
  have hCle : s2.heap.objs.size ≤ hp2.objs.size := by rw [hC]; exact Nat.le_succ _
  have below : ∀ b, b < s2.heap.objs.size → b ≠ hp2.objs.size ∧ b ≠ s2.heap.objs.size := fun b hb => ⟨by rw [hC]; exact Nat.ne_of_lt (Nat.lt_succ_of_lt hb), Nat.ne_of_lt hb⟩
  have old : ∀ b o, s2.heap.get? b = some o → h₁.get? b = some o := fun b o e => hsb₁.extBut b o (below b (Heap.lt_size e)).1 (Heap.get?_push_of_some _ (hH2 ▸ Heap.get?_push_of_some _ e))
  have hacc : h₁.get? s2.heap.objs.size = some { cls := .type "list", dict := none, data := .seq ([] : List Value).toArray } := hsb₁.extBut _ _ hDC (Heap.get?_push_of_some _ (hH2 ▸ Heap.get?_push_size _ rfl))
  have hDn : H2 s2.heap.objs.size = none := I2.fresh
  obtain ⟨W, ⟨m0, w0⟩, turn⟩ := q _ hDn
  have fpo : ∀ b ∈ fp, ∃ o, s2.heap.get? b = some o ∧ ∀ v, o.data ≠ .cell v := T.obj _ _ st2
  have fplt : ∀ b ∈ fp, b < s2.heap.objs.size := fun b hb => by obtain ⟨o, e, _⟩ := fpo b hb; exact Heap.lt_size e
  have hfrs : ∀ b ∈ fp, b ∉ frs X.stack := fun b hb z => by
    rcases List.mem_cons.mp (I2.stkSub b z) with z' | z'
    · exact (f2 b hb).2.1 z'
    · exact (f2 b hb).2.2.1 z'
  generalize hX : cxComp X scope cl hp2.objs.size N' s2 H2 fp (X.pn ++ pins) = X'
  have ok' : X'.Ok := by
    subst hX
    refine ⟨I2.ok.mod, ck.kind, I2.ok.glob, I2.ok.blt, hCle, fun x y c e1 e2 => I2.ok.inj x y c (hsub _ _ e1) (hsub _ _ e2), fun x hx => ?_, fun x c z _ => (by cases z), I2.ok.hd, I2.ok.frames, .inl rfl, fun b hb => ⟨(below b (fplt b hb)).1, fun x c e => (f2 b hb).2.2.2.2.1 x c (hsub _ _ e)⟩,
      I2.bs, Nat.le_trans I2.ok.bsz I2.sz, fun b o e hb => ?_, hfrs, I2.stack, I2.stkFree⟩
    · -- a name that is a cell or free
      have hx' : (relabel scope X.env).names.lookup x = some .cell ∨ (relabel scope X.env).names.lookup x = some .free := hx
      have key : ∀ (names : List (Str × NameKind)), (∀ y ∈ names, y.2 ≠ .cell) →
          ((names.map fun (n, k) => if (k == NameKind.free && X.env.scope.kind == .function && X.env.kindOf n == some .cell) then (n, NameKind.cell) else (n, k)).lookup x = some .cell ∨
           (names.map fun (n, k) => if (k == NameKind.free && X.env.scope.kind == .function && X.env.kindOf n == some .cell) then (n, NameKind.cell) else (n, k)).lookup x = some .free) → ∃ y ∈ names, y.1 = x ∧ y.2 = .free := by
        intro names
        induction names with
        | nil => intro _ h; rcases h with h | h <;> simp at h
        | cons y r ih =>
          intro hn h
          obtain ⟨n, k⟩ := y
          by_cases hb : x = n
          · subst hb
            refine ⟨(x, k), List.mem_cons_self, rfl, ?_⟩
            by_cases hk : k = .free
            · exact hk
            · exfalso
              have hkb : (k == NameKind.free) = false := by simpa using hk
              have hnc : k ≠ .cell := hn (x, k) List.mem_cons_self
              simp only [List.map_cons, hkb, Bool.false_and, Bool.false_eq_true, if_false, List.lookup_cons, beq_self_eq_true, if_true] at h
              rcases h with h | h
              · exact hnc (Option.some.inj h)
              · exact hk (Option.some.inj h)
          · have hb' : (x == n) = false := by simpa using hb
            have h' : ((r.map fun (n, k) => if (k == NameKind.free && X.env.scope.kind == .function && X.env.kindOf n == some .cell) then (n, NameKind.cell) else (n, k)).lookup x = some .cell ∨
                (r.map fun (n, k) => if (k == NameKind.free && X.env.scope.kind == .function && X.env.kindOf n == some .cell) then (n, NameKind.cell) else (n, k)).lookup x = some .free) := by
              rw [List.map_cons] at h
              dsimp only at h
              by_cases hcnd : (k == NameKind.free && X.env.scope.kind == .function && X.env.kindOf n == some .cell) = true
              · rw [if_pos hcnd] at h
                simpa only [List.lookup_cons, hb'] using h
              · rw [if_neg hcnd] at h
                simpa only [List.lookup_cons, hb'] using h
            obtain ⟨y, hy, e1, e2⟩ := ih (fun y hy => hn y (List.mem_cons_of_mem _ hy)) h'
            exact ⟨y, List.mem_cons_of_mem _ hy, e1, e2⟩
      obtain ⟨y, hy, e1, e2⟩ := key scope.names ck.nocell hx'
      obtain ⟨c, hc'⟩ := hhas y hy e2
      exact ⟨c, e1 ▸ hc'⟩
    · rcases (f2 b hb).2.2.2.1 with z | z
      · exact I2.ok.noex b o e z
      · exact absurd (Nat.lt_of_lt_of_le (Heap.lt_size e) (Nat.le_trans I2.ok.bsz z)) (Nat.lt_irrefl _)
  have stat : ∀ {H' : Hp}, (∀ b ∈ fp, H' b = none) → ∀ b ∈ fp, FpOk X' [] H' b := by
    subst hX
    intro H' hn b hb
    refine ⟨hn b hb, (below b (fplt b hb)).1, hfrs b hb, .inl hb, fun x c e => (f2 b hb).2.2.2.2.1 x c (hsub _ _ e), fun p hp => ?_⟩
    have hp' : p ∈ X.pn ++ pins := by simpa [cxComp] using hp
    exact (f2 b hb).2.2.2.2.2 p hp'
  have I1 : Inv X' [] (cst L src σ) (upd H2 s2.heap.objs.size (.lst [])) { s2 with heap := h₁, toks := s2.toks + ([] : List (Str × Value)).length } := by
    subst hX
    have up : ∀ b o, H2 b = some o → upd H2 s2.heap.objs.size (.lst []) b = some o := fun b o e => by rw [upd_ne (ne_of_none e hDn)]; exact e
    have upn : ∀ b, b < s2.heap.objs.size → H2 b = none → upd H2 s2.heap.objs.size (.lst []) b = none := fun b hb e => by rw [upd_ne (Nat.ne_of_lt hb)]; exact e
    refine ⟨ok', rfl, I2.bare, Un.laid old (Nat.le_refl _) hDn, ⟨_, hns₁, fun i x v e1 e2 e3 => ?_⟩, fun x c e => ?_, ?_, fun x c e => ?_, fun p hp => ?_, I2.hok.laid old (Nat.le_refl _) ⟨Nat.zero_le _, [], 0, .nil, hacc⟩, ?_⟩
    · -- the names of the def around
      have hiL : L ≤ i := by
        by_cases hlt : i < L
        · exfalso
          unfold cst at e2
          rw [List.getElem?_append_left (by simpa using hlt), List.getElem?_replicate, if_pos hlt] at e2
          cases e2
        · trivial
      have e2' : (src.map fun j => (σ[j]?).join)[i - L]? = some (some v) := by
        unfold cst at e2
        rw [List.getElem?_append_right (by simpa using hiL), List.length_replicate] at e2
        exact e2
      rw [List.getElem?_map] at e2'
      cases hj : src[i - L]? with
      | none => rw [hj] at e2'; cases e2'
      | some j =>
        rw [hj] at e2'
        have e3' : (σ[j]?).join = some v := Option.some.inj e2'
        have hσ : σ[j]? = some (some v) := by
          cases q : σ[j]? with
          | none => rw [q] at e3'; cases e3'
          | some o => rw [q] at e3'; exact congrArg some e3'
        obtain ⟨x', g1, g2, g3⟩ := ck.frees (i - L) j hj
        have : L + (i - L) = i := by trivial
        rw [this] at g1
        have ex : x' = x := Option.some.inj (g1.symm.trans e1)
        subst ex
        have hfree := ck.free _ (PySem.mem_of_lookup g3) rfl
        obtain ⟨m, hn, hl⟩ := I2.loc
        obtain ⟨u, r, l⟩ := hl j x' v g2 hσ (hfree.elim (fun z => .inr (.inl z)) fun z => .inr (.inr z))
        refine ⟨u, r, .inr ⟨?_, ?_⟩⟩
        · -- its kind in the block
          have key : ∀ (names : List (Str × NameKind)), names.lookup x' = some .free →
              ((names.map fun (n, k) => if (k == NameKind.free && X.env.scope.kind == .function && X.env.kindOf n == some .cell) then (n, NameKind.cell) else (n, k)).lookup x' = some .cell ∨
               (names.map fun (n, k) => if (k == NameKind.free && X.env.scope.kind == .function && X.env.kindOf n == some .cell) then (n, NameKind.cell) else (n, k)).lookup x' = some .free) := by
            intro names
            induction names with
            | nil => intro h; simp at h
            | cons y r ih =>
              intro h
              obtain ⟨n, k⟩ := y
              by_cases hb : x' = n
              · subst hb
                simp only [List.lookup_cons, beq_self_eq_true, if_true] at h
                have hk : k = .free := Option.some.inj h
                subst hk
                rw [List.map_cons]
                dsimp only
                by_cases hcnd : (NameKind.free == NameKind.free && X.env.scope.kind == .function && X.env.kindOf x' == some .cell) = true
                · rw [if_pos hcnd]; left; simp [List.lookup_cons]
                · rw [if_neg hcnd]; right; simp [List.lookup_cons]
              · have hb' : (x' == n) = false := by simpa using hb
                have h' := ih (by simpa only [List.lookup_cons, hb'] using h)
                rw [List.map_cons]
                dsimp only
                by_cases hcnd : (k == NameKind.free && X.env.scope.kind == .function && X.env.kindOf n == some .cell) = true
                · rw [if_pos hcnd]; simpa only [List.lookup_cons, hb'] using h'
                · rw [if_neg hcnd]; simpa only [List.lookup_cons, hb'] using h'
          exact key scope.names g3
        · obtain ⟨c, hcl⟩ := hhas _ (PySem.mem_of_lookup g3) rfl
          have hcx := hsub _ _ hcl
          rcases l with ⟨k1, _⟩ | ⟨_, c', e4, z⟩
          · exfalso
            have k1' : X.env.scope.names.lookup x' = some .local := k1
            rcases hfree with z | z
            · rw [z] at k1'; cases k1'
            · rw [z] at k1'; cases k1'
          · rw [hcx] at e4
            cases e4
            obtain ⟨o, ho, hd⟩ := z
            exact ⟨c, hcl, o, old _ _ ho, hd⟩
    · obtain ⟨v, o, ho, hd⟩ := I2.cell x c (hsub _ _ e)
      exact ⟨v, o, old _ _ ho, hd⟩
    · show upd H2 s2.heap.objs.size (.lst []) hp2.objs.size = none
      rw [upd_ne (Ne.symm hDC)]
      exact I2.hok.fresh hCle
    · obtain ⟨v, o, ho, hd⟩ := I2.cell x c (hsub _ _ e)
      exact upn c (Heap.lt_size ho) (I2.freeC x c (hsub _ _ e))
    · have hp' : p ∈ X.pn ++ pins := by simpa [cxComp] using hp
      obtain ⟨e, n, ne, nf, d⟩ := I2.pin p hp'
      have hlt := Heap.lt_size e
      refine ⟨old _ _ e, upn _ hlt n, (below _ hlt).1, fun z => ?_, d⟩
      rcases List.mem_cons.mp (I2.stkSub _ z) with z' | z'
      · exact ne z'
      · exact nf z'
    · show (cst L src σ).length = N'.length
      unfold cst
      rw [List.length_append, List.length_replicate, List.length_map, ck.len]
  have eA : X'.A = X.A := by subst hX; rfl
  have eP : X'.prog = X.prog := by subst hX; rfl
  have eW : X'.w = X.w := by subst hX; rfl
  have eK : X'.K = X.K := by subst hX; rfl
  have ec : X'.calm = true := by subst hX; exact hc
  have exe : X'.xe = fun _ _ => False := by subst hX; rfl
  have eE : X'.env = compEnvC scope cl hp2.objs.size X.env := by subst hX; rfl
  have hg' : PG X' tg g := by subst hX; exact hg _ _ _ _ _ _
  have hif' : PIfs X' ifs tt := by subst hX; exact hif _ _ _ _ _ _
  have he' : PE X' elt te := by subst hX; exact he _ _ _ _ _ _
  have aft : ∀ {H' : Hp} {s' : Shared}, Inv X' [] (cst L src σ) H' s' → Inv X pins σ H' s' ∧ (∃ m, s'.heap.Ns hp2.objs.size m) ∧ FpOk X pins H' hp2.objs.size := by
    subst hX
    intro H' s' J
    refine ⟨I2.call' (ch := fp) J.os J.base J.hok J.bare fun b hb => ⟨(f2 b hb).2.2.2.1, (f2 b hb).2.1, (f2 b hb).2.2.2.2.1, (f2 b hb).2.2.2.2.2⟩, ?_, I2.fpOk hCle J.free⟩
    obtain ⟨m, hn, _⟩ := J.loc
    exact ⟨m, hn⟩
  have st1 : tn 0 h₁ := T.keep _ _ _ st2 fun b hb o e => old b o e
  have loop : ∀ s₃ : Shared, s₃ = { s2 with heap := h₁, toks := s2.toks + ([] : List (Str × Value)).length } →
      codeAny (model X.prog X.w) X.A (.compLoop (.ListComp elt [⟨tg, iter, ifs, 0⟩] scope pos) 0 (.ref it) (.ref s2.heap.objs.size) (compEnvC scope cl hp2.objs.size X.env))
        (RR (.ref s2.heap.objs.size) hp2.objs.size) s₃ := by
    rintro s₃ rfl
    refine compLoop_all (fun n s' => Ex3 fun i H' ys => Inv X' [] (cst L src σ) H' s' ∧ tn i s'.heap ∧ (∀ b ∈ fp, H' b = none) ∧ W i n H' ys) ?_ m0
      ⟨0, _, [], I1, st1, fun b hb => (by rw [upd_ne (below b (fplt b hb)).2]; exact (f2 b hb).1), w0⟩
    rintro n s3 ⟨i, H3, ys, I3, st3, fr3, w3⟩
    obtain ⟨hD, alt⟩ := turn i n H3 ys w3
    rcases alt with ⟨stop, qn⟩ | ⟨go, hlen, N, hN, step⟩
    · have d := T.done X' eP eW eK ec i [] s3 (cst L src σ) H3 (fun _ _ => False) I3 (stat fr3) st3 stop
      rw [eA] at d
      refine thn d fun r s4 ⟨hr, I4⟩ => ?_
      subst hr
      obtain ⟨J, ⟨m, hn⟩, fpC⟩ := aft I4
      exact hRR _ _ H3 .next s4 m J hn fpC qn
    · have d := T.item X' eP eW eK ec i [] s3 (cst L src σ) H3 (fun _ _ => False) I3 (stat fr3) st3 go
      rw [eA] at d
      refine thn d fun r s4 ⟨u, hr, h4⟩ => ?_
      subst hr
      refine thn h4 fun _ s5 ⟨x, H5, I5, r5, y5, st5, fr5⟩ => ?_
      have I5' := I5.pinned (stat fr5) (T.obj _ _ st5)
      have a1 := hg' _ s5 (cst L src σ) H5 x u _ I5' r5 (step x H5 y5)
      rw [eP, eW, eA, eE, exe] at a1
      refine thn a1 fun _ s6 ⟨σ6, H6, I6, bk, q6⟩ => ?_
      have a2 := hif' _ s6 σ6 H6 _ I6 q6
      rw [eP, eW, eA, eE, exe] at a2
      refine thn a2 fun b s7 ⟨H7, I7, q7⟩ => ?_
      have again : ∀ {H8 : Hp} {s8 : Shared} {ys' : List V}, Inv X' ([] ++ pinsAt fp s5.heap) σ6 H8 s8 → N H8 ys' → ∃ m, m < n ∧ Ex3 fun i H' ys => Inv X' [] (cst L src σ) H' s8 ∧ tn i s8.heap ∧ (∀ b ∈ fp, H' b = none) ∧ W i m H' ys := fun {H8 s8 ys'} I8 n8 => by
        obtain ⟨m', hm, w8⟩ := hN H8 ys' n8
        refine ⟨m', hm, i + 1, H8, ys', (I8.unpinned).weak bk.1.symm bk.2, T.keep _ _ _ st5 fun b hb o e => (I8.pin (b, o) (List.mem_append_right _ (List.mem_append_right _ (mem_pinsAt hb e)))).1, fun b hb => ?_, w8⟩
        obtain ⟨o, e, d⟩ := T.obj _ _ st5 b hb
        exact (I8.pin (b, o) (List.mem_append_right _ (List.mem_append_right _ (mem_pinsAt hb e)))).2.1
      cases b with
      | false =>
        rw [if_neg Bool.false_ne_true] at q7 ⊢
        exact again I7 q7
      | true =>
        rw [if_pos rfl] at q7 ⊢
        have a3 := he' _ s7 σ6 H7 _ I7 q7
        rw [eP, eW, eA, eE, exe] at a3
        refine thn a3 fun xv s8 ⟨y, H8, I8, r8, hD8, q8⟩ => ?_
        have a4 := mt_append (X := X') _ s8 σ6 H8 (.ref s2.heap.objs.size) [y] (.ref s2.heap.objs.size) [xv] (fun _ H' => H' = upd H8 s2.heap.objs.size (.lst (ys ++ [y]))) I8 rfl (.cons r8 .nil) ⟨_, ys, y, rfl, rfl, hD8, hlen, rfl⟩
        rw [eP, eW, eA, exe] at a4
        refine thn a4 fun _ s9 ⟨_, H9, I9, _, e9⟩ => ?_
        subst e9
        exact again I9 q8
  exact codeAny_compStart_list (loop _ rfl) (T.self _ 0 _ _ _ st1 (loop _ rfl))
theorem pe_comp (hc : X.calm = true) (ck : compChk X.env.scope X.N scope N' L src = true) (hi : PI X tg iter wi) (hg : ∀ cl C s H ex pn, PG (cxComp X scope cl C N' s H ex pn) tg g) (hif : ∀ cl C s H ex pn, PIfs (cxComp X scope cl C N' s H ex pn) ifs tt)
    (he : ∀ cl C s H ex pn, PE (cxComp X scope cl C N' s H ex pn) elt te) (hs : ∀ x, foldedSetIterable iter X.env x = pure x := by intro _; rfl) :
    PE X (.ListComp elt [⟨tg, iter, ifs, 0⟩] scope pos) (tComp wi L src g tt te) := by
  intro pins s σ H Q I h
  have ck := compOk_of ck
  obtain ⟨cl, hclos, hsub, hhas⟩ := clos_ok (scope := scope) (env := X.env) fun y hy e => I.ok.has y.1 (ck.free y hy e)
  rw [eval_ListComp]
  refine wpAny_comprehension_free (use := none) rfl hs hclos ck.kind ck.loc (comp_run hc ck I hsub hhas hi hg hif he h (RR := fun acc C => compPost (model X.prog X.w) X.A X.xe none (EP X pins σ Q) acc C) ?_)
  intro D C H' f s' m J hn fpC q
  refine ⟨m, hn, fun h' hsb => ⟨.ref D, H', ?_, rfl, q⟩⟩
  obtain ⟨f0, f1, f2, f3, f4, f5⟩ := fpC
  exact J.turned (t' := s'.toks) (fun b o hb e => (hsb.2 b hb).trans e) f0 f1 f3 f4 f5
theorem ps_setComp {j : Nat} {y : Str} {py spos : Pos} (hN : X.N.Nodup) (hj : X.N[j]? = some y) (hy : X.env.scope.names.lookup y = some .local) (hsw : swapsWith (.ListComp elt [⟨tg, iter, ifs, 0⟩] scope pos) (some (.Name y py)) spos.line X.env = pure true)
    (hc : X.calm = true) (ck : compChk X.env.scope X.N scope N' L src = true) (hi : PI X tg iter wi) (hg : ∀ cl C s H ex pn, PG (cxComp X scope cl C N' s H ex pn) tg g) (hif : ∀ cl C s H ex pn, PIfs (cxComp X scope cl C N' s H ex pn) ifs tt)
    (he : ∀ cl C s H ex pn, PE (cxComp X scope cl C N' s H ex pn) elt te) (hs : ∀ x, foldedSetIterable iter X.env x = pure x := by intro _; rfl) :
    PS X (.Assign [.Name y py] (.ListComp elt [⟨tg, iter, ifs, 0⟩] scope pos) spos) (tAsg (tComp wi L src g tt te) (gName j)) := by
  intro pins s σ H D I h
  have ck := compOk_of ck
  obtain ⟨cl, hclos, hsub, hhas⟩ := clos_ok (scope := scope) (env := X.env) fun y hy e => I.ok.has y.1 (ck.free y hy e)
  rw [exec_Assign_Name_used _ _ _ _ hsw]
  refine wpAny_bind (wpAny_standAt (wpAny_bind ?_))
  show wpAny _ X.A (do let _ ← comprehension (.ListComp elt [⟨tg, iter, ifs, 0⟩] scope pos) scope X.env _ (newList []) false (eval iter X.env) (some (assign (.Name y py) X.env))) _ _ s
  refine wpAny_bind (wpAny_mono (wpAny_comprehension_free (use := some (assign (.Name y py) X.env)) (Q := fun _ s' => SP X pins D .next s') rfl hs hclos ck.kind ck.loc
    (comp_run hc ck I hsub hhas hi hg hif he h (RR := fun acc C => compPost (model X.prog X.w) X.A X.xe (some (assign (.Name y py) X.env)) (fun _ s' => SP X pins D .next s') acc C) ?_)) (fun _ s' hq => wpAny_pure (wpAny_pure hq)) fun _ _ e => e)
  intro L' C H' f s' m J hn fpC q
  show wpAny _ X.A (assign (.Name y py) X.env (.ref L')) _ _ _
  refine wpAny_assign_Name (store_ok2 J hN hj (.inl hy) (v := .ref L') rfl (fun s2 J2 hsb => ?_) (.inr hy))
  obtain ⟨f0, f1, f2, f3, f4, f5⟩ := fpC
  obtain ⟨a, hsb, ha⟩ := hsb
  have hCa : C ≠ a := by
    rcases ha with rfl | ha
    · exact f1
    · exact fun z => f4 _ _ ha z.symm
  refine ⟨m, hn.sameBut hsb hCa, fun h' hsb' => ⟨_, H', ?_, q⟩⟩
  exact J2.turned (t' := s2.toks) (fun b o hb e => (hsb'.2 b hb).trans e) f0 f1 f3 f4 f5
end
theorem comp_over {J : It} {n : Nat} {H1 : Hp} {D : Addr} {σc : St} {g : TG} {tt : TT} {te : TE} {Q : VK} (Pv : Nat → Hp → List V → Prop) (hz : n ≤ sizeLine) (h0 : Pv 0 (upd H1 D (.lst [])) [])
    (hD : ∀ i H ys, Pv i H ys → H D = some (.lst ys) ∧ ys.length ≤ i)
    (hgo : ∀ i H ys, i < n → Pv i H ys → J.go i H) (hst : ∀ H ys, Pv n H ys → J.stop n H)
    (hs : ∀ i H ys x H', i < n → Pv i H ys → J.yld i H x H' → g x σc H' fun σ2 H2 => Back σc σ2 ∧ tt σ2 H2 fun b H3 => if b = true then te σ2 H3 fun y H4 => H4 D = some (.lst ys) ∧ Pv (i + 1) (upd H4 D (.lst (ys ++ [y]))) (ys ++ [y]) else Pv (i + 1) H3 ys)
    (hd : ∀ H ys, Pv n H ys → Q (.ref D) H) : CompW J σc g tt te D H1 Q := by
  refine ⟨fun i m H ys => m = n - i ∧ i ≤ n ∧ Pv i H ys, ⟨n, by simp, Nat.zero_le _, h0⟩, ?_⟩
  rintro i m H ys ⟨rfl, hi, p⟩
  obtain ⟨q1, q2⟩ := hD i H ys p
  refine ⟨q1, ?_⟩
  by_cases hlt : i < n
  · exact .inr ⟨hgo i H ys hlt p, by trivial, Pv (i + 1), fun H' ys' p' => ⟨n - (i + 1), by trivial, rfl, hlt, p'⟩, fun x H' y => hs i H ys x H' hlt p y⟩
  · have e : i = n := by trivial
    subst e
    exact .inl ⟨hst H ys p, hd H ys p⟩
theorem comp_each {J : It} {n : Nat} {H1 : Hp} {D : Addr} {σc : St} {g : TG} {te : TE} {Q : VK} (Pv : Nat → Hp → List V → Prop) (hz : n ≤ sizeLine) (h0 : Pv 0 (upd H1 D (.lst [])) [])
    (hD : ∀ i H ys, Pv i H ys → H D = some (.lst ys) ∧ ys.length ≤ i)
    (hgo : ∀ i H ys, i < n → Pv i H ys → J.go i H) (hst : ∀ H ys, Pv n H ys → J.stop n H)
    (hs : ∀ i H ys x H', i < n → Pv i H ys → J.yld i H x H' → g x σc H' fun σ2 H2 => Back σc σ2 ∧ te σ2 H2 fun y H4 => H4 D = some (.lst ys) ∧ Pv (i + 1) (upd H4 D (.lst (ys ++ [y]))) (ys ++ [y]))
    (hd : ∀ H ys, Pv n H ys → Q (.ref D) H) : CompW J σc g tT te D H1 Q := by
  refine comp_over Pv hz h0 hD hgo hst (fun i H ys x H' hi p y => ?_) hd
  have e := hs i H ys x H' hi p y
  have q : (fun (σ2 : St) (H2 : Hp) => Back σc σ2 ∧ tT σ2 H2 fun b H3 => if b = true then te σ2 H3 fun y H4 => H4 D = some (.lst ys) ∧ Pv (i + 1) (upd H4 D (.lst (ys ++ [y]))) (ys ++ [y]) else Pv (i + 1) H3 ys) =
      (fun σ2 H2 => Back σc σ2 ∧ te σ2 H2 fun y H4 => H4 D = some (.lst ys) ∧ Pv (i + 1) (upd H4 D (.lst (ys ++ [y]))) (ys ++ [y])) := by
    funext σ2 H2
    unfold tT
    dsimp only
    rw [if_pos rfl]
  rw [q]
  exact e
end L2
namespace L2
open PySem PySem.Spec PyProof.Rows
section
variable {X : Cx} {pins : List (Addr × Obj)} {σ : St} {H : Hp} {s : Shared} {h' : Heap}
theorem Inv.turnedNew {t' : Nat} {ch : List Addr} {T : Addr} {o : HO} (I : Inv X pins σ H s) (hf : ∀ b ∈ ch, FpOk X pins H b) (k : ∀ b u, b ∉ ch → s.heap.get? b = some u → h'.get? b = some u)
    (hT : s.heap.objs.size ≤ T) (new : ObjOk X.prog X.w (upd H T o) h' T o) : Inv X pins σ (upd H T o) { s with heap := h', toks := t' } := by
  have hn : H T = none := I.hok.fresh hT
  refine I.step (g' := s.gens) (d' := s.drawn) (ch := ch) (fun b hb => ?_) (fun b o _ _ hc e _ => k b o hc e) (fun b o _ _ hc e _ => ⟨o.slots, k b o hc e⟩) (fun b o hc e n => ?_)
    (fun b o hc e => ⟨o, k b o hc e⟩) (fun b xs e => ?_) (fun b o u e => ?_) (fun b ps e => ?_) (fun m hm => ?_) (fun b u e => ?_) I.bare
  · obtain ⟨f0, f1, f2, f3, f4, f5⟩ := hf b hb
    exact ⟨f3, f1, f4, f5⟩
  · rw [upd_ne (Nat.ne_of_lt (Nat.lt_of_lt_of_le (Heap.lt_size e) hT))]; exact n
  · rw [upd_ne (ne_of_none e hn)]; exact e
  · rw [upd_ne (ne_of_none e hn)]; exact e
  · exact ⟨#[], by rw [upd_ne (ne_of_none e hn), e]; simp⟩
  · obtain ⟨o, es, ep, ho, r⟩ := hm
    exact ⟨o, es, ep, k _ o (fun z => (hf _ z).2.1 rfl) ho, r⟩
  · by_cases hb : b = T
    · subst hb; rw [upd_same] at e; cases e; exact new
    · rw [upd_ne hb] at e
      refine (I.hok b u e).stay (fun c v hc q => k c v (fun z => ?_) q) (fun c q => by rw [upd_ne (ne_of_none q hn)]; exact q) fun c xs q => by rw [upd_ne (ne_of_none q hn)]; exact q
      have hcn := (hf c z).1
      rcases hc with rfl | hc
      · rw [e] at hcn; cases hcn
      · rw [hc] at hcn; cases hcn
end
section
variable {X : Cx}
theorem bools_get {bs : List Bool} {us : List Value} (r : Vals (bs.map V.bl) us) {i : Nat} {v : Value} (e : us[i]? = some v) : ∃ b, bs[i]? = some b ∧ v = .bool b := by
  have hl := r.length
  rw [List.length_map] at hl
  have hi : i < us.length := (List.getElem?_eq_some_iff.mp e).1
  have hb : bs[i]? = some bs[i] := by simp [hl, hi]
  obtain ⟨u, h1, h2⟩ := r.get (i := i) (x := .bl bs[i]) (by rw [List.getElem?_map, hb]; rfl)
  rw [e] at h1
  cases h1
  exact ⟨_, hb, h2⟩
theorem kept_it {s : Shared} {h' : Heap} {o : Obj} (hk : ∀ b x, b ∉ [s.heap.objs.size] → (s.heap.push o).get? b = some x → h'.get? b = some x) : ∀ b x, s.heap.get? b = some x → h'.get? b = some x :=
  fun b x e => hk b x (fun hm => by rw [List.mem_singleton.mp hm] at e; exact Nat.lt_irrefl _ (Heap.lt_size e)) (Heap.get?_push_of_some _ e)
theorem call_all (hc : X.calm = true) : CallR X (.builtin "all") (fun xs H Q => Ex2 fun (l : Addr) (bs : List Bool) => xs = [.ref l] ∧ SqL X.K H l (bs.map V.bl) ∧ Q (.bl (bs.all id)) H) := by
  intro pins s σ H xs us Q I r h
  obtain ⟨l, bs, rfl, hq, q⟩ := h
  obtain ⟨u, rfl, ru⟩ := r.one
  obtain rfl : u = .ref l := ru
  obtain ⟨its, rv, p, hz⟩ := I.list hq
  have hl := p.isList
  have hlt : l < s.heap.objs.size := by obtain ⟨_, e, _⟩ := hl; exact Heap.lt_size e
  refine call_all_walk (wpAny_pyIter_list hl ?_)
  refine ⟨s.heap.objs.size, [s.heap.objs.size, l], [s.heap.objs.size], its.toArray.size, _, _, fun i => (bs[i]?).getD true, rfl, Walks.list (A := X.A.in1) (I.ok.hd hc) _ l (Nat.ne_of_lt hlt) its.toArray,
    ⟨⟨_, Heap.get?_push_size _ rfl, rfl, rfl⟩, hl.push _⟩, fun i v s' Q' E' hP hQ => ?_, fun h' tk hk => ?_⟩
  · obtain ⟨b, e, rfl⟩ := bools_get rv (i := i) (v := v) (by simpa using hP)
    simp only [e, Option.getD_some] at hQ
    exact wpAny_truthy_bool hQ
  · have e : ((List.range its.toArray.size).all fun i => (bs[i]?).getD true) = bs.all id := by
      rw [List.size_toArray, ← rv.length, List.length_map]; exact LSm.range_all bs
    rw [e]
    exact ⟨.bl _, H, I.kept (kept_it hk), rfl, q⟩
end
def Ite (K : PySem.W.Frag) (a : Addr) : It :=
  ⟨fun i H => Ex2 fun xs x => SqL K H a xs ∧ xs[i]? = some x, fun i H v H' => Ex2 fun T x => H T = none ∧ v = .ref T ∧ H' = upd H T (.tup [.int (i : Int), x]) ∧ ∀ xs, SqL K H a xs → xs[i]? = some x, fun i H => ∃ xs, SqL K H a xs ∧ xs.length ≤ i⟩
theorem turn_enum {P : Program} {w : World} {K : PySem.W.Frag} {es : List Expr} {kk : Nat} {pos : Pos} (a e it : Addr) (hne : e ≠ it) :
    Turn P w K (.Tuple es kk pos) (Ite K a) [e, it] e (fun i h => (∃ old, IsEnum h e it i old) ∧ h.IsListIter it a i) where
  mem := by simp
  obj := fun i h st b hb => by
    obtain ⟨⟨old, he⟩, o, e1, c, d⟩ := st
    have hb' : b = e ∨ b = it := by simpa using hb
    rcases hb' with rfl | rfl
    · exact ⟨_, he, fun v z => by
        have z' : Data.fields _ = Data.cell v := z
        cases z'⟩
    · exact ⟨o, e1, fun v z => by rw [d] at z; cases z⟩
  keep := fun i h h' st k => by
    obtain ⟨⟨old, he⟩, hi⟩ := st
    exact ⟨⟨old, k e (by simp) _ he⟩, hi.at fun o q => k it (by simp) o q⟩
  item := by
    intro X hP hw hK hc i pins s σ H E I hf st hg
    subst hP hw hK
    obtain ⟨⟨old, he⟩, hit⟩ := st
    obtain ⟨xs, x, hq, hx⟩ := hg
    obtain ⟨its, rv, p, hz⟩ := I.list hq
    obtain ⟨u, hu, ru⟩ := rv.get hx
    have hnT : H s.heap.objs.size = none := I.fresh
    refine wpAny_pyNext_enum_item he hit p.isList (x := u) (by simpa using hu) hne fun h' ho hit' hT hsz hk => ?_
    refine ⟨_, rfl, wpAny_letOwnedTupleGo_enum (s := { s with heap := h', toks := s.toks + 1 }) ho fun h'' he'' hs'' => ?_⟩
    have helt : e < s.heap.objs.size := Heap.lt_size he
    have hilt : it < s.heap.objs.size := by obtain ⟨_, y, _⟩ := hit; exact Heap.lt_size y
    have hT'' : h''.get? s.heap.objs.size = some { cls := .type "tuple", data := .seq #[.int i s.toks, u] } := (hs''.2 _ (Nat.ne_of_gt helt)).trans hT
    refine ⟨.ref s.heap.objs.size, upd H s.heap.objs.size (.tup [.int (i : Int), x]), I.turnedNew (ch := [e, it]) (t' := s.toks + 1) hf (fun b o hb q => ?_) (Nat.le_refl _) ?_, rfl, ⟨_, x, hnT, rfl, rfl, fun ys hy => by rw [I.list_inj hy hq]; exact hx⟩, ⟨⟨u, ?_⟩, hit'.extBut hs''.extBut (Ne.symm hne)⟩, fun b hb => ?_⟩
    · have h1 : b ≠ e := fun z => hb (by simp [z])
      have h2 : b ≠ it := fun z => hb (by simp [z])
      exact (hs''.2 b h1).trans (hk b o h1 h2 q)
    · exact ⟨by show 2 ≤ sizeLine; decide, [.int i s.toks, u], .cons ⟨_, rfl⟩ (.cons ru .nil), ⟨_, hT'', rfl, _, rfl⟩, _, hT'', rfl⟩
    · simpa using he''
    · have hb' : b = e ∨ b = it := by simpa using hb
      have hlt : b < s.heap.objs.size := by rcases hb' with rfl | rfl <;> assumption
      rw [upd_ne (Nat.ne_of_lt hlt)]
      exact (hf b hb).1
  done := by
    intro X hP hw hK hc i pins s σ H E I hf st hg
    subst hP hw hK
    obtain ⟨⟨old, he⟩, hit⟩ := st
    obtain ⟨xs, hq, hx⟩ := hg
    obtain ⟨its, rv, p, hz⟩ := I.list hq
    obtain ⟨f0, f1, f2, f3, f4, f5⟩ := hf it (by simp)
    have hl := rv.length
    exact wpAny_pyNext_enum_end (I.ok.hd hc) he hit p.isList (by simp; trivial) fun h' eb => ⟨rfl, I.turned (t' := s.toks) (fun b o hb e => eb b o hb e) f0 f1 f3 f4 f5⟩
  self := fun _ _ _ _ _ st h => by
    obtain ⟨⟨old, he⟩, _⟩ := st
    exact wpAny_pyIter_enum he h
def iEnum (K : PySem.W.Frag) (ta : TA) : TI := fun σ H R => ta σ H fun vs H1 => ∃ a, vs = [.ref a] ∧ (∃ xs, SqL K H1 a xs) ∧ R (Ite K a) H1
theorem pi_enum {X : Cx} {es : List Expr} {kk : Nat} {tp : Pos} {a : Expr} {ta : TA} {p pos : Pos} (hg : Gl X "enumerate") (hm : X.mg "enumerate" = none) (ha : PA X [a] ta) (hs : starEach [a] X.env = [(false, eval a X.env)] := by rfl) :
    PI X (.Tuple es kk tp) (.Call (.Name "enumerate" p) [a] [] pos) (iEnum X.K ta) := by
  intro pins s σ H R I h
  refine Call_ (ld_blt I hg hm boot_enumerate (PyProof.Rows.callWith_type1 (thn (ha pos pins s σ H _ I h) fun us s1 ⟨vs, H1, I1, r1, q1⟩ => ?_) hs rfl))
  obtain ⟨a, rfl, ⟨xs, hq⟩, q⟩ := q1
  obtain ⟨u, rfl, ru⟩ := r1.one
  obtain rfl : u = .ref a := ru
  obtain ⟨its, rv, p, hz⟩ := I1.list hq
  refine call_enumerate_list p.isList fun h' hE hI hsz hk => wpAny_pyIter_enum hE ?_
  have I2 : Inv X pins σ H1 { s1 with heap := h', toks := s1.toks } := I1.kept hk
  refine ⟨s1.heap.objs.size + 1, [s1.heap.objs.size + 1, s1.heap.objs.size], _, _, H1, rfl, I2, turn_enum a (s1.heap.objs.size + 1) s1.heap.objs.size (Nat.succ_ne_self _), ⟨⟨_, hE⟩, hI⟩, fun b hb => ?_, q⟩
  have hb' : b = s1.heap.objs.size + 1 ∨ b = s1.heap.objs.size := by simpa using hb
  have hle : s1.heap.objs.size ≤ b := by rcases hb' with rfl | rfl <;> trivial
  exact I1.fpOk hle (I1.hok.fresh hle)
end L2
namespace L2
open PySem PySem.Spec PyProof.Rows
theorem boot_b_len : bootBuiltins "len" = some (.builtin "len") := by decide +kernel
theorem boot_b_abs : bootBuiltins "abs" = some (.builtin "abs") := by decide +kernel
theorem boot_b_max : bootBuiltins "max" = some (.builtin "max") := by decide +kernel
theorem boot_b_all : bootBuiltins "all" = some (.builtin "all") := by decide +kernel
theorem boot_b_divmod : bootBuiltins "divmod" = some (.builtin "divmod") := by decide +kernel
theorem boot_b_isinstance : bootBuiltins "isinstance" = some (.builtin "isinstance") := by decide +kernel
theorem boot_ty_int : bootBuiltins "int" = some (.type "int") := by decide +kernel
theorem boot_ty_bool : bootBuiltins "bool" = some (.type "bool") := by decide +kernel
theorem boot_ty_str : bootBuiltins "str" = some (.type "str") := by decide +kernel
theorem boot_ty_list : bootBuiltins "list" = some (.type "list") := by decide +kernel
theorem boot_ty_tuple : bootBuiltins "tuple" = some (.type "tuple") := by decide +kernel
theorem pe_ty {X : Cx} {x : Str} {T : String} {pos : Pos} (hg : Gl X x) (hm : X.mg x = none) (hv : bootBuiltins x = some (.type T)) (hn : x ≠ "__name__" := by decide) (hd : (x == ("__debug__" : Str)) = false := by decide) : PE X (.Name x pos) (tC (.ty T)) :=
  pe_bltn (v := .ty T) hg hm hv rfl hn hd
mutual
inductive IsD (E : Addr → Prop) (H : Hp) : V → PyData → Prop
  | non : IsD E H .non .none
  | bl (b : Bool) : IsD E H (.bl b) (.bool b)
  | int (i : Int) : IsD E H (.int i) (.int i)
  | str (x : Str) : IsD E H (.str x) (.str x)
  | lst {a : Addr} {xs : List V} {ds : List PyData} (h : H a = some (.lst xs)) (ne : ¬ E a) (r : IsAll E H xs ds) : IsD E H (.ref a) (.list ds)
  | tup {a : Addr} {xs : List V} {ds : List PyData} (h : H a = some (.tup xs)) (r : IsAll E H xs ds) : IsD E H (.ref a) (.tuple ds)
inductive IsAll (E : Addr → Prop) (H : Hp) : List V → List PyData → Prop
  | nil : IsAll E H [] []
  | cons {x : V} {xs : List V} {d : PyData} {ds : List PyData} (h : IsD E H x d) (r : IsAll E H xs ds) : IsAll E H (x :: xs) (d :: ds)
end
structure SameE (E : Addr → Prop) (H H' : Hp) : Prop where
  old : ∀ a o, ¬ E a → H a = some o → H' a = some o
  tup : ∀ a xs, H a = some (.tup xs) → H' a = some (.tup xs)
mutual
theorem IsD.mono {E : Addr → Prop} {H H' : Hp} (k : SameE E H H') : ∀ {v : V} {d : PyData}, IsD E H v d → IsD E H' v d
  | _, _, .non => .non
  | _, _, .bl b => .bl b
  | _, _, .int i => .int i
  | _, _, .str x => .str x
  | _, _, .lst h ne r => .lst (k.old _ _ ne h) ne (IsAll.mono k r)
  | _, _, .tup h r => .tup (k.tup _ _ h) (IsAll.mono k r)
theorem IsAll.mono {E : Addr → Prop} {H H' : Hp} (k : SameE E H H') : ∀ {vs : List V} {ds : List PyData}, IsAll E H vs ds → IsAll E H' vs ds
  | _, _, .nil => .nil
  | _, _, .cons h r => .cons (IsD.mono k h) (IsAll.mono k r)
end
theorem SameE.trans {E : Addr → Prop} {H H1 H2 : Hp} (a : SameE E H H1) (b : SameE E H1 H2) : SameE E H H2 := ⟨fun c o n h => b.old c o n (a.old c o n h), fun c xs h => b.tup c xs (a.tup c xs h)⟩
theorem Same.toE {E : Addr → Prop} {H H' : Hp} (a : Same H H') : SameE E H H' := ⟨fun c o _ h => a c o h, fun c xs h => a c _ h⟩
theorem Same.new {H : Hp} {p : Addr} {o : HO} (h : H p = none) : Same H (upd H p o) := fun b u e => by rw [upd_ne (ne_of_none e h)]; exact e
theorem IsAll.length {E : Addr → Prop} {H : Hp} : ∀ {vs : List V} {ds : List PyData}, IsAll E H vs ds → vs.length = ds.length
  | _, _, .nil => rfl
  | _, _, .cons _ r => by simp [IsAll.length r]
theorem IsAll.get {E : Addr → Prop} {H : Hp} : ∀ {vs : List V} {ds : List PyData} {i : Nat} {v : V}, IsAll E H vs ds → vs[i]? = some v → ∃ d, ds[i]? = some d ∧ IsD E H v d
  | _, _, _, _, .nil, e => by simp at e
  | _, _, 0, _, .cons h _, e => by simp at e; subst e; exact ⟨_, rfl, h⟩
  | _, _, i + 1, v, .cons _ r, e => by
    obtain ⟨d, h1, h2⟩ := IsAll.get (i := i) (v := v) r (by simpa using e)
    exact ⟨d, by simpa using h1, h2⟩
theorem IsAll.append {E : Addr → Prop} {H : Hp} : ∀ {vs ws : List V} {ds es : List PyData}, IsAll E H vs ds → IsAll E H ws es → IsAll E H (vs ++ ws) (ds ++ es)
  | _, _, _, _, .nil, s => s
  | _, _, _, _, .cons h r, s => .cons h (IsAll.append r s)
mutual
theorem IsD.reads {E : Addr → Prop} {P : Program} {w : World} {H : Hp} {h : Heap} (ok : HOk P w H h) : ∀ {v : V} {d : PyData}, IsD E H v d → ∀ {u : Value}, RelV v u → ∃ as, Reads h u d as
  | _, _, .non, u, r => by obtain rfl : u = .none := r; exact ⟨_, .none⟩
  | _, _, .bl b, u, r => by obtain rfl : u = .bool b := r; exact ⟨_, .bool b⟩
  | _, _, .int i, u, r => by obtain ⟨t, rfl⟩ := r; exact ⟨_, .int i t⟩
  | _, _, .str x, u, r => by obtain ⟨t, rfl⟩ := r; exact ⟨_, .str x t⟩
  | _, _, .lst (a := a) (xs := xs) e _ q, u, r => by
    obtain rfl : u = .ref a := r
    obtain ⟨_, its, n, rv, e1⟩ := (show ObjOk P w H h a (.lst xs) from ok a _ e)
    obtain ⟨as, ra⟩ := IsAll.reads ok q rv
    exact ⟨_, .list e1 rfl rfl (by simpa using ra)⟩
  | _, _, .tup (a := a) (xs := xs) e q, u, r => by
    obtain rfl : u = .ref a := r
    obtain ⟨_, its, rv, ⟨o, e1, c, n, dd⟩, _⟩ := (show ObjOk P w H h a (.tup xs) from ok a _ e)
    obtain ⟨as, ra⟩ := IsAll.reads ok q rv
    exact ⟨_, .tuple e1 c dd (by simpa using ra)⟩
theorem IsAll.reads {E : Addr → Prop} {P : Program} {w : World} {H : Hp} {h : Heap} (ok : HOk P w H h) : ∀ {vs : List V} {ds : List PyData}, IsAll E H vs ds → ∀ {us : List Value}, Vals vs us → ∃ as, ReadsAll h us ds as
  | _, _, .nil, us, r => by cases r; exact ⟨_, .nil⟩
  | _, _, .cons q qs, us, r => by
    cases r with
    | cons r1 rr =>
      obtain ⟨as, h1⟩ := IsD.reads ok q r1
      obtain ⟨bs, h2⟩ := IsAll.reads ok qs rr
      exact ⟨_, .cons h1 h2⟩
end
section
variable {X : Cx}
theorem call_str_data {k : Nat} (hr : Room k X.A) : CallR X (.type "str") (fun xs H Q => Ex3 fun (a : Addr) (d : PyData) (E : Addr → Prop) => xs = [.ref a] ∧ IsD E H (.ref a) d ∧ d.showable = true ∧ d.hasDict = false ∧ d.depth ≤ 50 ∧ d.shown.length ≤ sizeLine ∧ Q (.str d.shown) H) := by
  intro pins s σ H xs us Q I r h
  obtain ⟨a, d, E, rfl, hd, h1, h2, h3, h4, q⟩ := h
  obtain ⟨u, rfl, ru⟩ := r.one
  obtain rfl : u = .ref a := ru
  obtain ⟨as, rr⟩ := hd.reads I.hok (u := .ref a) rfl
  refine str_of_reads rr h1 (PyData.noDict_hsm h2) hr.gd (by have := hr.units; trivial) (fun _ _ e => e) (fun h' u tk hk => ?_) h4
  exact ⟨.str _, H, I.kept hk, ⟨_, rfl⟩, q⟩
def CDivB (_ j : Int) : Prop := 0 < j ∧ j.natAbs.log2 < 9000
theorem op_fdivB : OpR X (binaryOp .FloorDiv) (rI CDivB fun i j => .int (i / j)) := opI fun i j _ _ _ _ _ hc q => by
  rw [← Int.fdiv_eq_ediv_of_nonneg _ (Int.le_of_lt hc.1)] at q
  exact floordiv_int (Int.ne_of_gt hc.1) q (.inl (PyProof.noPylong_of_log2 hc.2))
end
end L2
namespace L2
open PySem PySem.Spec PyProof.Rows
def tyN : PyData → String
  | .none => "NoneType"
  | .bool _ => "bool"
  | .int _ => "int"
  | .str _ => "str"
  | .list _ => "list"
  | .tuple _ => "tuple"
  | .dict _ => "dict"
theorem IsD.ty {K : PySem.W.Frag} {E : Addr → Prop} {H : Hp} {v : V} {d : PyData} (h : IsD E H v d) : TyOf K H v (.type (tyN d)) := by
  cases h with
  | non => exact .non
  | bl b => exact .bl b
  | int i => exact .int i
  | str x => exact .str x
  | lst h ne r => exact .lst h
  | tup h r => exact .tup h
def isIntB : PyData → Bool
  | .int _ => true
  | .bool _ => true
  | _ => false
def isNum : PyData → Bool
  | .int _ => true
  | _ => false
def isBoolB : PyData → Bool
  | .bool _ => true
  | _ => false
def isTupB : PyData → Bool
  | .tuple _ => true
  | _ => false
def isLstB : PyData → Bool
  | .list _ => true
  | _ => false
def isStrB : PyData → Bool
  | .str _ => true
  | _ => false
theorem kit_int {K : PySem.W.Frag} (d : PyData) : PySem.W.kitOne K (.type (tyN d)) (.type "int") = some (isIntB d) := by cases d <;> rfl
theorem kit_bool {K : PySem.W.Frag} (d : PyData) : PySem.W.kitOne K (.type (tyN d)) (.type "bool") = some (isBoolB d) := by cases d <;> rfl
theorem kit_tuple {K : PySem.W.Frag} (d : PyData) : PySem.W.kitOne K (.type (tyN d)) (.type "tuple") = some (isTupB d) := by cases d <;> rfl
theorem kit_list {K : PySem.W.Frag} (d : PyData) : PySem.W.kitOne K (.type (tyN d)) (.type "list") = some (isLstB d) := by cases d <;> rfl
theorem kit_str {K : PySem.W.Frag} (d : PyData) : PySem.W.kitOne K (.type (tyN d)) (.type "str") = some (isStrB d) := by cases d <;> rfl
inductive rIsi_ (K : PySem.W.Frag) (xs : List V) (H : Hp) (Q : VK) : Prop
  | mk (x : _) (T : _) (t : _) (b : _) (h0 : xs = [x, .ty T]) (h1 : TyOf K H x t) (h2 : PySem.W.kitOne K t (.type T) = some b) (h3 : Q (.bl b) H)
def rIsi (K : PySem.W.Frag) : List V → Hp → VK → Prop := fun xs H Q => rIsi_ K xs H Q
end L2
namespace L2
open PySem PySem.Spec PyProof.Rows
section
variable {X : Cx}
theorem call_divmodB : CallR X (.builtin "divmod") (fun xs H Q => Ex2 fun i j => xs = [.int i, .int j] ∧ CDivB i j ∧ ∀ p, H p = none → Q (.ref p) (upd H p (.tup [.int (i / j), .int (i % j)]))) := by
  intro pins s σ H xs us Q I r h
  obtain ⟨i, j, rfl, ⟨h1, h2⟩, q⟩ := h
  obtain ⟨u, w', rfl, ⟨t, rfl⟩, ⟨t', rfl⟩⟩ := vals2 r
  refine divmod_int (by trivial) ?_ (.inl (PyProof.noPylong_of_log2 h2))
  rw [Int.fdiv_eq_ediv_of_nonneg i (by trivial), Int.fmod_eq_emod_of_nonneg i (by trivial)]
  have hn : H s.heap.objs.size = none := I.hok.fresh (Nat.le_refl _)
  refine ⟨.ref s.heap.objs.size, _, ?_, rfl, q _ hn⟩
  refine I.laid (fun b o e => Heap.get?_push_of_some _ e) (Nat.le_refl _) ⟨by simp only [List.length_cons, List.length_nil]; rw [sizeLine_eq]; decide, [.int (i / j) s.toks, .int (i % j) (s.toks + 1)], .cons ⟨_, rfl⟩ (.cons ⟨_, rfl⟩ .nil), ?_⟩
  exact ⟨⟨_, Heap.get?_push_size s.heap rfl, rfl, 0, rfl⟩, _, Heap.get?_push_size s.heap rfl, rfl⟩
end
theorem b01 (c : Bool) : -(2 ^ 64) < (if c = true then (1 : Int) else 0) ∧ (if c = true then (1 : Int) else 0) < 2 ^ 64 := by cases c <;> decide
theorem abs_nn (x : Int) : 0 ≤ (if x < 0 then -x else x) := by split <;> trivial
theorem mul01 {x : Int} (c : Bool) (h : 0 ≤ x) : 0 ≤ x * (if c = true then (1 : Int) else 0) := by cases c <;> simp [h]
theorem atI_int {ms : List Int} {k : Int} (h0 : 0 ≤ k) (h : k.toNat < ms.length) : atI (ms.map V.int) k = some (V.int ms[k.toNat]) := by
  have q := atI_nat (xs := ms.map V.int) (j := k.toNat) (v := V.int ms[k.toNat]) (by rw [List.getElem?_map]; simp [h])
  rwa [Int.toNat_of_nonneg h0] at q
def Bx (H : Hp) (b : Addr) (t : Int) : Prop := ∃ c x : Int, H b = some (.lst [.int c, .int x, .int t]) ∧ 0 ≤ c ∧ 0 ≤ x ∧ x < 2147483647
abbrev Eb (b : Addr) : Addr → Prop := fun a => a = b
theorem Bx.same {H H' : Hp} {b : Addr} {t : Int} (h : Bx H b t) (k : Same H H') : Bx H' b t := by
  obtain ⟨c, x, e, r⟩ := h
  exact ⟨c, x, k _ _ e, r⟩
theorem sameE_upd {H H1 : Hp} {b : Addr} {xs : List V} {o : HO} (k : Same H H1) (hb : H1 b = some (.lst xs)) : SameE (Eb b) H (upd H1 b o) :=
  ⟨fun a u n h => by rw [upd_ne n]; exact k a u h, fun a ys h => by
    have e := k a _ h
    rw [upd_ne (ne_of e hb (by intro z; cases z))]; exact e⟩
inductive spBox_ (K : PySem.W.Frag) (vs : List V) (H : Hp) (Q : VK) : Prop
  | mk (a : Addr) (ms : List Int) (k : Int) (h0 : vs = [.ref a, .int k]) (h1 : SqL K H a (ms.map V.int)) (h2 : 0 ≤ k) (h3 : k ≤ 63) (h4 : ∀ p H', H p = none → Same H H' → Bx H' p 0 → Q (.ref p) H')
def spBox (K : PySem.W.Frag) : Sp := fun vs H Q _ => spBox_ K vs H Q
inductive spTake_ (vs : List V) (H : Hp) (Q : VK) : Prop
  | mk (b : Addr) (many t : Int) (h0 : vs = [.ref b, .int many]) (h1 : Bx H b t) (h2 : 0 < many) (h3 : many.natAbs.log2 < 9000) (h4 : 0 ≤ t) (h5 : t ≤ 1000000) (h6 : ∀ r t' H', 0 ≤ r → r < many → t ≤ t' → t' ≤ t + 1 → SameE (Eb b) H H' → Bx H' b t' → Q (.int r) H')
def spTake : Sp := fun vs H Q _ => spTake_  vs H Q
end L2
namespace L2
open PySem PySem.Spec PyProof.Rows
def nodupB : List Str → Bool
  | [] => true
  | x :: r => !r.contains x && nodupB r
theorem nodupS : ∀ l : List Str, nodupB l = true → l.Nodup
  | [], _ => List.nodup_nil
  | x :: r, h => by
    unfold nodupB at h
    simp only [Bool.and_eq_true, Bool.not_eq_true', List.contains_eq_mem, decide_eq_false_iff_not] at h
    exact List.nodup_cons.mpr ⟨h.1, nodupS r h.2⟩
inductive rLen_ (K : PySem.W.Frag) (xs : List V) (H : Hp) (Q : VK) : Prop
  | mk (p : _) (ys : _) (h0 : xs = [.ref p]) (h1 : (SqL K H p ys ∨ SqT K H p ys)) (h2 : Q (.int ys.length) H)
def rLen (K : PySem.W.Frag) : List V → Hp → VK → Prop := fun xs H Q => rLen_ K xs H Q
section
variable {X : Cx} {K : PySem.W.Frag}
theorem isinst_k (e : X.K = K := by rfl) : CallR X (.builtin "isinstance") (rIsi K) := by subst e; exact fun pins s σ H xs us Q I r ⟨x, T, t, b, h1, h2, h3, q⟩ => call_isinst pins s σ H xs us Q I r ⟨x, T, t, b, h1, h2, h3, q⟩
theorem len_k (e : X.K = K := by rfl) : CallR X (.builtin "len") (rLen K) := by subst e; exact fun pins s σ H xs us Q I r ⟨p, ys, h1, h2, q⟩ => call_len_seq pins s σ H xs us Q I r ⟨p, ys, h1, h2, q⟩
theorem ix_k (e : X.K = K := by rfl) : IxR X (rIx K) := by subst e; exact ix_seq
theorem ixL_k (e : X.K = K := by rfl) : IxR X (rIxL K) := by subst e; exact ix_list
theorem ixT_k (e : X.K = K := by rfl) : IxR X (rIxT K) := by subst e; exact ix_tup
inductive rAll_ (K : PySem.W.Frag) (xs : List V) (H : Hp) (Q : VK) : Prop
  | mk (l : Addr) (bs : List Bool) (h0 : xs = [.ref l]) (h1 : SqL K H l (bs.map V.bl)) (h2 : Q (.bl (bs.all id)) H)
def rAll (K : PySem.W.Frag) : List V → Hp → VK → Prop := fun xs H Q => rAll_ K xs H Q
theorem all_k (hc : X.calm = true) (e : X.K = K := by rfl) : CallR X (.builtin "all") (rAll K) := by subst e; exact fun pins s σ H xs us Q I r ⟨l, bs, h1, h2, q⟩ => call_all hc pins s σ H xs us Q I r ⟨l, bs, h1, h2, q⟩
theorem pg_tup_k {pos : Pos} {es : List Expr} {k : Nat} {t : TGs} {n : Nat} (hc : X.calm = true) (h : PGs X es t) (e : X.K = K := by rfl)
    (hn : (assignEach es X.env).length = n := by rfl) (hst : (assignEach es X.env).findIdx? (·.1) = none := by rfl) : PG X (.Tuple es k pos) (gTup K n t) := by
  subst e; exact pg_tup hc h hn hst
theorem pi_list_k {tg l : Expr} {tl : TE} (hl : PE X l tl) (e : X.K = K := by rfl) : PI X tg l (iList K tl) := by subst e; exact pi_list hl
theorem pi_tup_k {tg l : Expr} {tl : TE} (hl : PE X l tl) (e : X.K = K := by rfl) : PI X tg l (iTup K tl) := by subst e; exact pi_tup hl
end
end L2
namespace L2
open PySem PySem.Spec PyProof.Rows
def notStar : Expr → Bool
  | .Starred .. => false
  | _ => true
theorem star_cons {e : Expr} {es : List Expr} {env : Env} (h : notStar e = true) : starEach (e :: es) env = (false, eval e env) :: starEach es env := by
  cases e <;> first | rfl | (simp [notStar] at h)
section
variable {X : Cx} {e : Expr} {es : List Expr} {te : TE} {t : TA}
theorem pa_c (ha : PE X e te) (hr : PA X es t) (hs : notStar e = true := by rfl) : PA X (e :: es) (tCons te t) := pa_cons ha hr (star_cons hs)
theorem pw (i : Nat) {x : Str} {pos : Pos} (hv : Vis X.env.scope x) (hN : X.N[i]? = some x := by rfl) (hd : (x == ("__debug__" : Str)) = false := by decide) (hcd : (x == ("__classdict__" : Str)) = false := by decide) : PE X (.Name x pos) (tVar i) := pe_var hN hv hd hcd
end
end L2
namespace KM
theorem gcd_fmod (n d : Int) : Int.gcd d (n.fmod d) = Int.gcd n d := by
  apply Nat.dvd_antisymm
  · apply Int.dvd_gcd
    · have h1 : ((Int.gcd d (n.fmod d) : Nat) : Int) ∣ d := Int.gcd_dvd_left ..
      have h2 : ((Int.gcd d (n.fmod d) : Nat) : Int) ∣ n.fmod d := Int.gcd_dvd_right ..
      have h3 := Int.dvd_add h2 (Int.dvd_mul_of_dvd_left (c := n.fdiv d) h1)
      rw [Int.fmod_add_mul_fdiv] at h3
      exact h3
    · exact Int.gcd_dvd_left ..
  · apply Int.dvd_gcd
    · exact Int.gcd_dvd_right ..
    · rw [Int.fmod_def]
      exact Int.dvd_sub (Int.gcd_dvd_left ..) (Int.dvd_mul_of_dvd_left (Int.gcd_dvd_right ..))
theorem fmod_natAbs_lt (n d : Int) (h : d ≠ 0) : (n.fmod d).natAbs < d.natAbs := by
  rcases Int.lt_trichotomy d 0 with hd | hd | hd
  · have e : n.fmod d = -((-n).fmod (-d)) := by
      rw [Int.fmod_def, Int.fmod_def]
      have : (-n).fdiv (-d) = n.fdiv d := Int.neg_fdiv_neg n d
      rw [this, Int.neg_mul]; trivial
    have h1 := Int.fmod_nonneg_of_pos (-n) (b := -d) (by trivial)
    have h2 := Int.fmod_lt_of_pos (-n) (b := -d) (by trivial)
    trivial
  · exact absurd hd h
  · have h1 := Int.fmod_nonneg_of_pos n hd
    have h2 := Int.fmod_lt_of_pos n hd
    trivial
theorem gcd_zero_abs (n : Int) : ((Int.gcd n 0 : Nat) : Int) = if n < 0 then -n else n := by
  rw [Int.gcd_zero_right]
  split <;> trivial
theorem gcd_emod (n d : Int) : Int.gcd d (n % d) = Int.gcd n d := by
  by_cases h : d = 0
  · subst h; rw [Int.emod_zero, Int.gcd_comm]
  · apply Nat.dvd_antisymm
    · apply Int.dvd_gcd
      · have h1 : ((Int.gcd d (n % d) : Nat) : Int) ∣ d := Int.gcd_dvd_left ..
        have h2 : ((Int.gcd d (n % d) : Nat) : Int) ∣ n % d := Int.gcd_dvd_right ..
        have h3 := Int.dvd_add h2 (Int.dvd_mul_of_dvd_left (c := n / d) h1)
        rw [Int.emod_add_mul_ediv] at h3
        exact h3
      · exact Int.gcd_dvd_left ..
    · apply Int.dvd_gcd
      · exact Int.gcd_dvd_right ..
      · rw [Int.emod_def]
        exact Int.dvd_sub (Int.gcd_dvd_left ..) (Int.dvd_mul_of_dvd_left (Int.gcd_dvd_right ..))
end KM
namespace KM
def low (n d : Int) : Int × Int := if 0 < d then (n / (Int.gcd n d : Nat), d / (Int.gcd n d : Nat)) else (-n / (Int.gcd n d : Nat), -d / (Int.gcd n d : Nat))
theorem gcd_pos {n d : Int} (h : d ≠ 0) : 0 < Int.gcd n d := by
  apply Nat.pos_of_ne_zero
  intro e
  exact h (Int.gcd_eq_zero_iff.mp e).2
theorem gcd_abs (n d : Int) : Int.gcd (if n < 0 then -n else n) (if d < 0 then -d else d) = Int.gcd n d := by
  split <;> split <;> simp [Int.gcd_neg, Int.neg_gcd]
theorem low_spec (n d : Int) (h : d ≠ 0) : 1 ≤ (low n d).2 ∧ (low n d).1 * d = n * (low n d).2 ∧ Int.gcd (low n d).1 (low n d).2 = 1 ∧ (low n d).1.natAbs ≤ n.natAbs ∧ (low n d).2.natAbs ≤ d.natAbs := by
  have g0 := gcd_pos (n := n) h
  have gi : ((Int.gcd n d : Nat) : Int) ≠ 0 := by trivial
  have d1 : ((Int.gcd n d : Nat) : Int) ∣ n := Int.gcd_dvd_left ..
  have d2 : ((Int.gcd n d : Nat) : Int) ∣ d := Int.gcd_dvd_right ..
  obtain ⟨a, ha⟩ := d1
  obtain ⟨b, hb⟩ := d2
  have ea : n / ((Int.gcd n d : Nat) : Int) = a := by
    conv => lhs; lhs; rw [ha]
    exact Int.mul_ediv_cancel_left _ gi
  have eb : d / ((Int.gcd n d : Nat) : Int) = b := by
    conv => lhs; lhs; rw [hb]
    exact Int.mul_ediv_cancel_left _ gi
  have ena : -n / ((Int.gcd n d : Nat) : Int) = -a := by
    have : -n = ((Int.gcd n d : Nat) : Int) * (-a) := by rw [Int.mul_neg]; trivial
    rw [this]
    exact Int.mul_ediv_cancel_left _ gi
  have enb : -d / ((Int.gcd n d : Nat) : Int) = -b := by
    have : -d = ((Int.gcd n d : Nat) : Int) * (-b) := by rw [Int.mul_neg]; trivial
    rw [this]
    exact Int.mul_ediv_cancel_left _ gi
  have hco : Int.gcd a b = 1 := by
    have := Int.gcd_ediv_gcd_ediv_gcd (i := n) (j := d) g0
    rw [ea, eb] at this
    exact this
  have hgp : (0 : Int) < ((Int.gcd n d : Nat) : Int) := by trivial
  have habs : n.natAbs = Int.gcd n d * a.natAbs := by
    conv => lhs; rw [ha]
    rw [Int.natAbs_mul]; rfl
  have hbbs : d.natAbs = Int.gcd n d * b.natAbs := by
    conv => lhs; rw [hb]
    rw [Int.natAbs_mul]; rfl
  have la : a.natAbs ≤ n.natAbs := by rw [habs]; exact Nat.le_mul_of_pos_left _ g0
  have lb : b.natAbs ≤ d.natAbs := by rw [hbbs]; exact Nat.le_mul_of_pos_left _ g0
  have hab : a * d = n * b := by
    generalize ((Int.gcd n d : Nat) : Int) = g at ha hb
    subst ha hb
    rw [Int.mul_comm g a, Int.mul_assoc]
  unfold low
  split
  · rename_i hd
    refine ⟨?_, ?_, ?_, ?_, ?_⟩
    · show 1 ≤ d / _
      rw [eb]
      have : 0 < b := by
        apply Int.pos_of_mul_pos_right (a := ((Int.gcd n d : Nat) : Int)) _ hgp
        rw [← hb]; exact hd
      trivial
    · show n / _ * d = n * (d / _)
      rw [ea, eb]; exact hab
    · show Int.gcd (n / _) (d / _) = 1
      rw [ea, eb]; exact hco
    · show (n / _).natAbs ≤ _
      rw [ea]; exact la
    · show (d / _).natAbs ≤ _
      rw [eb]; exact lb
  · rename_i hd
    refine ⟨?_, ?_, ?_, ?_, ?_⟩
    · show 1 ≤ -d / _
      rw [enb]
      have : 0 < -b := by
        apply Int.pos_of_mul_pos_right (a := ((Int.gcd n d : Nat) : Int)) _ hgp
        rw [Int.mul_neg, ← hb]; trivial
      trivial
    · show -n / _ * d = n * (-d / _)
      rw [ena, enb, Int.neg_mul, Int.mul_neg, hab]
    · show Int.gcd (-n / _) (-d / _) = 1
      rw [ena, enb, Int.gcd_neg, Int.neg_gcd]; exact hco
    · show (-n / _).natAbs ≤ _
      rw [ena, Int.natAbs_neg]; exact la
    · show (-d / _).natAbs ≤ _
      rw [enb, Int.natAbs_neg]; exact lb
end KM
namespace KM
theorem low_uniq {n d a b : Int} (hd : d ≠ 0) (hb : 1 ≤ b) (hg : Int.gcd a b = 1) (he : a * d = n * b) : low n d = (a, b) := by
  obtain ⟨h1, h2, h3, _, _⟩ := low_spec n d hd
  generalize low n d = z at *
  obtain ⟨x, y⟩ := z
  dsimp only at h1 h2 h3
  have e1 : x * b = a * y := by
    apply Int.eq_of_mul_eq_mul_right hd
    calc x * b * d = (x * d) * b := by rw [Int.mul_assoc, Int.mul_comm b d, ← Int.mul_assoc]
      _ = n * y * b := by rw [h2]
      _ = (n * b) * y := by rw [Int.mul_assoc, Int.mul_comm y b, ← Int.mul_assoc]
      _ = a * d * y := by rw [he]
      _ = a * y * d := by rw [Int.mul_assoc, Int.mul_comm d y, ← Int.mul_assoc]
  have d1 : y ∣ b := by
    apply Int.natAbs_dvd_natAbs.mp
    apply Nat.Coprime.dvd_of_dvd_mul_left (k := y.natAbs) (m := x.natAbs)
    · show Nat.gcd y.natAbs x.natAbs = 1
      rw [Nat.gcd_comm]; exact h3
    · rw [← Int.natAbs_mul]
      exact Int.natAbs_dvd_natAbs.mpr ⟨a, by rw [e1, Int.mul_comm]⟩
  have d2 : b ∣ y := by
    apply Int.natAbs_dvd_natAbs.mp
    apply Nat.Coprime.dvd_of_dvd_mul_left (k := b.natAbs) (m := a.natAbs)
    · show Nat.gcd b.natAbs a.natAbs = 1
      rw [Nat.gcd_comm]; exact hg
    · rw [← Int.natAbs_mul]
      exact Int.natAbs_dvd_natAbs.mpr ⟨x, by rw [← e1, Int.mul_comm]⟩
  have e2 : y = b := Int.dvd_antisymm (by trivial) (by trivial) d1 d2
  subst e2
  have e3 : x = a := Int.eq_of_mul_eq_mul_right (by trivial) e1
  rw [e3]
theorem low_self {a b : Int} (hb : 1 ≤ b) (hg : Int.gcd a b = 1) : low a b = (a, b) := low_uniq (by trivial) hb hg rfl
section
variable {p0 p1 q0 q1 : Int}
end
theorem fdiv_low {n d : Int} (hd : d ≠ 0) : (n.fdiv (if d < 0 then -((Int.gcd n d : Nat) : Int) else ((Int.gcd n d : Nat) : Int)), d.fdiv (if d < 0 then -((Int.gcd n d : Nat) : Int) else ((Int.gcd n d : Nat) : Int))) = low n d := by
  have g0 : (0 : Int) ≤ ((Int.gcd n d : Nat) : Int) := Int.natCast_nonneg _
  unfold low
  by_cases h : d < 0
  · rw [if_pos h, if_neg (by trivial)]
    have e : ∀ x : Int, x.fdiv (-((Int.gcd n d : Nat) : Int)) = -x / ((Int.gcd n d : Nat) : Int) := fun x => by
      rw [← Int.fdiv_eq_ediv_of_nonneg _ g0, ← Int.neg_fdiv_neg, Int.neg_neg]
    rw [e, e]
  · rw [if_neg h, if_pos (by trivial), Int.fdiv_eq_ediv_of_nonneg _ g0, Int.fdiv_eq_ediv_of_nonneg _ g0]
end KM
namespace KM
abbrev Fra := Int × Int
def ladd (t p : Fra) : Fra := low (t.1 * p.2 + p.1 * t.2) (t.2 * p.2)
def sumF (ps : List Fra) : Fra := ps.foldl ladd (0, 1)
theorem low_sgn {n d : Int} (hd : 0 < d) : (0 < (low n d).1 ↔ 0 < n) ∧ ((low n d).1 < 0 ↔ n < 0) := by
  obtain ⟨h1, h2, _, _, _⟩ := low_spec n d (by trivial)
  generalize low n d = z at *
  obtain ⟨x, y⟩ := z
  dsimp only at *
  have hy : 0 < y := by trivial
  constructor
  · constructor
    · intro h
      have : 0 < x * d := Int.mul_pos h hd
      rw [h2] at this
      exact Int.pos_of_mul_pos_left this hy
    · intro h
      have : 0 < n * y := Int.mul_pos h hy
      rw [← h2] at this
      exact Int.pos_of_mul_pos_left this hd
  · constructor
    · intro h
      have : x * d < 0 := Int.mul_neg_of_neg_of_pos h hd
      rw [h2] at this
      apply Decidable.byContradiction
      intro hn
      have := Int.mul_nonneg (show 0 ≤ n by trivial) (show 0 ≤ y by trivial)
      trivial
    · intro h
      have : n * y < 0 := Int.mul_neg_of_neg_of_pos h hy
      rw [← h2] at this
      apply Decidable.byContradiction
      intro hn
      have := Int.mul_nonneg (show 0 ≤ x by trivial) (show 0 ≤ d by trivial)
      trivial
end KM
namespace KM
def vl (p : Fra) : Rat := Rat.divInt p.1 p.2
def Rd (p : Fra) : Prop := 1 ≤ p.2 ∧ Int.gcd p.1 p.2 = 1
theorem Rd.low {n d : Int} (h : d ≠ 0) : Rd (KM.low n d) := ⟨(low_spec n d h).1, (low_spec n d h).2.2.1⟩
theorem vl_low {n d : Int} (h : d ≠ 0) : vl (low n d) = Rat.divInt n d := by
  obtain ⟨h1, h2, _⟩ := low_spec n d h
  exact (Rat.divInt_eq_divInt_iff (by trivial) h).mpr (by rw [h2])
theorem Rd.nz {p : Fra} (h : Rd p) : p.2 ≠ 0 := by have := h.1; trivial
theorem mul_nz {a b : Int} (h : a ≠ 0) (k : b ≠ 0) : a * b ≠ 0 := Int.mul_ne_zero h k
theorem vl_add {p q : Fra} (hp : p.2 ≠ 0) (hq : q.2 ≠ 0) : vl (ladd p q) = vl p + vl q := by
  unfold ladd
  rw [vl_low (mul_nz hp hq)]
  exact (Rat.divInt_add_divInt _ _ hp hq).symm
def lTim (p q : Fra) : Fra := low (p.1 * q.1) (p.2 * q.2)
theorem vl_tim {p q : Fra} (hp : p.2 ≠ 0) (hq : q.2 ≠ 0) : vl (lTim p q) = vl p * vl q := by
  unfold lTim
  rw [vl_low (mul_nz hp hq)]
  exact (Rat.divInt_mul_divInt _ _).symm
theorem Rd.add {p q : Fra} (hp : Rd p) (hq : Rd q) : Rd (ladd p q) := Rd.low (mul_nz hp.nz hq.nz)
theorem Rd.tim {p q : Fra} (hp : Rd p) (hq : Rd q) : Rd (lTim p q) := Rd.low (mul_nz hp.nz hq.nz)
theorem Rd.zero : Rd (0, 1) := ⟨by decide, by decide⟩
theorem vl_zero : vl (0, 1) = 0 := Rat.zero_divInt 1
def rsum (xs : List Rat) : Rat := xs.foldr (· + ·) 0
theorem sum_vl : ∀ (ps : List Fra) (t : Fra), Rd t → (∀ p ∈ ps, Rd p) → Rd (ps.foldl ladd t) ∧ vl (ps.foldl ladd t) = vl t + rsum (ps.map vl)
  | [], t, ht, _ => ⟨ht, by show vl t = vl t + 0; grind⟩
  | p :: r, t, ht, h => by
    have hp := h p (by simp)
    obtain ⟨a, b⟩ := sum_vl r (ladd t p) (ht.add hp) fun q hq => h q (List.mem_cons_of_mem _ hq)
    refine ⟨a, ?_⟩
    show vl (r.foldl ladd (ladd t p)) = vl t + (vl p + rsum (r.map vl))
    rw [b, vl_add ht.nz hp.nz]
    grind
theorem sumF_vl {ps : List Fra} (h : ∀ p ∈ ps, Rd p) : Rd (sumF ps) ∧ vl (sumF ps) = rsum (ps.map vl) := by
  obtain ⟨a, b⟩ := sum_vl ps (0, 1) Rd.zero h
  refine ⟨a, ?_⟩
  show vl (ps.foldl ladd (0, 1)) = _
  rw [b, vl_zero]
  grind
end KM
namespace L2
open PySem PySem.Spec PyProof.Rows
section
variable {prog : Program} {w : World} {A : Around} {E : Value → Shared → Prop} {s : Shared}
theorem nextOf_tup {it t : Addr} {i : Nat} {its : Array Value} {x : Value} {Q : Value → Shared → Prop} (hit : s.heap.IsTupleIter it t i) (ht : s.heap.IsTuple t its) (hx : its[i]? = some x)
    (q : ∀ h', h'.IsTupleIter it t (i + 1) → Heap.SameBut it s.heap h' → Q x { s with heap := h' }) : wpAny (model prog w) A (Builtin.SmallTypes.nextOf (.ref it)) Q E s := by
  obtain ⟨o, e1, e2, e3⟩ := id hit; obtain ⟨u, e4, _, k, e5⟩ := ht; unfold Builtin.SmallTypes.nextOf
  refine wpAny_bind (wpAny_callSpecial?_slot (name := Str.ofString "__next__") hit.typeIs F.slot_tuple_iterator_next (wpAny_call_entry F.slot_tuple_iterator_next hit.typeIs F.entry_tuple_iterator_next ?_ (F.args_tuple_iterator_next_1 _)))
  show wpAny _ _ (field (.ref it) 0 >>= _) _ _ s; refine wpAny_bind (wpAny_field e1 e3 (x := .ref t) rfl ?_)
  show wpAny _ _ (if (Value.ref t == Value.none) = true then _ else _) _ _ s; rw [if_neg (show ¬ ((Value.ref t == Value.none) = true) from Bool.false_ne_true)]
  show wpAny _ _ (field (.ref it) 1 >>= _) _ _ s; refine wpAny_bind (wpAny_field e1 e3 (x := .int i 0) rfl ?_)
  show wpAny _ _ (seqItems? (.ref t) >>= _) _ _ s; refine wpAny_bind (wpAny_seqItems e4 e5 ?_)
  simp only [Int.toNat_natCast, hx]; refine wpAny_bind (wpAny_setField e1 e3 (by simp) (wpAny_pure ⟨x, rfl, wpAny_pure (q _ ?_ (Heap.SameBut.update ..))⟩))
  exact ⟨_, Heap.get?_update_self _ e1 (Obj.isFreed_of_fields (Obj.data_mapFields e3 _)), (Obj.cls_mapFields ..).trans e2, by rw [Obj.data_mapFields e3]; simp [rawInt]⟩
theorem nextOf_tupEnd {it t : Addr} {i : Nat} {its : Array Value} {Q : Value → Shared → Prop} (hh : A.handled = none) (hit : s.heap.IsTupleIter it t i) (ht : s.heap.IsTuple t its) (hx : its[i]? = none)
    (q : ∀ h' e, Heap.ExtBut it s.heap h' → (∃ o, h'.get? e = some o ∧ o.cls = .type "StopIteration") → E (.ref e) { s with heap := h' }) : wpAny (model prog w) A (Builtin.SmallTypes.nextOf (.ref it)) Q E s := by
  obtain ⟨o, e1, e2, e3⟩ := id hit; obtain ⟨u, e4, _, k, e5⟩ := ht; unfold Builtin.SmallTypes.nextOf
  refine wpAny_bind (wpAny_callSpecial?_slot (name := Str.ofString "__next__") hit.typeIs F.slot_tuple_iterator_next (wpAny_call_entry F.slot_tuple_iterator_next hit.typeIs F.entry_tuple_iterator_next ?_ (F.args_tuple_iterator_next_1 _)))
  show wpAny _ _ (field (.ref it) 0 >>= _) _ _ s; refine wpAny_bind (wpAny_field e1 e3 (x := .ref t) rfl ?_)
  show wpAny _ _ (if (Value.ref t == Value.none) = true then _ else _) _ _ s; rw [if_neg (show ¬ ((Value.ref t == Value.none) = true) from Bool.false_ne_true)]
  show wpAny _ _ (field (.ref it) 1 >>= _) _ _ s; refine wpAny_bind (wpAny_field e1 e3 (x := .int i 0) rfl ?_)
  show wpAny _ _ (seqItems? (.ref t) >>= _) _ _ s; refine wpAny_bind (wpAny_seqItems e4 e5 ?_)
  simp only [Int.toNat_natCast, hx]; refine wpAny_bind (wpAny_rule (wpAny_bind (wpAny_setField e1 e3 (by simp) ?_)))
  show wpAny _ _ (newExc (.type "StopIteration") [] >>= _) _ _ _; refine wpAny_bind ?_; simp only [newExc, newTuple]
  refine wpAny_bind (wpAny_newObj_type ?_ (by size_fits)); refine wpAny_bind (m := firstArgMember _ _) (wpAny_of_eq (a := Value.none) (by first | rfl | (simp only [firstArgMember]; rfl)) ?_); refine wpAny_newObj_type ?_ (by size_fits)
  simp only [raiseNew]; refine wpAny_bind (wpAny_handled ?_); first | rw [show A.in1.handled = none from hh] | rw [hh]
  refine wpAny_bind (wpAny_pure (wpAny_throw ?_)); exact q _ _ (((Heap.SameBut.update ..).extBut.push _).push _) ⟨_, Heap.get?_push_size _ rfl, rfl⟩
end
def SqK (h : Heap) (l : Addr) (its : Array Value) : Bool → Prop
  | true => h.IsList l its
  | false => h.IsTuple l its
def ItK (h : Heap) (it l : Addr) (i : Nat) : Bool → Prop
  | true => h.IsListIter it l i
  | false => h.IsTupleIter it l i
theorem SqK.at {h h' : Heap} {l : Addr} {its : Array Value} : ∀ {b : Bool}, SqK h l its b → (∀ o, h.get? l = some o → h'.get? l = some o) → SqK h' l its b
  | true, q, k => Heap.IsList.at q k
  | false, q, k => Heap.IsTuple.at q k
theorem ItK.at {h h' : Heap} {it l : Addr} {i : Nat} : ∀ {b : Bool}, ItK h it l i b → (∀ o, h.get? it = some o → h'.get? it = some o) → ItK h' it l i b
  | true, q, k => Heap.IsListIter.at q k
  | false, q, k => Heap.IsTupleIter.at q k
theorem SqK.lt {h : Heap} {l : Addr} {its : Array Value} : ∀ {b : Bool}, SqK h l its b → l < h.objs.size
  | true, ⟨_, e, _⟩ => Heap.lt_size e
  | false, ⟨_, e, _⟩ => Heap.lt_size e
theorem ItK.some {h : Heap} {it l : Addr} {i : Nat} : ∀ {b : Bool}, ItK h it l i b → ∃ o, h.get? it = some o ∧ ∀ v, o.data ≠ .cell v
  | true, ⟨o, e, _, d⟩ => ⟨o, e, fun v z => by rw [d] at z; cases z⟩
  | false, ⟨o, e, _, d⟩ => ⟨o, e, fun v z => by rw [d] at z; cases z⟩
theorem drawsK {prog : Program} {w : World} {A : Around} (hh : A.handled = none) (it l : Addr) (hne : l ≠ it) (its : Array Value) : ∀ b : Bool,
    Draws prog w A it [it, l] its.size (fun i v => its[i]? = some v) (fun i h => ItK h it l i b ∧ SqK h l its b)
  | true => Draws.list hh it l hne its
  | false => {
    live := fun _ _ st => let ⟨o, ho, _⟩ := st.1; ⟨o, ho⟩
    frame := fun _ _ _ st hk => ⟨Heap.IsTupleIter.at st.1 fun o e => hk it (by simp) o e, Heap.IsTuple.at st.2 fun o e => hk l (by simp) o e⟩
    item := fun i s Q E hi st q => nextOf_tup st.1 st.2 (x := its[i]) (by simp [hi]) fun h' it' same => q _ h' s.toks (by simp [hi]) ⟨it', Heap.IsTuple.extBut st.2 same.extBut hne⟩ same
    done := fun s Q E st q => nextOf_tupEnd hh st.1 st.2 (by simp) q }
end L2
namespace L2
open PySem PySem.Spec PyProof.Rows
structure Apart5 (z TI TO i1 i2 : Addr) : Prop where
  a1 : TI ≠ z
  a2 : TO ≠ z
  a3 : i1 ≠ z
  a4 : i2 ≠ z
  a5 : TI ≠ TO
  a6 : TI ≠ i1
  a7 : TI ≠ i2
  a8 : TO ≠ i1
  a9 : TO ≠ i2
  a0 : i1 ≠ i2
section
variable {prog : Program} {w : World} {A : Around} {E : Value → Shared → Prop} {s : Shared}
variable {z TI TO i1 i2 l1 l2 : Addr} {k : Nat} {xs ys : Array Value} {a b : Value} {c1 c2 : Bool}
theorem zipItem {x y : Value} {Q : Value → Shared → Prop} (D : Apart5 z TI TO i1 i2) (n1 : ∀ c, c = l1 ∨ c = l2 → c ≠ z ∧ c ≠ TO ∧ c ≠ i1 ∧ c ≠ i2)
    (hz : IsZip s.heap z TI TO .none) (hTI : IsPair s.heap TI (.ref i1) (.ref i2)) (hTO : IsPair s.heap TO a b) (hh : A.handled = none)
    (h1 : ItK s.heap i1 l1 k c1) (h2 : ItK s.heap i2 l2 k c2) (q1 : SqK s.heap l1 xs c1) (q2 : SqK s.heap l2 ys c2) (hx : xs[k]? = some x) (hy : ys[k]? = some y)
    (hQ : ∀ h' tk, IsZip h' z TI TO (rawInt s.heap.objs.size) → IsPair h' TO x y → ItK h' i1 l1 (k + 1) c1 → ItK h' i2 l2 (k + 1) c2 → IsPair h' s.heap.objs.size x y → h'.objs.size = s.heap.objs.size + 1 →
      (∀ c o, c ≠ z → c ≠ TO → c ≠ i1 → c ≠ i2 → s.heap.get? c = some o → h'.get? c = some o) → Q (.ref s.heap.objs.size) { s with heap := h', toks := tk }) :
    wpAny (model prog w) A (Builtin.«zip.__next__» ⟨[.ref z], []⟩) (fun fin s' => ∃ v, fin = .done (.ret v) ∧ Q v s') E s := by
  obtain ⟨m1, m2, m3, m4⟩ := n1 l1 (.inl rfl)
  obtain ⟨m5, m6, m7, m8⟩ := n1 l2 (.inr rfl)
  have kx : k < xs.size := (Array.getElem?_eq_some_iff.mp hx).1
  have ky : k < ys.size := (Array.getElem?_eq_some_iff.mp hy).1
  have D1 := drawsK (prog := prog) (w := w) hh i1 l1 m3 xs c1
  have D2 := drawsK (prog := prog) (w := w) hh i2 l2 m8 ys c2
  show wpAny _ _ (field (.ref z) 2 >>= _) _ _ _; refine wpAny_bind (wpAny_field hz rfl (x := .bool false) rfl ?_)
  show wpAny _ _ (field (.ref z) 3 >>= _) _ _ _; refine wpAny_bind (wpAny_field hz rfl (x := .ref TI) rfl (wpAny_bind (wpAny_seqItems hTI rfl ?_)))
  show wpAny _ _ (Builtin.SmallTypes.ownedTupleIsFree (.ref z) >>= _) _ _ _; refine wpAny_bind ?_; unfold Builtin.SmallTypes.ownedTupleIsFree
  refine wpAny_bind (wpAny_field hz rfl (x := .none) rfl (wpAny_pure ?_)); simp only [if_true]
  refine wpAny_bind (wpAny_rule (wpAny_bind (wpAny_field hz rfl (x := .ref TO) rfl (wpAny_bind (wpAny_setField_rec hz (by simp) fun g1 z1 t1 => ?_)))))
  replace z1 : IsZip g1 z TI TO .ellipsis := z1
  refine wpAny_bind ?_; simp only [List.zipIdx_cons, List.zipIdx_nil, List.forIn_cons, List.forIn_nil]; refine wpAny_bind (wpAny_bind (wpAny_onRaise ?_))
  show wpAny _ _ (Builtin.SmallTypes.nextOf (.ref i1) >>= _) _ _ _
  refine wpAny_bind (D1.item k _ _ _ kx ⟨h1.at fun o e => t1.extBut _ _ D.a3 e, q1.at fun o e => t1.extBut _ _ m1 e⟩ fun x' g2 tk2 p1 st1 t2 => wpAny_pure ?_)
  have ex : x = x' := Option.some.inj (hx.symm.trans p1)
  subst ex
  have TO2 : IsPair g2 TO a b := t2.extBut _ _ D.a8 (t1.extBut _ _ D.a2 hTO)
  refine wpAny_bind (wpAny_seqItems TO2 rfl (wpAny_bind (wpAny_updateSeq_pair TO2 fun g3 TO3 t3 => ?_)))
  replace TO3 : IsPair g3 TO x b := TO3
  refine wpAny_bind (wpAny_letGo (wpAny_pure ?_)); refine wpAny_bind (wpAny_bind (wpAny_onRaise ?_)); show wpAny _ _ (Builtin.SmallTypes.nextOf (.ref i2) >>= _) _ _ _
  refine wpAny_bind (D2.item k _ _ _ ky ⟨h2.at fun o e => t3.extBut _ _ D.a9.symm (t2.extBut _ _ D.a0.symm (t1.extBut _ _ D.a4 e)), q2.at fun o e => t3.extBut _ _ m6 (t2.extBut _ _ m7 (t1.extBut _ _ m5 e))⟩ fun y' g4 tk4 p2 st2 t4 => wpAny_pure ?_)
  have ey : y = y' := Option.some.inj (hy.symm.trans p2)
  subst ey
  have TO4 : IsPair g4 TO x b := t4.extBut _ _ D.a9 TO3
  refine wpAny_bind (wpAny_seqItems TO4 rfl (wpAny_bind (wpAny_updateSeq_pair TO4 fun g5 TO5 t5 => ?_)))
  replace TO5 : IsPair g5 TO x y := TO5
  refine wpAny_bind (wpAny_letGo (wpAny_pure (wpAny_pure ?_))); refine wpAny_bind (wpAny_seqItems TO5 rfl (wpAny_bind (wpAny_newTuple ?_)))
  have sz : g5.objs.size = s.heap.objs.size := by rw [t5.1, t4.1, t3.1, t2.1, t1.1]
  have z5 : IsZip g5 z TI TO .ellipsis := t5.extBut _ _ D.a2.symm (t4.extBut _ _ D.a4.symm (t3.extBut _ _ D.a2.symm (t2.extBut _ _ D.a3.symm z1)))
  have keep : ∀ c o, c ≠ z → c ≠ TO → c ≠ i1 → c ≠ i2 → s.heap.get? c = some o → g5.get? c = some o := fun c o d1 d2 d3 d4 e => t5.extBut _ _ d2 (t4.extBut _ _ d4 (t3.extBut _ _ d2 (t2.extBut _ _ d3 (t1.extBut _ _ d1 e))))
  have it1 : ItK g5 i1 l1 (k + 1) c1 := st1.1.at fun o e => t5.extBut _ _ D.a8.symm (t4.extBut _ _ D.a0 (t3.extBut _ _ D.a8.symm e))
  have it2 : ItK g5 i2 l2 (k + 1) c2 := st2.1.at fun o e => t5.extBut _ _ D.a9.symm e
  have zlt : z < g5.objs.size := Heap.lt_size z5
  show wpAny _ _ (Builtin.SmallTypes.ownedTupleHandOut (.ref z) (.ref g5.objs.size) >>= _) _ _ _; refine wpAny_bind ?_; unfold Builtin.SmallTypes.ownedTupleHandOut
  have z6 : IsZip (g5.push { cls := .type "tuple", data := .seq #[x, y] }) z TI TO .ellipsis := Heap.get?_push_of_some _ z5
  refine wpAny_bind (wpAny_setField_rec z6 (by simp) fun g7 z7 t7 => ?_)
  replace z7 : IsZip g7 z TI TO (rawInt g5.objs.size) := z7
  refine wpAny_setField_rec z7 (by simp) fun g8 z8 t8 => ?_
  replace z8 : IsZip g8 z TI TO (rawInt g5.objs.size) := z8
  have up : ∀ c o, c ≠ z → g5.get? c = some o → g8.get? c = some o := fun c o d e => t8.extBut _ _ d (t7.extBut _ _ d (Heap.get?_push_of_some _ e))
  have T8 : IsPair g8 g5.objs.size x y := t8.extBut _ _ (Nat.ne_of_gt zlt) (t7.extBut _ _ (Nat.ne_of_gt zlt) (Heap.get?_push_size _ rfl))
  have s8 : g8.objs.size = g5.objs.size + 1 := by rw [t8.1, t7.1, Heap.size_push]
  rw [sz] at z8 T8 s8
  refine wpAny_pure ⟨_, rfl, ?_⟩; show Q (.ref g5.objs.size) _; rw [sz]
  exact hQ g8 _ z8 (up _ _ D.a2 TO5) (it1.at fun o e => up _ o D.a3 e) (it2.at fun o e => up _ o D.a4 e) T8 s8 fun c o d1 d2 d3 d4 e => up c o d1 (keep c o d1 d2 d3 d4 e)
theorem zipEnd {Q : Fin → Shared → Prop} (hh : A.handled = none) (D : Apart5 z TI TO i1 i2) (n1 : ∀ c, c = l1 ∨ c = l2 → c ≠ z ∧ c ≠ TO ∧ c ≠ i1 ∧ c ≠ i2)
    (hz : IsZip s.heap z TI TO .none) (hTI : IsPair s.heap TI (.ref i1) (.ref i2)) (hTO : IsPair s.heap TO a b)
    (h1 : ItK s.heap i1 l1 k c1) (h2 : ItK s.heap i2 l2 k c2) (q1 : SqK s.heap l1 xs c1) (q2 : SqK s.heap l2 ys c2) (hend : xs.size = k ∨ (k < xs.size ∧ ys.size = k))
    (hE : ∀ h' e tk, (∀ c o, c ≠ z → c ≠ TO → c ≠ i1 → c ≠ i2 → s.heap.get? c = some o → h'.get? c = some o) → (∃ o, h'.get? e = some o ∧ o.cls = .type "StopIteration") → E (.ref e) { s with heap := h', toks := tk }) :
    wpAny (model prog w) A (Builtin.«zip.__next__» ⟨[.ref z], []⟩) Q E s := by
  obtain ⟨m1, m2, m3, m4⟩ := n1 l1 (.inl rfl)
  obtain ⟨m5, m6, m7, m8⟩ := n1 l2 (.inr rfl)
  have D1 := drawsK (prog := prog) (w := w) hh i1 l1 m3 xs c1
  have D2 := drawsK (prog := prog) (w := w) hh i2 l2 m8 ys c2
  show wpAny _ _ (field (.ref z) 2 >>= _) _ _ _; refine wpAny_bind (wpAny_field hz rfl (x := .bool false) rfl ?_)
  show wpAny _ _ (field (.ref z) 3 >>= _) _ _ _; refine wpAny_bind (wpAny_field hz rfl (x := .ref TI) rfl (wpAny_bind (wpAny_seqItems hTI rfl ?_)))
  show wpAny _ _ (Builtin.SmallTypes.ownedTupleIsFree (.ref z) >>= _) _ _ _; refine wpAny_bind ?_; unfold Builtin.SmallTypes.ownedTupleIsFree
  refine wpAny_bind (wpAny_field hz rfl (x := .none) rfl (wpAny_pure ?_)); simp only [if_true]
  refine wpAny_bind (wpAny_rule (wpAny_bind (wpAny_field hz rfl (x := .ref TO) rfl (wpAny_bind (wpAny_setField_rec hz (by simp) fun g1 z1 t1 => ?_)))))
  replace z1 : IsZip g1 z TI TO .ellipsis := z1
  refine wpAny_bind ?_; simp only [List.zipIdx_cons, List.zipIdx_nil, List.forIn_cons, List.forIn_nil]; refine wpAny_bind (wpAny_bind (wpAny_onRaise ?_))
  show wpAny _ _ (Builtin.SmallTypes.nextOf (.ref i1) >>= _) _ _ _
  have st0 : ItK g1 i1 l1 k c1 ∧ SqK g1 l1 xs c1 := ⟨h1.at fun o e => t1.extBut _ _ D.a3 e, q1.at fun o e => t1.extBut _ _ m1 e⟩
  rcases hend with hk | ⟨kx, hk⟩
  · refine wpAny_bind (D1.done _ _ _ (by rw [hk]; exact st0) fun g2 e t2 he => ?_)
    obtain ⟨oe, e1, e2⟩ := he
    have z2 : IsZip g2 z TI TO .ellipsis := t2 _ _ D.a3.symm z1
    have ez : e ≠ z := fun q => by subst q; rw [z2] at e1; cases e1; simp at e2
    exact wpAny_setField_rec z2 (by simp) fun g3 _ t3 => hE g3 e _ (fun c o d1 _ d3 _ q => t3.extBut _ _ d1 (t2 _ _ d3 (t1.extBut _ _ d1 q))) ⟨oe, t3.extBut _ _ ez e1, e2⟩
  · refine wpAny_bind (D1.item k _ _ _ kx st0 fun x g2 tk2 p1 st1 t2 => wpAny_pure ?_)
    have TO2 : IsPair g2 TO a b := t2.extBut _ _ D.a8 (t1.extBut _ _ D.a2 hTO)
    refine wpAny_bind (wpAny_seqItems TO2 rfl (wpAny_bind (wpAny_updateSeq_pair TO2 fun g3 TO3 t3 => ?_)))
    refine wpAny_bind (wpAny_letGo (wpAny_pure ?_)); refine wpAny_bind (wpAny_bind (wpAny_onRaise ?_)); show wpAny _ _ (Builtin.SmallTypes.nextOf (.ref i2) >>= _) _ _ _
    have st2 : ItK g3 i2 l2 k c2 ∧ SqK g3 l2 ys c2 := ⟨h2.at fun o e => t3.extBut _ _ D.a9.symm (t2.extBut _ _ D.a0.symm (t1.extBut _ _ D.a4 e)), q2.at fun o e => t3.extBut _ _ m6 (t2.extBut _ _ m7 (t1.extBut _ _ m5 e))⟩
    refine wpAny_bind (D2.done _ _ _ (by rw [hk]; exact st2) fun g4 e t4 he => ?_)
    obtain ⟨oe, e1, e2⟩ := he
    have z4 : IsZip g4 z TI TO .ellipsis := t4 _ _ D.a4.symm (t3.extBut _ _ D.a2.symm (t2.extBut _ _ D.a3.symm z1))
    have ez : e ≠ z := fun q => by subst q; rw [z4] at e1; cases e1; simp at e2
    exact wpAny_setField_rec z4 (by simp) fun g5 _ t5 => hE g5 e _ (fun c o d1 d2 d3 d4 q => t5.extBut _ _ d1 (t4 _ _ d4 (t3.extBut _ _ d2 (t2.extBut _ _ d3 (t1.extBut _ _ d1 q))))) ⟨oe, t5.extBut _ _ ez e1, e2⟩
end
end L2
namespace L2
open PySem PySem.Spec PyProof.Rows
def itN : Bool → String
  | true => "list_iterator"
  | false => "tuple_iterator"
abbrev zA (h : Heap) (l1 : Addr) (c1 : Bool) : Heap := h.push { cls := .type (itN c1), data := .fields #[.ref l1, .int 0 0] }
abbrev zB (h : Heap) (l1 l2 : Addr) (c1 c2 : Bool) : Heap := (zA h l1 c1).push { cls := .type (itN c2), data := .fields #[.ref l2, .int 0 0] }
abbrev zC (h : Heap) (l1 l2 : Addr) (c1 c2 : Bool) : Heap := (zB h l1 l2 c1 c2).push { cls := .type "tuple", data := .seq #[.ref h.objs.size, .ref (zA h l1 c1).objs.size] }
abbrev zD (h : Heap) (l1 l2 : Addr) (c1 c2 : Bool) : Heap := (zC h l1 l2 c1 c2).push { cls := .type "tuple", data := .seq #[.none, .none] }
abbrev zE (h : Heap) (l1 l2 : Addr) (c1 c2 : Bool) : Heap := (zD h l1 l2 c1 c2).push { cls := .type "zip", data := .fields #[.none, .bool false, .bool false, .ref (zB h l1 l2 c1 c2).objs.size, .ref (zC h l1 l2 c1 c2).objs.size] }
set_option maxHeartbeats 8000000 in
theorem zipNew (l1 l2 : Addr) (xs ys : Array Value) (c1 c2 : Bool) :
    Meets (Builtin.«zip.__new__» ⟨[.type "zip", .ref l1, .ref l2], []⟩) (fun _ R s => SqK s.heap l1 xs c1 ∧ SqK s.heap l2 ys c2 ∧ R (.ok (.ret (.ref (zD s.heap l1 l2 c1 c2).objs.size))) { s with heap := zE s.heap l1 l2 c1 c2 }) :=
  .of_wp fun prog w A R s h => by
    obtain ⟨hp, g, d, tk, os⟩ := s; obtain ⟨q1, q2, h⟩ := h
    have hsub := sub_zip
    have L2' : SqK (Shared.heap ⟨zA hp l1 c1, g, d, tk, os⟩) l2 ys c2 := SqK.at q2 fun o e => Heap.get?_push_of_some _ e
    cases c1 <;> cases c2
    · have g1 : Heap.IsTuple (Shared.heap ⟨hp, g, d, tk, os⟩) l1 xs := q1
      have g2 : Heap.IsTuple (Shared.heap ⟨hp.push { cls := .type "tuple_iterator", data := .fields #[.ref l1, .int 0 0] }, g, d, tk, os⟩) l2 ys := L2'
      wp_walk using wpAny_pyIter_tuple g1, wpAny_pyIter_tuple g2
      exact ⟨_, rfl, h⟩
    · have g1 : Heap.IsTuple (Shared.heap ⟨hp, g, d, tk, os⟩) l1 xs := q1
      have g2 : Heap.IsList (Shared.heap ⟨hp.push { cls := .type "tuple_iterator", data := .fields #[.ref l1, .int 0 0] }, g, d, tk, os⟩) l2 ys := L2'
      wp_walk using wpAny_pyIter_tuple g1, wpAny_pyIter_list g2
      exact ⟨_, rfl, h⟩
    · have g1 : Heap.IsList (Shared.heap ⟨hp, g, d, tk, os⟩) l1 xs := q1
      have g2 : Heap.IsTuple (Shared.heap ⟨hp.push { cls := .type "list_iterator", data := .fields #[.ref l1, .int 0 0] }, g, d, tk, os⟩) l2 ys := L2'
      wp_walk using wpAny_pyIter_list g1, wpAny_pyIter_tuple g2
      exact ⟨_, rfl, h⟩
    · have g1 : Heap.IsList (Shared.heap ⟨hp, g, d, tk, os⟩) l1 xs := q1
      have g2 : Heap.IsList (Shared.heap ⟨hp.push { cls := .type "list_iterator", data := .fields #[.ref l1, .int 0 0] }, g, d, tk, os⟩) l2 ys := L2'
      wp_walk using wpAny_pyIter_list g1, wpAny_pyIter_list g2
      exact ⟨_, rfl, h⟩
theorem itK_new {h : Heap} {it l : Addr} : ∀ {c : Bool}, h.get? it = some { cls := .type (itN c), data := .fields #[.ref l, .int 0 0] } → ItK h it l 0 c
  | true, e => ⟨_, e, rfl, rfl⟩
  | false, e => ⟨_, e, rfl, rfl⟩
section
variable {prog : Program} {w : World} {A : Around} {E : Value → Shared → Prop} {s : Shared}
theorem call_zipK {l1 l2 : Addr} {xs ys : Array Value} {c1 c2 : Bool} {Q : Value → Shared → Prop} (q1 : SqK s.heap l1 xs c1) (q2 : SqK s.heap l2 ys c2)
    (h : ∀ h', IsZip h' (s.heap.objs.size + 4) (s.heap.objs.size + 2) (s.heap.objs.size + 3) .none → IsPair h' (s.heap.objs.size + 2) (.ref s.heap.objs.size) (.ref (s.heap.objs.size + 1)) →
      IsPair h' (s.heap.objs.size + 3) .none .none → ItK h' s.heap.objs.size l1 0 c1 → ItK h' (s.heap.objs.size + 1) l2 0 c2 →
      (∀ c o, s.heap.get? c = some o → h'.get? c = some o) → Q (.ref (s.heap.objs.size + 4)) { s with heap := h' }) :
    wpAny (model prog w) A (call (.type "zip") [.ref l1, .ref l2]) Q E s := by
  refine callType_new F.called_zip (by decide) (F.typeCall_zip_2 _ _) (F.newCall_zip_2 _ _) (fun obj => F.args_object_init_3 obj _ _) F.entry_zip_new (zipNew l1 l2 xs ys c1 c2) ⟨q1, q2, ?_⟩
  have s1 : (zA s.heap l1 c1).objs.size = s.heap.objs.size + 1 := Heap.size_push ..
  have s2 : (zB s.heap l1 l2 c1 c2).objs.size = s.heap.objs.size + 2 := by rw [Heap.size_push, s1]
  have s3 : (zC s.heap l1 l2 c1 c2).objs.size = s.heap.objs.size + 3 := by rw [Heap.size_push, s2]
  have s4 : (zD s.heap l1 l2 c1 c2).objs.size = s.heap.objs.size + 4 := by rw [Heap.size_push, s3]
  have g5 : (zE s.heap l1 l2 c1 c2).get? (zD s.heap l1 l2 c1 c2).objs.size = some _ := Heap.get?_push_size _ rfl
  have g4 : (zE s.heap l1 l2 c1 c2).get? (zC s.heap l1 l2 c1 c2).objs.size = some _ := Heap.get?_push_of_some _ (Heap.get?_push_size _ rfl)
  have g3 : (zE s.heap l1 l2 c1 c2).get? (zB s.heap l1 l2 c1 c2).objs.size = some _ := Heap.get?_push_of_some _ (Heap.get?_push_of_some _ (Heap.get?_push_size _ rfl))
  have g2 : (zE s.heap l1 l2 c1 c2).get? (zA s.heap l1 c1).objs.size = some _ := Heap.get?_push_of_some _ (Heap.get?_push_of_some _ (Heap.get?_push_of_some _ (Heap.get?_push_size _ rfl)))
  have g1 : (zE s.heap l1 l2 c1 c2).get? s.heap.objs.size = some _ := Heap.get?_push_of_some _ (Heap.get?_push_of_some _ (Heap.get?_push_of_some _ (Heap.get?_push_of_some _ (Heap.get?_push_size _ rfl))))
  show _ ∧ _
  rw [s2, s3, s4] at g5
  rw [s1, s2] at g3
  rw [s3] at g4
  rw [s1] at g2
  rw [s4]
  exact ⟨⟨_, g5, rfl⟩, h _ g5 g3 g4 (itK_new g1) (itK_new g2) fun c o x => Heap.get?_push_of_some _ (Heap.get?_push_of_some _ (Heap.get?_push_of_some _ (Heap.get?_push_of_some _ (Heap.get?_push_of_some _ x))))⟩
theorem pyNext_zipItem {z TI TO i1 i2 l1 l2 : Addr} {k : Nat} {xs ys : Array Value} {a b x y : Value} {c1 c2 : Bool} {Q : Option Value → Shared → Prop} (D : Apart5 z TI TO i1 i2) (n1 : ∀ c, c = l1 ∨ c = l2 → c ≠ z ∧ c ≠ TO ∧ c ≠ i1 ∧ c ≠ i2)
    (hz : IsZip s.heap z TI TO .none) (hTI : IsPair s.heap TI (.ref i1) (.ref i2)) (hTO : IsPair s.heap TO a b) (hh : A.handled = none)
    (h1 : ItK s.heap i1 l1 k c1) (h2 : ItK s.heap i2 l2 k c2) (q1 : SqK s.heap l1 xs c1) (q2 : SqK s.heap l2 ys c2) (hx : xs[k]? = some x) (hy : ys[k]? = some y)
    (hQ : ∀ h' tk, IsZip h' z TI TO (rawInt s.heap.objs.size) → IsPair h' TO x y → ItK h' i1 l1 (k + 1) c1 → ItK h' i2 l2 (k + 1) c2 → IsPair h' s.heap.objs.size x y → h'.objs.size = s.heap.objs.size + 1 →
      (∀ c o, c ≠ z → c ≠ TO → c ≠ i1 → c ≠ i2 → s.heap.get? c = some o → h'.get? c = some o) → Q (some (.ref s.heap.objs.size)) { s with heap := h', toks := tk }) :
    wpAny (model prog w) A (pyNext (.ref z)) Q E s := by
  have hT : s.TypeIs (.ref z) "zip" := ⟨_, hz, rfl⟩
  unfold pyNext
  exact wpAny_bind (wpAny_attempt (wpAny_callSpecial?_slot (name := Str.ofString "__next__") hT F.slot_zip_next (wpAny_call_entry F.slot_zip_next hT F.entry_zip_next
    (zipItem D n1 hz hTI hTO hh h1 h2 q1 q2 hx hy fun h' tk a1 a2 a3 a4 a5 a6 a7 => wpAny_pure (hQ h' tk a1 a2 a3 a4 a5 a6 a7)) (F.args_zip_next_1 _))))
theorem pyNext_zipEnd {z TI TO i1 i2 l1 l2 : Addr} {k : Nat} {xs ys : Array Value} {a b : Value} {c1 c2 : Bool} {Q : Option Value → Shared → Prop} (hh : A.handled = none) (D : Apart5 z TI TO i1 i2) (n1 : ∀ c, c = l1 ∨ c = l2 → c ≠ z ∧ c ≠ TO ∧ c ≠ i1 ∧ c ≠ i2)
    (hz : IsZip s.heap z TI TO .none) (hTI : IsPair s.heap TI (.ref i1) (.ref i2)) (hTO : IsPair s.heap TO a b)
    (h1 : ItK s.heap i1 l1 k c1) (h2 : ItK s.heap i2 l2 k c2) (q1 : SqK s.heap l1 xs c1) (q2 : SqK s.heap l2 ys c2) (hend : xs.size = k ∨ (k < xs.size ∧ ys.size = k))
    (hQ : ∀ h' tk, (∀ c o, c ≠ z → c ≠ TO → c ≠ i1 → c ≠ i2 → s.heap.get? c = some o → h'.get? c = some o) → Q none { s with heap := h', toks := tk }) : wpAny (model prog w) A (pyNext (.ref z)) Q E s := by
  have hT : s.TypeIs (.ref z) "zip" := ⟨_, hz, rfl⟩
  unfold pyNext
  refine wpAny_bind (wpAny_attempt (wpAny_callSpecial?_slot (name := Str.ofString "__next__") hT F.slot_zip_next (wpAny_call_entry F.slot_zip_next hT F.entry_zip_next
    (zipEnd hh D n1 hz hTI hTO h1 h2 q1 q2 hend fun h' e tk hk he => ?_) (F.args_zip_next_1 _))))
  obtain ⟨o, ho, hc⟩ := he
  refine wpAny_bind (wpAny_isInstance (T := "StopIteration") (b := true) ⟨o, ho, hc⟩ isSubtype_stop (wpAny_pure (hQ _ tk hk)))
end
theorem Inv.turnedL {X : Cx} {pins : List (Addr × Obj)} {σ : St} {H : Hp} {s : Shared} {h' : Heap} {t' : Nat} {ch : List Addr} (I : Inv X pins σ H s) (hf : ∀ b ∈ ch, FpOk X pins H b) (k : ∀ b u, b ∉ ch → s.heap.get? b = some u → h'.get? b = some u) :
    Inv X pins σ H { s with heap := h', toks := t' } := by
  refine I.step (g' := s.gens) (d' := s.drawn) (ch := ch) (fun b hb => ?_) (fun b o _ _ hc e _ => k b o hc e) (fun b o _ _ hc e _ => ⟨o.slots, k b o hc e⟩) (fun _ _ _ _ n => n)
    (fun b o hc e => ⟨o, k b o hc e⟩) (fun _ _ e => e) (fun _ _ _ e => e) (fun b ps e => ⟨#[], by rw [e]; simp⟩) (fun m hm => ?_) (fun b u e => ?_) I.bare
  · obtain ⟨f0, f1, f2, f3, f4, f5⟩ := hf b hb
    exact ⟨f3, f1, f4, f5⟩
  · obtain ⟨o, es, ep, ho, r⟩ := hm
    exact ⟨o, es, ep, k _ o (fun z => (hf _ z).2.1 rfl) ho, r⟩
  · refine (I.hok b u e).stay (fun c v hc q => k c v (fun z => ?_) q) (fun _ q => q) fun _ _ q => q
    have hcn := (hf c z).1
    rcases hc with rfl | hc
    · rw [e] at hcn; cases hcn
    · rw [hc] at hcn; cases hcn
def SqC (K : PySem.W.Frag) (H : Hp) (a : Addr) (xs : List V) : Bool → Prop
  | true => SqL K H a xs
  | false => SqT K H a xs
theorem Inv.seqC {X : Cx} {pins : List (Addr × Obj)} {σ : St} {H : Hp} {s : Shared} {a : Addr} {xs : List V} (I : Inv X pins σ H s) : ∀ {c : Bool}, SqC X.K H a xs c → ∃ its : List Value, Vals xs its ∧ SqK s.heap a its.toArray c
  | true, q => let ⟨its, rv, p, _⟩ := I.list q; ⟨its, rv, p.isList⟩
  | false, q => let ⟨its, rv, p, _⟩ := I.tuple q; ⟨its, rv, p⟩
theorem Inv.seqC_inj {X : Cx} {pins : List (Addr × Obj)} {σ : St} {H : Hp} {s : Shared} {a : Addr} {xs ys : List V} (I : Inv X pins σ H s) : ∀ {c : Bool}, SqC X.K H a xs c → SqC X.K H a ys c → xs = ys
  | true, p, q => I.list_inj p q
  | false, p, q => I.tuple_inj p q
def Itz (K : PySem.W.Frag) (a1 a2 : Addr) (c1 c2 : Bool) : It :=
  ⟨fun i H => Ex4 fun xs ys x y => SqC K H a1 xs c1 ∧ SqC K H a2 ys c2 ∧ xs[i]? = some x ∧ ys[i]? = some y,
   fun i H v H' => Ex3 fun T x y => H T = none ∧ v = .ref T ∧ H' = upd H T (.tup [x, y]) ∧ (∀ xs, SqC K H a1 xs c1 → xs[i]? = some x) ∧ (∀ ys, SqC K H a2 ys c2 → ys[i]? = some y),
   fun i H => Ex2 fun xs ys => SqC K H a1 xs c1 ∧ SqC K H a2 ys c2 ∧ (xs.length = i ∨ (i < xs.length ∧ ys.length = i))⟩
theorem turn_zip {P : Program} {w : World} {K : PySem.W.Frag} {es : List Expr} {kk : Nat} {pos : Pos} (a1 a2 z TI TO i1 i2 : Addr) (c1 c2 : Bool) (D : Apart5 z TI TO i1 i2) (n1 : ∀ c, c = a1 ∨ c = a2 → c ≠ z ∧ c ≠ TO ∧ c ≠ i1 ∧ c ≠ i2) :
    Turn P w K (.Tuple es kk pos) (Itz K a1 a2 c1 c2) [z, TO, i1, i2, TI] z (fun i h => IsZip h z TI TO .none ∧ IsPair h TI (.ref i1) (.ref i2) ∧ (Ex2 fun a b => IsPair h TO a b) ∧ ItK h i1 a1 i c1 ∧ ItK h i2 a2 i c2) where
  mem := by simp
  obj := fun i h st b hb => by
    obtain ⟨hz, hTI, ⟨a, b', hTO⟩, h1, h2⟩ := st
    have hb' : b = z ∨ b = TO ∨ b = i1 ∨ b = i2 ∨ b = TI := by simpa using hb
    rcases hb' with rfl | rfl | rfl | rfl | rfl
    · exact ⟨_, hz, fun v q => by have q' : Data.fields _ = Data.cell v := q; cases q'⟩
    · exact ⟨_, hTO, fun v q => by have q' : Data.seq _ _ = Data.cell v := q; cases q'⟩
    · exact h1.some
    · exact h2.some
    · exact ⟨_, hTI, fun v q => by have q' : Data.seq _ _ = Data.cell v := q; cases q'⟩
  keep := fun i h h' st k => by
    obtain ⟨hz, hTI, ⟨a, b', hTO⟩, h1, h2⟩ := st
    exact ⟨k z (by simp) _ hz, k TI (by simp) _ hTI, ⟨a, b', k TO (by simp) _ hTO⟩, h1.at fun o q => k i1 (by simp) o q, h2.at fun o q => k i2 (by simp) o q⟩
  item := by
    intro X hP hw hK hc i pins s σ H E I hf st hg
    subst hP hw hK
    obtain ⟨hz, hTI, ⟨a, b', hTO⟩, h1, h2⟩ := st
    obtain ⟨xs, ys, x, y, p1, p2, hx, hy⟩ := hg
    obtain ⟨its1, rv1, k1⟩ := I.seqC p1
    obtain ⟨its2, rv2, k2⟩ := I.seqC p2
    obtain ⟨u, hu, ru⟩ := rv1.get hx
    obtain ⟨v, hv, rw'⟩ := rv2.get hy
    have hnT : H s.heap.objs.size = none := I.fresh
    refine pyNext_zipItem D n1 hz hTI hTO (I.ok.hd hc) h1 h2 k1 k2 (x := u) (y := v) (by simpa using hu) (by simpa using hv) fun h' tk zo TO' t1 t2 T' sz keep => ?_
    refine ⟨_, rfl, wpAny_letOwnedTupleGo_zip (s := { s with heap := h', toks := tk }) zo fun h2' z2 s2 => ?_⟩
    have zlt : z < s.heap.objs.size := Heap.lt_size hz
    have TOlt : TO < s.heap.objs.size := Heap.lt_size hTO
    have TIlt : TI < s.heap.objs.size := Heap.lt_size hTI
    have i1lt : i1 < s.heap.objs.size := let ⟨_, e, _⟩ := h1.some; Heap.lt_size e
    have i2lt : i2 < s.heap.objs.size := let ⟨_, e, _⟩ := h2.some; Heap.lt_size e
    have hT2 : h2'.get? s.heap.objs.size = some { cls := .type "tuple", data := .seq #[u, v] } := (s2.2 _ (Nat.ne_of_gt zlt)).trans T'
    refine ⟨.ref s.heap.objs.size, upd H s.heap.objs.size (.tup [x, y]), I.turnedNew (ch := [z, TO, i1, i2, TI]) (t' := tk) hf (fun b o hb q => ?_) (Nat.le_refl _) ?_, rfl,
      ⟨_, x, y, hnT, rfl, rfl, fun zs hs => by rw [I.seqC_inj hs p1]; exact hx, fun zs hs => by rw [I.seqC_inj hs p2]; exact hy⟩, ⟨z2, (s2.2 _ D.a1).trans (keep _ _ D.a1 D.a5 D.a6 D.a7 hTI), ⟨_, _, (s2.2 _ D.a2).trans TO'⟩, t1.at fun o e => (s2.2 _ D.a3).trans e, t2.at fun o e => (s2.2 _ D.a4).trans e⟩, fun b hb => ?_⟩
    · have e1 : b ≠ z := fun q => hb (by simp [q])
      have e2 : b ≠ TO := fun q => hb (by simp [q])
      have e3 : b ≠ i1 := fun q => hb (by simp [q])
      have e4 : b ≠ i2 := fun q => hb (by simp [q])
      exact (s2.2 b e1).trans (keep b o e1 e2 e3 e4 q)
    · exact ⟨by show 2 ≤ sizeLine; decide, [u, v], .cons ru (.cons rw' .nil), ⟨_, hT2, rfl, _, rfl⟩, _, hT2, rfl⟩
    · have hb' : b = z ∨ b = TO ∨ b = i1 ∨ b = i2 ∨ b = TI := by simpa using hb
      have hlt : b < s.heap.objs.size := by rcases hb' with rfl | rfl | rfl | rfl | rfl <;> assumption
      rw [upd_ne (Nat.ne_of_lt hlt)]
      exact (hf b hb).1
  done := by
    intro X hP hw hK hc i pins s σ H E I hf st hg
    subst hP hw hK
    obtain ⟨hz, hTI, ⟨a, b', hTO⟩, h1, h2⟩ := st
    obtain ⟨xs, ys, p1, p2, hl⟩ := hg
    obtain ⟨its1, rv1, k1⟩ := I.seqC p1
    obtain ⟨its2, rv2, k2⟩ := I.seqC p2
    have l1 := rv1.length
    have l2 := rv2.length
    refine pyNext_zipEnd (I.ok.hd hc) D n1 hz hTI hTO h1 h2 k1 k2 (by simp; trivial) fun h' tk keep => ⟨rfl, I.turnedL (ch := [z, TO, i1, i2, TI]) (t' := tk) hf fun b o hb q => ?_⟩
    exact keep b o (fun q => hb (by simp [q])) (fun q => hb (by simp [q])) (fun q => hb (by simp [q])) (fun q => hb (by simp [q])) q
  self := fun _ _ _ _ _ st h => wpAny_pyIter_zip st.1 h
def iZip (K : PySem.W.Frag) (ta : TA) : TI := fun σ H R => ta σ H fun vs H1 => Ex4 fun a1 a2 c1 c2 => vs = [.ref a1, .ref a2] ∧ (∃ xs, SqC K H1 a1 xs c1) ∧ (∃ ys, SqC K H1 a2 ys c2) ∧ R (Itz K a1 a2 c1 c2) H1
theorem boot_zip : bootBuiltins "zip" = some (.type "zip") := by decide +kernel
theorem pi_zip {X : Cx} {es : List Expr} {kk : Nat} {tp : Pos} {a b : Expr} {ta : TA} {p pos : Pos} (hg : Gl X "zip") (hm : X.mg "zip" = none) (ha : PA X [a, b] ta) (hs : starEach [a, b] X.env = [(false, eval a X.env), (false, eval b X.env)] := by rfl) (hs2 : starEach [b] X.env = [(false, eval b X.env)] := by rfl) :
    PI X (.Tuple es kk tp) (.Call (.Name "zip" p) [a, b] [] pos) (iZip X.K ta) := by
  intro pins s σ H R I h
  refine Call_ (ld_blt I hg hm boot_zip (PyProof.Rows.callWith_type1 (thn (ha pos pins s σ H _ I h) fun us s1 ⟨vs, H1, I1, r1, q1⟩ => ?_) (by rw [hs, hs2]) (by rw [hs2]; rfl)))
  obtain ⟨a1, a2, c1, c2, rfl, ⟨xs, p1⟩, ⟨ys, p2⟩, q⟩ := q1
  obtain ⟨u1, u2, rfl, ru1, ru2⟩ := r1.two
  obtain rfl : u1 = .ref a1 := ru1
  obtain rfl : u2 = .ref a2 := ru2
  obtain ⟨its1, rv1, k1⟩ := I1.seqC p1
  obtain ⟨its2, rv2, k2⟩ := I1.seqC p2
  have d1 := k1.lt
  have d2 := k2.lt
  refine call_zipK k1 k2 fun h' hz hTI hTO t1 t2 hk => wpAny_pyIter_zip hz ?_
  have I2 : Inv X pins σ H1 { s1 with heap := h', toks := s1.toks } := I1.kept hk
  refine ⟨s1.heap.objs.size + 4, [s1.heap.objs.size + 4, s1.heap.objs.size + 3, s1.heap.objs.size, s1.heap.objs.size + 1, s1.heap.objs.size + 2], _, _, H1, rfl, I2, turn_zip a1 a2 (s1.heap.objs.size + 4) (s1.heap.objs.size + 2) (s1.heap.objs.size + 3) s1.heap.objs.size (s1.heap.objs.size + 1) c1 c2
    ⟨by simp, by simp, Nat.ne_of_lt (by simp), by simp, by simp, Nat.ne_of_gt (by simp), by simp, Nat.ne_of_gt (by simp), by simp, Nat.ne_of_lt (by simp)⟩ (fun c hc => ?_), ⟨hz, hTI, ⟨_, _, hTO⟩, t1, t2⟩, fun b hb => ?_, q⟩
  · have : c < s1.heap.objs.size := by rcases hc with rfl | rfl <;> assumption
    exact ⟨Nat.ne_of_lt (Nat.lt_of_lt_of_le this (Nat.le_add_right _ _)), Nat.ne_of_lt (Nat.lt_of_lt_of_le this (Nat.le_add_right _ _)), Nat.ne_of_lt this, Nat.ne_of_lt (Nat.lt_of_lt_of_le this (Nat.le_add_right _ _))⟩
  · have hb' : b = s1.heap.objs.size + 4 ∨ b = s1.heap.objs.size + 3 ∨ b = s1.heap.objs.size ∨ b = s1.heap.objs.size + 1 ∨ b = s1.heap.objs.size + 2 := by simpa using hb
    have hle : s1.heap.objs.size ≤ b := by rcases hb' with rfl | rfl | rfl | rfl | rfl <;> trivial
    exact I1.fpOk hle (I1.hok.fresh hle)
end L2
namespace L2
open PySem PySem.Spec PyProof.Rows
def isSeqB : PyData → Bool
  | .list _ => true
  | .tuple _ => true
  | _ => false
theorem kitAny_seq {K : PySem.W.Frag} (d : PyData) : PySem.W.kitAny K (.type (tyN d)) [.type "list", .type "tuple"] = some (isSeqB d) := by
  unfold PySem.W.kitAny PySem.W.kitAny PySem.W.kitAny
  rw [kit_list, kit_tuple]
  cases d <;> rfl
inductive rIsiT_ (K : PySem.W.Frag) (xs : List V) (H : Hp) (Q : VK) : Prop
  | mk (x : V) (p : Addr) (d : PyData) (E : Addr → Prop) (h0 : xs = [x, .ref p]) (h1 : IsD E H x d) (h2 : SqT K H p [.ty "list", .ty "tuple"]) (h3 : Q (.bl (isSeqB d)) H)
def rIsiT (K : PySem.W.Frag) : List V → Hp → VK → Prop := fun xs H Q => rIsiT_ K xs H Q
section
variable {X : Cx} {K : PySem.W.Frag}
theorem call_isinstT : CallR X (.builtin "isinstance") (rIsiT X.K) := by
  intro pins s σ H xs us Q I r h
  obtain ⟨x, p, d, E, rfl, hx, hp, q⟩ := h
  obtain ⟨u, c, rfl, ru, rc⟩ := r.two
  obtain rfl : c = Value.ref p := rc
  obtain ⟨its, rv, ⟨o, e1, e2, n, e3⟩, _⟩ := I.tuple hp
  obtain ⟨u1, u2, rfl, r1, r2⟩ := rv.two
  obtain rfl : u1 = Value.type "list" := r1
  obtain rfl : u2 = Value.type "tuple" := r2
  have q' : ∀ tk, EP X pins σ Q (.bool (isSeqB d)) { s with toks := tk } := fun tk => ⟨.bl _, H, I.tok tk, rfl, q⟩
  obtain ⟨oc, od, odt, osl⟩ := o
  dsimp only at e2 e3
  subst e2 e3
  cases hx with
  | non => cases (show u = Value.none from ru); exact PySem.W.kia_tup PySem.W.kitx_none I.kIn True.intro e1 (kitAny_seq .none) (fun z => nomatch z) q'
  | bl y => cases (show u = Value.bool y from ru); exact PySem.W.kia_tup PySem.W.kitx_bool I.kIn True.intro e1 (kitAny_seq (.bool y)) (fun z => nomatch z) q'
  | int i => obtain ⟨t, w⟩ := (show ∃ t, u = Value.int i t from ru); cases w; exact PySem.W.kia_tup PySem.W.kitx_int I.kIn True.intro e1 (kitAny_seq (.int i)) (fun z => nomatch z) q'
  | str y => obtain ⟨t, w⟩ := (show ∃ t, u = Value.str y t from ru); cases w; exact PySem.W.kia_tup PySem.W.kitx_str I.kIn True.intro e1 (kitAny_seq (.str y)) (fun z => nomatch z) q'
  | @lst a xs ds ea _ _ =>
    cases (show u = Value.ref a from ru)
    obtain ⟨_, _, m, _, h1⟩ := (show ObjOk X.prog X.w H s.heap a (.lst xs) from I.hok a _ ea)
    exact PySem.W.kia_tup PySem.W.kitx_list I.kIn ⟨_, h1, rfl⟩ e1 (kitAny_seq (.list ds)) (fun z => nomatch z) q'
  | @tup a xs ds ea _ =>
    cases (show u = Value.ref a from ru)
    obtain ⟨_, _, _, p, _⟩ := (show ObjOk X.prog X.w H s.heap a (.tup xs) from I.hok a _ ea)
    obtain ⟨o, h1, h2, _⟩ := p
    exact PySem.W.kia_tup PySem.W.kitx_tuple I.kIn ⟨o, h1, h2⟩ e1 (kitAny_seq (.tuple ds)) (fun z => nomatch z) q'
theorem isinstT_k (e : X.K = K := by rfl) : CallR X (.builtin "isinstance") (rIsiT K) := by subst e; exact call_isinstT
end
def Sz (m : Nat) (i : Int) : Prop := i.natAbs < 2 ^ m
theorem Sz.mono {m n : Nat} {i : Int} (h : Sz m i) (k : m ≤ n) : Sz n i := Nat.lt_of_lt_of_le h (Nat.pow_le_pow_right (by decide) k)
theorem Sz.mul {m n : Nat} {i j : Int} (h : Sz m i) (k : Sz n j) : Sz (m + n) (i * j) := by
  unfold Sz at *
  rw [Int.natAbs_mul, Nat.pow_add]
  exact Nat.mul_lt_mul'' h k
theorem Sz.add {m : Nat} {i j : Int} (h : Sz m i) (k : Sz m j) : Sz (m + 1) (i + j) := by
  unfold Sz at *
  rw [Nat.pow_succ]
  trivial
theorem Sz.neg {m : Nat} {i : Int} (h : Sz m i) : Sz m (-i) := by
  unfold Sz at *
  trivial
theorem Sz.le {m : Nat} {i j : Int} (h : Sz m j) (k : i.natAbs ≤ j.natAbs) : Sz m i := Nat.lt_of_le_of_lt k h
theorem Sz.log {m : Nat} {i : Int} (h : Sz m i) (h0 : i ≠ 0) : i.natAbs.log2 < m := (Nat.log2_lt (by trivial)).mpr h
theorem Sz.bits {m : Nat} {i : Int} (h : Sz m i) : Builtin.Int.intBits i ≤ m := by
  unfold Builtin.Int.intBits
  by_cases h0 : i = 0
  · subst h0; exact Nat.zero_le _
  · have := h.log h0
    rw [if_neg (by simpa using h0)]
    trivial
def CMulB (i j : Int) : Prop := Ex2 fun m n => Sz m i ∧ Sz n j ∧ m + n ≤ 134217728
section
variable {X : Cx}
theorem op_mulB : OpR X (binaryOp .Mult) (rI CMulB fun i j => .int (i * j)) := opI fun _ _ _ _ _ _ _ hc q => by
  obtain ⟨m, n, h1, h2, h3⟩ := hc
  exact mul_int q (PyProof.Rows.mulOk_of_bits h1.bits h2.bits h3)
def CDivS (_ j : Int) : Prop := j ≠ 0 ∧ Sz 9000 j
theorem op_fdivS : OpR X (binaryOp .FloorDiv) (rI CDivS fun i j => .int (i.fdiv j)) := opI fun i j _ _ _ _ _ hc q =>
  floordiv_int hc.1 q (.inl (PyProof.noPylong_of_log2 (hc.2.log hc.1)))
end
theorem for_zip {K : PySem.W.Frag} {a1 a2 : Addr} {c1 c2 : Bool} {xs ys : List V} {n : Nat} {g : TG} {tb : TS} {D : Ends} {σ : St} {H : Hp} (Pv : Nat → St → Hp → Prop) (hn : n = min xs.length ys.length) (h0 : Pv 0 σ H) (hl : ∀ i σ H, i ≤ n → Pv i σ H → SqC K H a1 xs c1 ∧ SqC K H a2 ys c2)
    (hs : ∀ i x y T σ H, xs[i]? = some x → ys[i]? = some y → H T = none → Pv i σ H → g (.ref T) σ (upd H T (.tup [x, y])) fun σ2 H2 => tb { D with nx := Pv (i + 1), ct := Pv (i + 1), bk := D.nx } σ2 H2) (hd : ∀ σ H, Pv n σ H → D.nx σ H) :
    ∃ W : Nat → Nat → St → Hp → Prop, (∃ m, W 0 m σ H) ∧ ∀ i m σ H, W i m σ H →
      ((Itz K a1 a2 c1 c2).stop i H ∧ D.nx σ H) ∨ ((Itz K a1 a2 c1 c2).go i H ∧ ∃ N : St → Hp → Prop, (∀ σ' H', N σ' H' → ∃ m', m' < m ∧ W (i + 1) m' σ' H') ∧ ∀ x H', (Itz K a1 a2 c1 c2).yld i H x H' → g x σ H' fun σ2 H2 => tb { D with nx := N, ct := N, bk := D.nx } σ2 H2) := by
  refine ⟨fun i m σ H => m = n - i ∧ i ≤ n ∧ Pv i σ H, ⟨n, by simp, Nat.zero_le _, h0⟩, ?_⟩
  rintro i m σ H ⟨rfl, hi, p⟩
  obtain ⟨q1, q2⟩ := hl i σ H hi p
  by_cases hlt : i < n
  · have l1 : i < xs.length := by trivial
    have l2 : i < ys.length := by trivial
    refine .inr ⟨⟨xs, ys, xs[i], ys[i], q1, q2, by simp [l1], by simp [l2]⟩, Pv (i + 1), fun σ' H' p' => ⟨n - (i + 1), by trivial, rfl, hlt, p'⟩, fun x H' y => ?_⟩
    obtain ⟨T, u, v, hT, rfl, rfl, e1, e2⟩ := y
    exact hs i u v T σ H (e1 xs q1) (e2 ys q2) hT p
  · have e : i = n := by trivial
    subst e
    refine .inl ⟨⟨xs, ys, q1, q2, ?_⟩, hd _ _ p⟩
    trivial
end L2
namespace L2
open PySem PySem.Spec PyProof.Rows
theorem same_lst {H H' : Hp} {D : Addr} {o : HO} (hD : H D = none) (k : Same H H') : Same H (upd H' D o) := fun b u e => by
  rw [upd_ne (ne_of_none e hD)]; exact k b u e
theorem SameE.weak {E : Addr → Prop} {b : Addr} {H H' : Hp} (hE : E b) (s : SameE (Eb b) H H') : SameE E H H' := ⟨fun a o n h => s.old a o (fun z => n (by rw [z]; exact hE)) h, s.tup⟩
theorem SameE.free {b p : Addr} {H H9 : Hp} {t9 : Int} (s : SameE (Eb b) H H9) (B : Bx H9 b t9) (h : H9 p = none) : H p = none := by
  cases e : H p with
  | none => rfl
  | some o =>
    by_cases hb : p = b
    · obtain ⟨c, x, eb, _⟩ := B
      rw [← hb, h] at eb; cases eb
    · rw [s.old p o hb e] at h; cases h
mutual
theorem IsD.narrow {E F : Addr → Prop} {H : Hp} (k : ∀ a, F a → E a) : ∀ {v : V} {d : PyData}, IsD E H v d → IsD F H v d
  | _, _, .non => .non
  | _, _, .bl b => .bl b
  | _, _, .int i => .int i
  | _, _, .str x => .str x
  | _, _, .lst h ne r => .lst h (fun z => ne (k _ z)) (IsAll.narrow k r)
  | _, _, .tup h r => .tup h (IsAll.narrow k r)
theorem IsAll.narrow {E F : Addr → Prop} {H : Hp} (k : ∀ a, F a → E a) : ∀ {vs : List V} {ds : List PyData}, IsAll E H vs ds → IsAll F H vs ds
  | _, _, .nil => .nil
  | _, _, .cons h r => .cons (IsD.narrow k h) (IsAll.narrow k r)
end
end L2
namespace L2
open PySem PySem.Spec PyProof.Rows
abbrev fr (z : Int × Int) : HO := .tup [.int z.1, .int z.2]
abbrev nAdd (n1 d1 n2 d2 : Int) : Int := n1 * d2 + n2 * d1
abbrev dAdd (_ d1 _ d2 : Int) : Int := d1 * d2
def cmpI (i j : Int) : Int := if i < j then -1 else if j < i then 1 else 0
inductive spCmp_ (vs : List V) (H : Hp) (Q : VK) : Prop
  | mk (a b : Addr) (n1 d1 n2 d2 : Int) (h0 : vs = [.ref a, .ref b]) (h1 : H a = some (.tup [.int n1, .int d1])) (h2 : H b = some (.tup [.int n2, .int d2])) (h3 : Sz 4000 n1) (h4 : Sz 4000 d1) (h5 : Sz 4000 n2) (h6 : Sz 4000 d2) (h7 : Q (.int (cmpI (n1 * d2) (n2 * d1))) H)
def spCmp : Sp := fun vs H Q _ => spCmp_  vs H Q
theorem mulS {i j : Int} (h1 : Sz 4000 i) (h2 : Sz 4000 j) : CMulB i j := ⟨4000, 4000, h1, h2, by decide⟩
theorem mulS9 {i j : Int} (h1 : Sz 4000 i) (h2 : Sz 4000 j) : Sz 9000 (i * j) := (h1.mul h2).mono (by decide)
theorem gcdS {n d : Int} (hd : d ≠ 0) (h : Sz 9000 d) : Sz 9000 ((Int.gcd n d : Nat) : Int) := h.le (by
  rw [Int.natAbs_natCast]
  exact Nat.le_of_dvd (by trivial) (Int.ofNat_dvd_left.mp (Int.gcd_dvd_right ..)))
structure Fb (b : Nat) (n d : Int) : Prop where
  sn : Sz b n
  sd : Sz b d
  pos : 1 ≤ d
  co : Int.gcd n d = 1
theorem Fb.mono {b c : Nat} {n d : Int} (h : Fb b n d) (k : b ≤ c) : Fb c n d := ⟨h.sn.mono k, h.sd.mono k, h.pos, h.co⟩
theorem Fb.low {b : Nat} {n d : Int} (h1 : Sz b n) (h2 : Sz b d) (hd : d ≠ 0) : Fb b (KM.low n d).1 (KM.low n d).2 := by
  obtain ⟨a, _, c, e, f⟩ := KM.low_spec n d hd
  exact ⟨h1.le e, h2.le f, a, c⟩
end L2
namespace L2
open PySem PySem.Spec PyProof.Rows
structure Nw (H : Hp) (p : Addr) (o : HO) (H' : Hp) : Prop where
  fr : H p = none
  sm : Same H H'
  at' : H' p = some o
theorem Nw.mk' {H : Hp} {p : Addr} {o : HO} (h : H p = none) : Nw H p o (upd H p o) := ⟨h, Same.new h, upd_same⟩
section
variable {X : Cx} {es : List Expr} {t : TA} {pos : Pos} {K : PySem.W.Frag}
def tTupA (t : TA) : TE := fun σ H Q => t σ H fun xs H1 => xs.length ≤ 10000 ∧ ∀ p H', Nw H1 p (.tup xs) H' → Q (.ref p) H'
def tLstA (t : TA) : TE := fun σ H Q => t σ H fun xs H1 => xs.length ≤ 10000 ∧ ∀ p H', Nw H1 p (.lst xs) H' → Q (.ref p) H'
theorem sz_of {n : Nat} (h : n ≤ 10000) : n ≤ sizeLine := by rw [sizeLine_eq]; trivial
theorem pe_tupA {x1} (h : PA X es t) : PE X (.Tuple es x1 pos) (tTupA t) := by
  intro pins s σ H Q I hq
  refine wpAny_Tuple_spliced (thn (h pos pins s σ H _ I hq) fun us s1 ⟨xs, H1, I1, r, z', q⟩ => ⟨by rw [← r.length]; exact sz_of z', ?_⟩)
  have z := sz_of z'
  have hf : H1 s1.heap.objs.size = none := I1.hok.fresh (Nat.le_refl _)
  refine ⟨.ref s1.heap.objs.size, upd H1 s1.heap.objs.size (.tup xs), I1.laid (t' := s1.toks) (fun b u e => Heap.get?_push_of_some _ e) (Nat.le_refl _) ?_, rfl, q _ _ (.mk' hf)⟩
  exact ⟨z, us, r, ⟨_, Heap.get?_push_size _ rfl, rfl, _, rfl⟩, _, Heap.get?_push_size _ rfl, rfl⟩
theorem pe_lstA (h : PA X es t) : PE X (.List es pos) (tLstA t) := by
  intro pins s σ H Q I hq
  refine wpAny_List_spliced (thn (h pos pins s σ H _ I hq) fun us s1 ⟨xs, H1, I1, r, z', q⟩ => ⟨by rw [← r.length]; exact sz_of z', ?_⟩)
  have z := sz_of z'
  have hf : H1 s1.heap.objs.size = none := I1.hok.fresh (Nat.le_refl _)
  refine ⟨.ref s1.heap.objs.size, upd H1 s1.heap.objs.size (.lst xs), I1.laid (t' := s1.toks) (fun b u e => Heap.get?_push_of_some _ e) (Nat.le_refl _) ?_, rfl, q _ _ (.mk' hf)⟩
  exact ⟨z, us, 0, r, Heap.get?_push_size _ rfl⟩
inductive rCatA_ (x : V) (y : V) (H : Hp) (Q : VK) : Prop
  | mk (l : _) (b : _) (xs : _) (zs : _) (h0 : x = .ref l) (h1 : y = .ref b) (h2 : H l = some (.lst xs)) (h3 : H b = some (.lst zs)) (h4 : xs.length + zs.length ≤ 10000) (h5 : ∀ p H', Nw H p (.lst (xs ++ zs)) H' → Q (.ref p) H')
def rCatA : R2 := fun x y H Q => rCatA_  x y H Q
theorem op_catA : OpR X (binaryOp .Add) rCatA := fun pins s σ H x y v u Q I rx ry ⟨l, b, xs, zs, e1, e2, h1, h2, hz, q⟩ =>
  op_cat pins s σ H x y v u Q I rx ry ⟨l, b, xs, zs, e1, e2, h1, h2, sz_of hz, fun p hp => q p _ (.mk' hp)⟩
inductive rSlA_ (K : PySem.W.Frag) (x : V) (lo : Option Int) (hi : Option Int) (H : Hp) (Q : VK) : Prop
  | mk (a : _) (xs : _) (h0 : x = .ref a) (h1 : SqL K H a xs) (h2 : ∀ p H', Nw H p (.lst (cutV xs lo hi)) H' → Q (.ref p) H')
def rSlA (K : PySem.W.Frag) : V → Option Int → Option Int → Hp → VK → Prop := fun x lo hi H Q => rSlA_ K x lo hi H Q
theorem sl_listA (e : X.K = K := by rfl) : SlR X (rSlA K) := by
  subst e
  exact fun pins s σ H x v vl vu lo hi sl Q I rx hs pl pu ⟨a, xs, e, h, q⟩ => sl_list pins s σ H x v vl vu lo hi sl Q I rx hs pl pu ⟨a, xs, e, h, fun p hp => q p _ (.mk' hp)⟩
inductive rRepA_ (x : V) (y : V) (H : Hp) (Q : VK) : Prop
  | mk (l : _) (k : _) (xs : _) (h0 : x = .ref l) (h1 : y = .int k) (h2 : H l = some (.lst xs)) (h3 : -(2 ^ 63) ≤ k) (h4 : k < 2 ^ 63) (h5 : xs.length * k.toNat ≤ 10000) (h6 : ∀ p H', Nw H p (.lst (List.replicate k.toNat xs).flatten) H' → Q (.ref p) H')
def rRepA : R2 := fun x y H Q => rRepA_  x y H Q
theorem op_repA : OpR X (binaryOp .Mult) rRepA := fun pins s σ H x y v u Q I rx ry ⟨l, k, xs, e1, e2, h1, h2, h3, hz, q⟩ =>
  op_rep pins s σ H x y v u Q I rx ry ⟨l, k, xs, e1, e2, h1, h2, h3, sz_of hz, fun p hp => q p _ (.mk' hp)⟩
inductive rListA_ (K : PySem.W.Frag) (xs : List V) (H : Hp) (Q : VK) : Prop
  | mk (p : _) (ys : _) (h0 : xs = [.ref p]) (h1 : (SqL K H p ys ∨ SqT K H p ys)) (h2 : ∀ l H', Nw H l (.lst ys) H' → Q (.ref l) H')
def rListA (K : PySem.W.Frag) : List V → Hp → VK → Prop := fun xs H Q => rListA_ K xs H Q
theorem call_list_ofA (e : X.K = K := by rfl) : CallR X (.type "list") (rListA K) := by
  subst e
  exact fun pins s σ H xs us Q I r ⟨p, ys, e, h, q⟩ => call_list_of pins s σ H xs us Q I r ⟨p, ys, e, h, fun l hl => q l _ (.mk' hl)⟩
inductive rTupleA_ (K : PySem.W.Frag) (xs : List V) (H : Hp) (Q : VK) : Prop
  | mk (p : _) (ys : _) (h0 : xs = [.ref p]) (h1 : SqL K H p ys) (h2 : ∀ l H', Nw H l (.tup ys) H' → Q (.ref l) H')
def rTupleA (K : PySem.W.Frag) : List V → Hp → VK → Prop := fun xs H Q => rTupleA_ K xs H Q
theorem call_tuple_ofA (e : X.K = K := by rfl) : CallR X (.type "tuple") (rTupleA K) := by
  subst e
  exact fun pins s σ H xs us Q I r ⟨p, ys, e, h, q⟩ => call_tuple_of pins s σ H xs us Q I r ⟨p, ys, e, .inl ⟨h, fun l hl => q l _ (.mk' hl)⟩⟩
end
structure Ch (H : Hp) (p : Addr) (xs : List V) (H' : Hp) : Prop where
  at' : H' p = some (.lst xs)
  ol : ∀ a o, a ≠ p → H a = some o → H' a = some o
  fre : ∀ a, a ≠ p → H a = none → H' a = none
theorem Ch.mk' {H : Hp} {p : Addr} {xs : List V} : Ch H p xs (upd H p (.lst xs)) := ⟨upd_same, fun a o n h => by rw [upd_ne n]; exact h, fun a n h => by rw [upd_ne n]; exact h⟩
theorem Ch.tup {H H' : Hp} {p a : Addr} {xs ys zs : List V} (c : Ch H p xs H') (h : H a = some (.tup ys)) (hp : H p = some (.lst zs)) : H' a = some (.tup ys) := c.ol a _ (ne_of h hp (by intro z; cases z)) h
section
variable {X : Cx}
inductive rSetA_ (o : V) (i : V) (v : V) (H : Hp) (Q : (Hp → Prop)) : Prop
  | mk (p : _) (xs : _) (k : _) (j : _) (h0 : o = .ref p) (h1 : i = .int k) (h2 : H p = some (.lst xs)) (h3 : ixN xs.length k = some j) (h4 : ∀ H', Ch H p (xs.set j v) H' → Q H')
def rSetA : V → V → V → Hp → (Hp → Prop) → Prop := fun o i v H Q => rSetA_  o i v H Q
theorem set_listA : PSet X rSetA := fun pins s σ H o i v ov iv u Q I ro ri rv ⟨p, xs, k, j, e1, e2, h, hj, q⟩ => set_list pins s σ H o i v ov iv u Q I ro ri rv ⟨p, xs, k, j, e1, e2, h, hj, q _ .mk'⟩
inductive rAppA_ (x : V) (vs : List V) (H : Hp) (Q : VK) : Prop
  | mk (l : _) (xs : _) (y : _) (h0 : x = .ref l) (h1 : vs = [y]) (h2 : H l = some (.lst xs)) (h3 : xs.length ≤ 10000) (h4 : ∀ H', Ch H l (xs ++ [y]) H' → Q .non H')
def rAppA : V → List V → Hp → VK → Prop := fun x vs H Q => rAppA_  x vs H Q
theorem mt_appendA : MtM X "list.append" rAppA := fun pins s σ H x vs v us Q I rx rv ⟨l, xs, y, e1, e2, h, hz, q⟩ => mt_append pins s σ H x vs v us Q I rx rv ⟨l, xs, y, e1, e2, h, (by rw [sizeLine_eq]; trivial), q _ .mk'⟩
end
inductive spLowA_ (vs : List V) (H : Hp) (Q : VK) : Prop
  | mk (n d : Int) (h0 : vs = [.int n, .int d]) (h1 : d ≠ 0) (h2 : Sz 9000 d) (h3 : ∀ p H', Nw H p (fr (KM.low n d)) H' → Q (.ref p) H')
def spLowA : Sp := fun vs H Q _ => spLowA_  vs H Q
inductive spBinA_ (num den : Int → Int → Int → Int → Int) (vs : List V) (H : Hp) (Q : VK) : Prop
  | mk (a b : Addr) (n1 d1 n2 d2 : Int) (h0 : vs = [.ref a, .ref b]) (h1 : H a = some (.tup [.int n1, .int d1])) (h2 : H b = some (.tup [.int n2, .int d2])) (h3 : (Sz 4000 n1 ∧ Sz 4000 d1 ∧ Sz 4000 n2 ∧ Sz 4000 d2 ∧ den n1 d1 n2 d2 ≠ 0)) (h4 : ∀ p H', Nw H p (fr (KM.low (num n1 d1 n2 d2) (den n1 d1 n2 d2))) H' → Q (.ref p) H')
def spBinA (num den : Int → Int → Int → Int → Int) : Sp := fun vs H Q _ => spBinA_ num den vs H Q
end L2
namespace L2
open PySem PySem.Spec PyProof.Rows
theorem Fb.small {b : Nat} {n d : Int} (h1 : n.natAbs < 2 ^ b) (h2 : d.natAbs < 2 ^ b) (h3 : 1 ≤ d) (h4 : Int.gcd n d = 1) : Fb b n d := ⟨h1, h2, h3, h4⟩
theorem Bx.ch {H H' : Hp} {b p : Addr} {t : Int} {xs : List V} (h : Bx H b t) (k : Ch H p xs H') (ne : b ≠ p) : Bx H' b t := by
  obtain ⟨c, x, e, q⟩ := h
  exact ⟨c, x, k.ol b _ ne e, q⟩
theorem Bx.ne {H : Hp} {b p : Addr} {t : Int} (h : Bx H b t) (hp : H p = none) : b ≠ p := fun z => by
  obtain ⟨c, x, e, _⟩ := h
  rw [z, hp] at e; cases e
end L2
namespace L2
open PySem PySem.Spec PyProof.Rows
section
variable {X : Cx} {e : Expr} {te : TE} {st : Expr} {ts : TO} {p2 pos : Pos} {K : PySem.W.Frag}
theorem Vals.rev {xs : List V} {us : List Value} (h : Vals xs us) : Vals xs.reverse us.reverse := by
  induction h with
  | nil => exact .nil
  | cons h _ ih => rw [List.reverse_cons, List.reverse_cons]; exact ih.append (.cons h .nil)
end
end L2
namespace L2
open PySem PySem.Spec PyProof.Rows
inductive FL (c : Nat) (H : Hp) : List V → List KM.Fra → Prop
  | nil : FL c H [] []
  | cons {o : Addr} {p : KM.Fra} {xs : List V} {ps : List KM.Fra} (h : H o = some (fr p)) (f : Fb c p.1 p.2) (r : FL c H xs ps) : FL c H (.ref o :: xs) (p :: ps)
theorem FL.tup {c : Nat} {H H' : Hp} {xs : List V} {ps : List KM.Fra} (r : FL c H xs ps) (k : ∀ a xs, H a = some (.tup xs) → H' a = some (.tup xs)) : FL c H' xs ps := by
  induction r with
  | nil => exact .nil
  | cons h f _ ih => exact .cons (k _ _ h) f ih
theorem FL.sm {c : Nat} {H H' : Hp} {xs : List V} {ps : List KM.Fra} (r : FL c H xs ps) (k : Same H H') : FL c H' xs ps := r.tup fun _ _ e => k _ _ e
theorem FL.length {c : Nat} {H : Hp} {xs : List V} {ps : List KM.Fra} (r : FL c H xs ps) : xs.length = ps.length := by
  induction r with
  | nil => rfl
  | cons _ _ _ ih => simp [ih]
theorem FL.get {c : Nat} {H : Hp} {xs : List V} {ps : List KM.Fra} (r : FL c H xs ps) : ∀ {i : Nat} {v : V}, xs[i]? = some v → Ex2 fun o p => v = .ref o ∧ ps[i]? = some p ∧ H o = some (fr p) ∧ Fb c p.1 p.2 := by
  induction r with
  | nil => intro i v h; simp at h
  | @cons o p xs ps h f r ih =>
    intro i v hv
    cases i with
    | zero => simp at hv; exact ⟨o, p, hv.symm, rfl, h, f⟩
    | succ i => simp at hv; simpa using ih hv
theorem Fb.add' {b c e : Nat} {n1 d1 n2 d2 : Int} (h1 : Fb b n1 d1) (h2 : Fb c n2 d2) (hc : b + c + 1 ≤ e) : Fb e (KM.low (n1 * d2 + n2 * d1) (d1 * d2)).1 (KM.low (n1 * d2 + n2 * d1) (d1 * d2)).2 :=
  .low (((h1.sn.mul h2.sd).add ((h2.sn.mul h1.sd).mono (by trivial))).mono (by trivial)) ((h1.sd.mul h2.sd).mono (by trivial)) (Int.mul_ne_zero (by have := h1.pos; trivial) (by have := h2.pos; trivial))
theorem s4' {b c : Nat} {n1 d1 n2 d2 : Int} (h1 : Fb b n1 d1) (h2 : Fb c n2 d2) (hb : b ≤ 4000) (hc : c ≤ 4000) : Sz 4000 n1 ∧ Sz 4000 d1 ∧ Sz 4000 n2 ∧ Sz 4000 d2 ∧ d1 * d2 ≠ 0 :=
  ⟨h1.sn.mono hb, h1.sd.mono hb, h2.sn.mono hc, h2.sd.mono hc, Int.mul_ne_zero (by have := h1.pos; trivial) (by have := h2.pos; trivial)⟩
theorem ptake {α : Type} {ps : List α} {i : Nat} {p : α} (h : ps[i]? = some p) : ps.take (i + 1) = ps.take i ++ [p] := by rw [List.take_add_one, h]; rfl
theorem sum_snoc (p : KM.Fra) (ps : List KM.Fra) : KM.sumF (ps ++ [p]) = KM.ladd (KM.sumF ps) p := by
  unfold KM.sumF
  rw [List.foldl_append]
  rfl
theorem fb01 : Fb 1 0 1 := Fb.small (by decide) (by decide) (by decide) (by decide)
end L2
namespace L2
open PySem PySem.Spec PyProof.Rows
def S (l : List Nat) : Str := ⟨l.toArray⟩
theorem S_app (a b : List Nat) : S a ++ S b = S (a ++ b) := by
  show (⟨a.toArray ++ b.toArray⟩ : Str) = ⟨(a ++ b).toArray⟩
  simp
theorem S_len (a : List Nat) : (S a).length = a.length := by
  show a.toArray.size = _
  simp
theorem S_list (a : List Nat) : (S a).cps.toList = a := rfl
theorem foldl_app (k : Nat) (l : List Nat) : ∀ acc : List Nat, (List.replicate k l.toArray).foldl (· ++ ·) acc.toArray = (acc ++ (List.replicate k l).flatten).toArray := by
  induction k with
  | zero => intro acc; simp
  | succ k ih =>
    intro acc
    rw [List.replicate_succ, List.foldl_cons, List.replicate_succ, List.flatten_cons]
    have : acc.toArray ++ l.toArray = (acc ++ l).toArray := by simp
    rw [this, ih, List.append_assoc]
theorem join_flat : ∀ ls : List (List Nat), Str.join (S []) (ls.map S) = S ls.flatten
  | [] => rfl
  | [a] => by
    show S a = S (a ++ [])
    rw [List.append_nil]
  | a :: b :: r => by
    have e : Str.join (S []) ((a :: b :: r).map S) = S a ++ S [] ++ Str.join (S []) ((b :: r).map S) := rfl
    rw [e, join_flat (b :: r), S_app, S_app, List.append_nil]
    rfl
section
variable {X : Cx} {K : PySem.W.Frag}
inductive rMulS_ (x : V) (y : V) (H : Hp) (Q : VK) : Prop
  | mk (l : _) (n : _) (h0 : x = .str (S l)) (h1 : y = .int n) (h2 : 1 ≤ n) (h3 : n ≤ 1000) (h4 : l.length ≤ 100) (h5 : Q (.str (S (List.replicate n.toNat l).flatten)) H)
def rMulS : R2 := fun x y H Q => rMulS_  x y H Q
theorem op_mulS : OpR X (binaryOp .Mult) rMulS := by
  intro pins s σ H x y v u Q I rx ry h
  obtain ⟨l, n, rfl, rfl, h1, h2, h3, q⟩ := h
  obtain ⟨t, rfl⟩ := rx
  obtain ⟨t', rfl⟩ := ry
  have hlen : (S l).length = l.length := S_len l
  have hmul : l.length * n.toNat ≤ 100 * 1000 := Nat.mul_le_mul h3 (by trivial)
  refine PySem.P.mul_str ?_ ?_ ?_ ?_
  · rw [decide_eq_false (by trivial), decide_eq_false (by trivial)]; rfl
  · intro _ _
    rw [hlen]
    have : (100 : Int) < (2 ^ 63 - 1) / n := by
      have : (100 + 1) * n ≤ 2 ^ 63 - 1 := by trivial
      have := (Int.le_ediv_iff_mul_le (by trivial : 0 < n)).mpr this
      trivial
    trivial
  · intro _ _
    rw [hlen]
    unfold Builtin.Str.tooLong
    rw [decide_eq_false]
    rw [sizeLine_eq]
    trivial
  · rw [if_neg (by trivial)]
    by_cases hn : (n == 1 || (S l).length == 0) = true
    · rw [if_pos hn]
      refine ⟨.str (S l), H, I, ⟨t, rfl⟩, ?_⟩
      have e : (List.replicate n.toNat l).flatten = l := by
        rw [hlen] at hn
        have hn' : n = 1 ∨ l.length = 0 := by simpa using hn
        rcases hn' with rfl | hn'
        · simp
        · have : l = [] := List.eq_nil_of_length_eq_zero hn'
          subst this
          simp
      rw [e] at q
      exact q
    · rw [if_neg hn]
      have e : (⟨(List.replicate n.toNat (S l).cps).foldl (· ++ ·) #[]⟩ : Str) = S (List.replicate n.toNat l).flatten := by
        have e := foldl_app n.toNat l []
        rw [List.nil_append] at e
        exact congrArg Str.mk e
      rw [e]
      refine ⟨?_, .str (S (List.replicate n.toNat l).flatten), H, I.tok _, ⟨_, rfl⟩, q⟩
      rw [S_len, len_rep, sizeLine_eq, Nat.mul_comm]
      trivial
inductive rJoin_ (K : PySem.W.Frag) (x : V) (vs : List V) (H : Hp) (Q : VK) : Prop
  | mk (a : _) (ls : _) (h0 : x = .str (S [])) (h1 : vs = [.ref a]) (h2 : SqL K H a ((ls : List (List Nat)).map fun l => V.str (S l))) (h3 : (ls.map (·.length)).sum ≤ 10000) (h4 : Q (.str (S ls.flatten)) H)
def rJoin (K : PySem.W.Frag) : V → List V → Hp → VK → Prop := fun x vs H Q => rJoin_ K x vs H Q
theorem vals_strs {ls : List (List Nat)} : ∀ {us : List Value}, Vals (ls.map fun l => V.str (S l)) us → StrsAre us (ls.map S) := by
  induction ls with
  | nil => intro us h; cases h; exact .nil
  | cons l r ih =>
    intro us h
    cases h with
    | cons h t =>
      obtain ⟨tk, rfl⟩ := h
      exact .cons _ _ (ih t)
theorem mt_join (ek : X.K = K := by rfl) : MtR X "str.join" (rJoin K) := by
  subst ek
  intro pins s σ H x vs v us Q I rx rv h
  obtain ⟨a, ls, rfl, rfl, hS, hz, q⟩ := h
  obtain ⟨t, rfl⟩ := rx
  obtain ⟨u, rfl, ru⟩ := rv.one
  obtain rfl : u = Value.ref a := ru
  obtain ⟨its, r, ht, _⟩ := I.list hS
  have e1 : ((ls.map S).map (·.length)).sum = (ls.map (·.length)).sum := by
    rw [List.map_map]
    congr 1
  refine join_list (ys := ls.map S) ht.isList (by simpa using vals_strs r) ?_ fun t' k => ?_
  · rw [e1, show (S []).length = 0 from rfl]
    trivial
  · have := join_plain_closes (S []) (ls.map S)
    rw [eq_of_beq this, join_flat]
    exact ⟨.str (S ls.flatten), H, I.tok k, ⟨_, rfl⟩, q⟩
inductive rAddS_ (x : V) (y : V) (H : Hp) (Q : VK) : Prop
  | mk (a : _) (b : _) (h0 : x = .str (S a)) (h1 : y = .str (S b)) (h2 : a.length + b.length ≤ 10000) (h3 : Q (.str (S (a ++ b))) H)
def rAddS : R2 := fun x y H Q => rAddS_  x y H Q
theorem op_addS : OpR X (binaryOp .Add) rAddS := fun pins s σ H x y v u Q I rx ry ⟨a, b, e1, e2, hz, q⟩ =>
  op_add_str pins s σ H x y v u Q I rx ry ⟨S a, S b, e1, e2, by rw [S_len, S_len]; exact sz_of hz, by rw [S_app]; exact q⟩
end
theorem letters_eq : Str.ofString "abcdefghijklmnopqrstuvwxyz" = S ((List.range 26).map (97 + ·)) := by decide +kernel
theorem empty_eq : Str.ofString "" = S [] := by decide +kernel
theorem letter_at {i : Int} (h0 : -26 ≤ i) (h1 : i < 26) : atI ((Str.ofString "abcdefghijklmnopqrstuvwxyz").cps.toList) i = some (97 + (i % 26).toNat) := by
  rw [letters_eq, S_list]
  have : ∀ k : Fin 52, atI ((List.range 26).map (97 + ·)) ((k.val : Int) - 26) = some (97 + (((k.val : Int) - 26) % 26).toNat) := by decide +kernel
  have e := this ⟨(i + 26).toNat, by trivial⟩
  simp only at e
  rw [show (((i + 26).toNat : Nat) : Int) - 26 = i by trivial] at e
  exact e
theorem step11 {f : Int} {j k : Nat} (hj : j < 26) (hk : k < 26) (h : (f + 11 * (j : Int)) % 26 = (f + 11 * (k : Int)) % 26) : j = k := by trivial
end L2
namespace L2
open PySem PySem.Spec PyProof.Rows
structure NameC (l : List Nat) : Prop where
  lo : 1 ≤ l.length
  hi : l.length ≤ 8
  az : ∀ c ∈ l, 97 ≤ c ∧ c ≤ 122
abbrev strV (l : List Nat) : V := .str (S l)
def nm (c k : Nat) : List Nat := List.replicate (1 + k) c
theorem rep1 (n c : Nat) : (List.replicate n [c]).flatten = List.replicate n c := by
  induction n with
  | zero => rfl
  | succ n ih => rw [List.replicate_succ, List.flatten_cons, ih, List.replicate_succ]; rfl
theorem nm_ok {c k : Nat} (hk : k < 8) (h1 : 97 ≤ c) (h2 : c ≤ 122) : NameC (nm c k) := ⟨by simp [nm], by simp [nm]; trivial, fun d hd => by
  have := List.eq_of_mem_replicate hd
  trivial⟩
theorem cutV_take {xs : List V} {m : Int} (h : 0 ≤ m) : cutV xs none (some m) = xs.take m.toNat := by
  unfold cutV
  have e : m = ((m.toNat : Nat) : Int) := by trivial
  rw [HT.sIx_none, e, HT.sIx_nat]
  simp only [Int.toNat_natCast, List.drop_zero, Nat.sub_zero]
  by_cases hm : m.toNat ≤ xs.length
  · rw [Nat.min_eq_left hm]
  · rw [Nat.min_eq_right (by trivial), List.take_of_length_le (Nat.le_refl _), List.take_of_length_le (by trivial)]
theorem heads_nodup {ls : List (List Nat)} {f : Int} (hl : ls.length ≤ 26) (h : ∀ (j : Nat) (l : List Nat), ls[j]? = some l → l.head? = some (97 + ((f + 11 * (j : Int)) % 26).toNat)) : ls.Nodup := by
  rw [List.nodup_iff_pairwise_ne, List.pairwise_iff_getElem]
  intro i j hi hj hij e
  have h1 := h i ls[i] (List.getElem?_eq_getElem hi)
  have h2 := h j ls[j] (List.getElem?_eq_getElem hj)
  rw [e, h2] at h1
  injection h1 with h1
  have a1 := Int.emod_nonneg (f + 11 * (i : Int)) (by decide : (26 : Int) ≠ 0)
  have a2 := Int.emod_nonneg (f + 11 * (j : Int)) (by decide : (26 : Int) ≠ 0)
  have := step11 (f := f) (j := i) (k := j) (by trivial) (by trivial) (by trivial)
  trivial
theorem SameE.ch {b D : Addr} {H H1 H2 : Hp} {xs : List V} (s : SameE (Eb b) H H1) (c : Ch H1 D xs H2) (hD : H D = none) : SameE (Eb b) H H2 :=
  ⟨fun a u ne h => c.ol a u (ne_of_none h hD) (s.old a u ne h), fun a us h => c.ol a _ (ne_of_none h hD) (s.tup a us h)⟩
theorem SameE.up {b D : Addr} {H H1 : Hp} {o : HO} (s : SameE (Eb b) H H1) (hD : H D = none) : SameE (Eb b) H (upd H1 D o) :=
  ⟨fun a u ne h => by rw [upd_ne (ne_of_none h hD)]; exact s.old a u ne h, fun a us h => by rw [upd_ne (ne_of_none h hD)]; exact s.tup a us h⟩
end L2
namespace L2
open PySem PySem.Spec PyProof.Rows
def strT (x : Str) : Prop := x.length ≤ 300 ∧ ∀ c ∈ x.cps.toList, c < 128
mutual
inductive Wt : PyData → Nat → Nat → Prop
  | non {k : Nat} : Wt .none 1 k
  | bl (b : Bool) {k : Nat} : Wt (.bool b) 1 k
  | int {i : Int} (h : Sz 1900 i) {k : Nat} : Wt (.int i) 1 k
  | str {x : Str} (h : strT x) {k : Nat} : Wt (.str x) 1 k
  | list {xs : List PyData} {n k : Nat} (h : WtL xs n k) : Wt (.list xs) (n + 1) (k + 1)
  | tuple {xs : List PyData} {n k : Nat} (h : WtL xs n k) : Wt (.tuple xs) (n + 1) (k + 1)
inductive WtL : List PyData → Nat → Nat → Prop
  | nil {k : Nat} : WtL [] 0 k
  | cons {x : PyData} {xs : List PyData} {m n k : Nat} (h : Wt x m k) (r : WtL xs n k) : WtL (x :: xs) (m + n) k
end
mutual
theorem Wt.deep : ∀ {d : PyData} {n k : Nat}, Wt d n k → ∀ {l : Nat}, k ≤ l → Wt d n l
  | _, _, _, .non, _, _ => .non
  | _, _, _, .bl b, _, _ => .bl b
  | _, _, _, .int h, _, _ => .int h
  | _, _, _, .str h, _, _ => .str h
  | _, _, _, .list h, l, hl => by
    obtain ⟨m, rfl⟩ : ∃ m, l = m + 1 := ⟨l - 1, by trivial⟩
    exact .list (WtL.deep h (by trivial))
  | _, _, _, .tuple h, l, hl => by
    obtain ⟨m, rfl⟩ : ∃ m, l = m + 1 := ⟨l - 1, by trivial⟩
    exact .tuple (WtL.deep h (by trivial))
theorem WtL.deep : ∀ {ds : List PyData} {n k : Nat}, WtL ds n k → ∀ {l : Nat}, k ≤ l → WtL ds n l
  | _, _, _, .nil, _, _ => .nil
  | _, _, _, .cons h r, _, hl => .cons (Wt.deep h hl) (WtL.deep r hl)
end
theorem Wt.pos {d : PyData} {n k : Nat} (h : Wt d n k) : 1 ≤ n := by cases h <;> trivial
mutual
theorem Wt.dep : ∀ {d : PyData} {n k : Nat}, Wt d n k → d.depth ≤ k
  | _, _, _, .non => by simp [PyData.depth]
  | _, _, _, .bl b => by simp [PyData.depth]
  | _, _, _, .int h => by simp [PyData.depth]
  | _, _, _, .str h => by simp [PyData.depth]
  | _, _, _, .list h => by simp only [PyData.depth]; exact Nat.succ_le_succ (WtL.dep h)
  | _, _, _, .tuple h => by simp only [PyData.depth]; exact Nat.succ_le_succ (WtL.dep h)
theorem WtL.dep : ∀ {ds : List PyData} {n k : Nat}, WtL ds n k → PyData.depthAll ds ≤ k
  | _, _, _, .nil => by simp [PyData.depthAll]
  | _, _, _, .cons h r => by simp only [PyData.depthAll]; exact Nat.max_le.mpr ⟨Wt.dep h, WtL.dep r⟩
end
mutual
theorem Wt.sho : ∀ {d : PyData} {n k : Nat}, Wt d n k → d.showable = true
  | _, _, _, .non => by simp [PyData.showable]
  | _, _, _, .bl b => by simp [PyData.showable]
  | _, _, _, .int (i := i) h => by
    simp only [PyData.showable, decide_eq_true_iff]
    by_cases h0 : i = 0
    · subst h0; decide
    · exact Nat.lt_trans (h.log h0) (by decide)
  | _, _, _, .str h => by simp [PyData.showable]
  | _, _, _, .list h => by simp only [PyData.showable]; exact WtL.sho h
  | _, _, _, .tuple h => by simp only [PyData.showable]; exact WtL.sho h
theorem WtL.sho : ∀ {ds : List PyData} {n k : Nat}, WtL ds n k → PyData.showableAll ds = true
  | _, _, _, .nil => by simp [PyData.showableAll]
  | _, _, _, .cons h r => by simp only [PyData.showableAll, Bool.and_eq_true]; exact ⟨Wt.sho h, WtL.sho r⟩
end
mutual
theorem Wt.nod : ∀ {d : PyData} {n k : Nat}, Wt d n k → d.hasDict = false
  | _, _, _, .non => by simp [PyData.hasDict]
  | _, _, _, .bl b => by simp [PyData.hasDict]
  | _, _, _, .int h => by simp [PyData.hasDict]
  | _, _, _, .str h => by simp [PyData.hasDict]
  | _, _, _, .list h => by simp only [PyData.hasDict]; exact WtL.nod h
  | _, _, _, .tuple h => by simp only [PyData.hasDict]; exact WtL.nod h
theorem WtL.nod : ∀ {ds : List PyData} {n k : Nat}, WtL ds n k → PyData.hasDictAll ds = false
  | _, _, _, .nil => by simp [PyData.hasDictAll]
  | _, _, _, .cons h r => by simp only [PyData.hasDictAll, Bool.or_eq_false_iff]; exact ⟨Wt.nod h, WtL.nod r⟩
end
mutual
theorem Wt.len : ∀ {d : PyData} {n k : Nat}, Wt d n k → d.shown.length + 2 ≤ 3010 * n
  | _, _, _, .non => by
    rw [PyData.shown]
    decide +kernel
  | _, _, _, .bl b => by
    rw [PyData.shown]
    cases b <;> decide +kernel
  | _, _, _, .int (i := i) h => by
    rw [PyData.shown]
    have hl : i.natAbs.log2 < 1920 := by
      by_cases h0 : i = 0
      · subst h0; decide
      · exact Nat.lt_trans (h.log h0) (by decide)
    have := int_text_len_1921 hl
    trivial
  | _, _, _, .str (x := x) h => by
    rw [PyData.shown]
    have := PySem.StrLaws.reprText_len x (fun c hc => Nat.lt_trans (h.2 c hc) (by decide))
    have := h.1
    trivial
  | _, _, _, .list (xs := xs) (n := n) h => by
    rw [PyData.shown]
    have h1 := listText_len_le (PyData.shownAll xs)
    have h2 := WtL.len h
    trivial
  | _, _, _, .tuple (xs := xs) (n := n) h => by
    rw [PyData.shown]
    have h1 := tupleText_len_le (PyData.shownAll xs)
    have h2 := WtL.len h
    trivial
theorem WtL.len : ∀ {ds : List PyData} {n k : Nat}, WtL ds n k → ((PyData.shownAll ds).map (·.length)).sum + 2 * (PyData.shownAll ds).length ≤ 3010 * n
  | _, _, _, .nil => by simp [PyData.shownAll]
  | _, _, _, .cons (x := x) (xs := xs) (m := m) (n := n) h r => by
    rw [PyData.shownAll, List.map_cons, List.sum_cons, List.length_cons]
    have h1 := Wt.len h
    have h2 := WtL.len r
    have h3 := h.pos
    trivial
end
end L2
namespace L2
open PySem PySem.Spec PyProof.Rows
mutual
theorem Wt.can : ∀ {d : PyData} {n k : Nat}, Wt d n k → d.canLay0 = true
  | _, _, _, .non => by simp [PyData.canLay0]
  | _, _, _, .bl b => by simp [PyData.canLay0]
  | _, _, _, .int h => by simp [PyData.canLay0]
  | _, _, _, .str (x := x) h => by
    simp only [PyData.canLay0]
    unfold PySem.PyData.strOk
    rw [Array.all_eq_true]
    intro i hi
    have := h.2 x.cps[i] (by simp)
    simp
    trivial
  | _, _, _, .list h => by simp only [PyData.canLay0]; exact WtL.can h
  | _, _, _, .tuple h => by simp only [PyData.canLay0]; exact WtL.can h
theorem WtL.can : ∀ {ds : List PyData} {n k : Nat}, WtL ds n k → PyData.canLayAll0 ds = true
  | _, _, _, .nil => by simp [PyData.canLayAll0]
  | _, _, _, .cons h r => by simp only [PyData.canLayAll0, Bool.and_eq_true]; exact ⟨Wt.can h, WtL.can r⟩
end
section
variable {X : Cx}
inductive rEqD_ (ne : Bool) (x : V) (y : V) (H : Hp) (Q : VK) : Prop
  | mk (d e : PyData) (E F : Addr → Prop) (m n k l : Nat) (h0 : IsD E H x d) (h1 : IsD F H y e) (h2 : Wt d m k) (h3 : Wt e n l) (h4 : k ≤ 60) (h5 : Q (.bl (if ne then !PyData.eqv d e else PyData.eqv d e)) H)
def rEqD (ne : Bool) : R2 := fun x y H Q => rEqD_ ne x y H Q
theorem op_eqD (hu : X.A.units + 64 < cLine) : OpR X (compareOp .Eq) (rEqD false) := by
  intro pins s σ H x y v u Q I rx ry h
  obtain ⟨d, e, E, F, m, n, k, l, hd, he, wd, we, hk, q⟩ := h
  obtain ⟨as, ra⟩ := hd.reads I.hok rx
  obtain ⟨bs, rb⟩ := he.reads I.hok ry
  exact PySem.SeqAt.compareEq_reads ra rb wd.can we.can (by have := wd.dep; trivial) ⟨.bl _, H, I, rfl, q⟩
theorem op_neD (hu : X.A.units + 64 < cLine) : OpR X (compareOp .NotEq) (rEqD true) := by
  intro pins s σ H x y v u Q I rx ry h
  obtain ⟨d, e, E, F, m, n, k, l, hd, he, wd, we, hk, q⟩ := h
  obtain ⟨as, ra⟩ := hd.reads I.hok rx
  obtain ⟨bs, rb⟩ := he.reads I.hok ry
  exact PySem.SeqAt.compareNe_reads ra rb wd.can we.can (by have := wd.dep; trivial) ⟨.bl _, H, I, rfl, q⟩
inductive rStrW_ (xs : List V) (H : Hp) (Q : VK) : Prop
  | mk (a : Addr) (d : PyData) (E : Addr → Prop) (n k : Nat) (h0 : xs = [.ref a]) (h1 : IsD E H (.ref a) d) (h2 : Wt d n k) (h3 : n ≤ 5500) (h4 : k ≤ 50) (h5 : Q (.str d.shown) H)
def rStrW : List V → Hp → VK → Prop := fun xs H Q => rStrW_  xs H Q
theorem call_strW {k : Nat} (hr : Room k X.A) : CallR X (.type "str") rStrW := fun pins s σ H xs us Q I r ⟨a, d, E, n, k, e, hd, w, hn, hk, q⟩ =>
  call_str_data hr pins s σ H xs us Q I r ⟨a, d, E, e, hd, w.sho, w.nod, by have := w.dep; trivial, by have := w.len; rw [sizeLine_eq]; trivial, q⟩
end
abbrev ED : Addr → Prop := fun _ => True
abbrev frD (p : KM.Fra) : PyData := .tuple [.int p.1, .int p.2]
theorem isF {H : Hp} {o : Addr} {p : KM.Fra} (h : H o = some (.tup [.int p.1, .int p.2])) : IsD ED H (.ref o) (frD p) := .tup h (.cons (.int _) (.cons (.int _) .nil))
theorem isF_inv {E : Addr → Prop} {H : Hp} {v : V} {p : KM.Fra} (h : IsD E H v (frD p)) : ∃ o, v = .ref o ∧ H o = some (.tup [.int p.1, .int p.2]) := by
  cases h with
  | @tup a xs _ h r =>
    cases r with
    | cons h1 r =>
    cases r with
    | cons h2 r =>
    cases r
    cases h1
    cases h2
    exact ⟨a, rfl, h⟩
theorem IsD.tupS {E F : Addr → Prop} {H H' : Hp} {v : V} {d : PyData} (h : IsD ED H v d) (k : SameE E H H') : IsD ED H' v d := h.mono ⟨fun _ _ n _ => absurd trivial n, k.tup⟩
theorem IsAll.tupS {E : Addr → Prop} {H H' : Hp} {v : List V} {d : List PyData} (h : IsAll ED H v d) (k : SameE E H H') : IsAll ED H' v d := h.mono ⟨fun _ _ n _ => absurd trivial n, k.tup⟩
theorem IsD.tupC {H H' : Hp} {v : V} {d : PyData} {p : Addr} {xs ys : List V} (h : IsD ED H v d) (k : Ch H p xs H') (hp : H p = some (.lst ys)) : IsD ED H' v d := h.mono ⟨fun _ _ n _ => absurd trivial n, fun _ _ e => k.tup e hp⟩
theorem IsD.sm {E : Addr → Prop} {H H' : Hp} {v : V} {d : PyData} (h : IsD E H v d) (k : Same H H') : IsD E H' v d := h.mono k.toE
theorem IsD.any {E : Addr → Prop} {H : Hp} {v : V} {d : PyData} (h : IsD ED H v d) : IsD E H v d := h.narrow fun _ _ => trivial
theorem isStrs {H : Hp} : ∀ ls : List (List Nat), IsAll ED H (ls.map strV) (ls.map fun l => .str (S l))
  | [] => .nil
  | _ :: r => .cons (.str _) (isStrs r)
theorem strT_name {l : List Nat} (h : NameC l) : strT (S l) := ⟨by rw [S_len]; have := h.hi; trivial, fun c hc => by have := h.az c hc; trivial⟩
theorem wt_fr {p : KM.Fra} {b : Nat} (h : Fb b p.1 p.2) (hb : b ≤ 1900) : Wt (frD p) 3 1 := .tuple (.cons (.int (h.sn.mono hb)) (.cons (.int (h.sd.mono hb)) .nil))
theorem wtL_map {α : Type} {f : α → PyData} {m k : Nat} : ∀ {xs : List α}, (∀ x ∈ xs, Wt (f x) m k) → WtL (xs.map f) (m * xs.length) k
  | [], _ => .nil
  | x :: r, h => by
    have e : m * (x :: r).length = m + m * r.length := by rw [List.length_cons, Nat.mul_succ, Nat.add_comm]
    rw [e]
    exact .cons (h x (by simp)) (wtL_map fun y hy => h y (List.mem_cons_of_mem _ hy))
end L2
namespace L2
open PySem PySem.Spec PyProof.Rows
inductive spFrB_ (c : Nat) (lo : Int) (vs : List V) (H : Hp) (Q : VK) : Prop
  | mk (b : Addr) (t : Int) (h0 : vs = [.ref b]) (h1 : Bx H b t) (h2 : 0 ≤ t) (h3 : t ≤ 900000) (h4 : ∀ o n d t' H', SameE (Eb b) H H' → H' o = some (.tup [.int n, .int d]) → Fb c n d → lo ≤ n → Bx H' b t' → t ≤ t' → t' ≤ t + 6 → Q (.ref o) H')
def spFrB (c : Nat) (lo : Int) : Sp := fun vs H Q _ => spFrB_ c lo vs H Q
theorem low_fb6 {n d : Int} (hn : 1 ≤ n) (hn2 : n ≤ 60) (hd : 1 ≤ d) (hd2 : d ≤ 60) : Fb 6 (KM.low n d).1 (KM.low n d).2 ∧ 1 ≤ (KM.low n d).1 := by
  have a : Sz 6 n := by show n.natAbs < 64; trivial
  have b : Sz 6 d := by show d.natAbs < 64; trivial
  refine ⟨Fb.low a b (by trivial), ?_⟩
  have := (KM.low_sgn (n := n) (d := d) (by trivial)).1.mpr (by trivial)
  trivial
theorem low_fb24 {n d : Int} (hn : 1 ≤ n) (hn2 : n ≤ 10000000) (hd : 1 ≤ d) (hd2 : d ≤ 10000000) : Fb 24 (KM.low n d).1 (KM.low n d).2 ∧ 1 ≤ (KM.low n d).1 := by
  have a : Sz 24 n := by show n.natAbs < 16777216; trivial
  have b : Sz 24 d := by show d.natAbs < 16777216; trivial
  refine ⟨Fb.low a b (by trivial), ?_⟩
  have := (KM.low_sgn (n := n) (d := d) (by trivial)).1.mpr (by trivial)
  trivial
theorem fb_one24 {n : Int} (h0 : 0 ≤ n) (h : n ≤ 10000000) : Fb 24 n 1 := ⟨by show n.natAbs < 16777216; trivial, by show (1 : Int).natAbs < _; decide, by decide, Int.gcd_one_right _⟩
theorem ifC {c : Bool} {a b : Int} {σ : St} {H : Hp} {Q : VK} (h : Q (.int (if c = true then a else b)) H) : if c = true then tC (.int a) σ H Q else tC (.int b) σ H Q := by
  cases c with
  | true => exact iteT h
  | false => exact iteF h
theorem log9 {m : Int} (h0 : 0 < m) (h1 : m < 1099511627776) : m.natAbs.log2 < 9000 := by
  have a : Sz 40 m := by show m.natAbs < 1099511627776; trivial
  exact Nat.lt_trans (a.log (by trivial)) (by decide)
end L2
namespace L2
open PySem PySem.Spec PyProof.Rows
theorem step_on {n f r : Int} (h0 : 0 ≤ f) (h1 : f < n) (r0 : 0 ≤ r) (r1 : r < n - 1) : 0 ≤ (f + 1 + r) % n ∧ (f + 1 + r) % n < n ∧ (f + 1 + r) % n ≠ f := by
  have hn : 0 < n := by trivial
  refine ⟨Int.emod_nonneg _ (by trivial), Int.emod_lt_of_pos _ hn, ?_⟩
  by_cases h : f + 1 + r < n
  · rw [Int.emod_eq_of_lt (by trivial) h]; trivial
  · have e : (f + 1 + r) % n = f + 1 + r - n := by
      have h2 : (f + 1 + r) % n = (f + 1 + r - n) % n := by rw [Int.sub_emod_right]
      rw [h2, Int.emod_eq_of_lt (by trivial) (by trivial)]
    rw [e]; trivial
theorem eqv_nil (xs : List PyData) : PyData.eqv (.list xs) (.list []) = xs.isEmpty := by cases xs <;> simp [PyData.eqv, PyData.eqvAll]
theorem atI_map {α : Type} {xs : List α} {k : Int} {f : α → V} (h0 : 0 ≤ k) (h : k.toNat < xs.length) : atI (xs.map f) k = some (f xs[k.toNat]) := by
  have q := atI_nat (xs := xs.map f) (j := k.toNat) (v := f xs[k.toNat]) (by rw [List.getElem?_map]; simp [h])
  rwa [Int.toNat_of_nonneg h0] at q
end L2
namespace L2
theorem nodup_inj {α : Type} {ls : List α} (h : ls.Nodup) {i j : Nat} (hi : i < ls.length) (hj : j < ls.length) (e : ls[i] = ls[j]) : i = j := by
  have p := List.pairwise_iff_getElem.mp h
  rcases Nat.lt_trichotomy i j with q | q | q
  · exact absurd e (p i j hi hj q)
  · exact q
  · exact absurd e.symm (p j i hj hi q)
end L2
namespace L2
open PySem PySem.Spec PyProof.Rows
theorem ifE {c : Bool} {ta tb : TE} {σ : St} {H : Hp} {Q : VK} (I : V → Hp → Prop) (rest : ∀ v H', I v H' → Q v H') (h1 : c = true → (∀ v H', I v H' → Q v H') → ta σ H Q) (h2 : c = false → (∀ v H', I v H' → Q v H') → tb σ H Q) :
    if c = true then ta σ H Q else tb σ H Q := by
  cases c with
  | true => exact iteT (h1 rfl rest)
  | false => exact iteF (h2 rfl rest)
end L2
namespace L2
end L2
namespace L2
open PySem PySem.Spec PyProof.Rows
theorem IsAll.take {E : Addr → Prop} {H : Hp} : ∀ {xs : List V} {ds : List PyData} (n : Nat), IsAll E H xs ds → IsAll E H (xs.take n) (ds.take n)
  | _, _, 0, _ => by simp; exact .nil
  | _, _, _ + 1, .nil => by simp; exact .nil
  | _, _, n + 1, .cons h r => by simp; exact .cons h (IsAll.take n r)
end L2
namespace L2
open PySem PySem.Spec PyProof.Rows
open AutoSeq1 (wpAny_loadPart')
set_option maxHeartbeats 4000000 in
theorem enumNewT (l : Addr) (its : Array Value) (n : Nat) (dct : Option Addr) (sl : Array (Option Value)) :
    Meets (Builtin.«enumerate.__new__» ⟨[.type "enumerate", .ref l], []⟩) (fun _ R s => s.heap.get? l = some { cls := .type "tuple", dict := dct, data := .seq its n, slots := sl } ∧
      R (.ok (.ret (.ref (s.heap.push { cls := .type "tuple_iterator", data := .fields #[.ref l, .int 0 0] }).objs.size))) { s with heap := (s.heap.push { cls := .type "tuple_iterator", data := .fields #[.ref l, .int 0 0] }).push { cls := .type "enumerate", data := .fields #[.none, .bool false, .ref s.heap.objs.size, rawInt 0, .none, .none] } }) :=
  .of_wp fun prog w A R s h => by
    obtain ⟨hp, g, d, tk, os⟩ := s; obtain ⟨hl, h⟩ := h; have hsub := sub_enumerate
    have hT : Heap.IsTuple (Shared.heap ⟨hp, g, d, tk, os⟩) l its := ⟨_, hl, rfl, n, rfl⟩
    wp_walk using wpAny_loadPart' hl
    refine wpAny_stack_any fun st => wpAny_pure ?_; split
    · rename_i c _ _ _ _ _; cases (c == Value.type "enumerate")
      · wp_walk using wpAny_loadPart' hl, wpAny_pyIter_tuple hT
        exact ⟨_, rfl, h⟩
      · wp_walk using wpAny_loadPart' hl, wpAny_pyIter_tuple hT
        exact ⟨_, rfl, h⟩
    · wp_walk using wpAny_loadPart' hl, wpAny_pyIter_tuple hT
      exact ⟨_, rfl, h⟩
section
variable {prog : Program} {w : World} {A : Around} {E : Value → Shared → Prop} {s : Shared}
theorem call_enumK {l : Addr} {its : Array Value} {Q : Value → Shared → Prop} : ∀ {c : Bool}, SqK s.heap l its c →
    (∀ h', IsEnum h' (s.heap.objs.size + 1) s.heap.objs.size 0 .none → ItK h' s.heap.objs.size l 0 c → (∀ b o, s.heap.get? b = some o → h'.get? b = some o) → Q (.ref (s.heap.objs.size + 1)) { s with heap := h' }) →
    wpAny (model prog w) A (call (.type "enumerate") [.ref l]) Q E s
  | true, q, h => call_enumerate_list q fun h' a b _ k => h h' a b k
  | false, q, h => by
    obtain ⟨⟨c, dct, dt, sl⟩, hl, hc, n, hd⟩ := q
    dsimp only at hc hd
    subst hc hd
    refine callType_new F.called_enumerate (by decide) (F.typeCall_enumerate_1 _) (F.newCall_enumerate_1 _) (fun obj => F.args_object_init_2 obj _) F.entry_enumerate_new (enumNewT l its n dct sl) ⟨hl, ?_⟩
    have hz : (s.heap.push { cls := .type "tuple_iterator", data := .fields #[.ref l, .int 0 0] }).objs.size = s.heap.objs.size + 1 := Heap.size_push ..
    show _ ∧ _
    rw [hz]
    have he : IsEnum ((s.heap.push { cls := .type "tuple_iterator", data := .fields #[.ref l, .int 0 0] }).push { cls := .type "enumerate", data := .fields #[.none, .bool false, .ref s.heap.objs.size, rawInt 0, .none, .none] }) (s.heap.objs.size + 1) s.heap.objs.size 0 .none := by
      rw [← hz]; exact Heap.get?_push_size _ rfl
    exact ⟨⟨_, he, rfl⟩, h _ he ⟨_, Heap.get?_push_of_some _ (Heap.get?_push_size _ rfl), rfl, rfl⟩ fun b o e => Heap.get?_push_of_some _ (Heap.get?_push_of_some _ e)⟩
end
def IteK (K : PySem.W.Frag) (a : Addr) (c : Bool) : It :=
  ⟨fun i H => Ex2 fun xs x => SqC K H a xs c ∧ xs[i]? = some x, fun i H v H' => Ex2 fun T x => H T = none ∧ v = .ref T ∧ H' = upd H T (.tup [.int (i : Int), x]) ∧ ∀ xs, SqC K H a xs c → xs[i]? = some x, fun i H => ∃ xs, SqC K H a xs c ∧ xs.length = i⟩
theorem turn_enumK {P : Program} {w : World} {K : PySem.W.Frag} {es : List Expr} {kk : Nat} {pos : Pos} (a e it : Addr) (c : Bool) (hne : e ≠ it) (hae : a ≠ e) (hai : a ≠ it) :
    Turn P w K (.Tuple es kk pos) (IteK K a c) [e, it] e (fun i h => (∃ old, IsEnum h e it i old) ∧ ItK h it a i c) where
  mem := by simp
  obj := fun i h st b hb => by
    obtain ⟨⟨old, he⟩, hi⟩ := st
    have hb' : b = e ∨ b = it := by simpa using hb
    rcases hb' with rfl | rfl
    · exact ⟨_, he, fun v z => by have z' : Data.fields _ = Data.cell v := z; cases z'⟩
    · exact hi.some
  keep := fun i h h' st k => by
    obtain ⟨⟨old, he⟩, hi⟩ := st
    exact ⟨⟨old, k e (by simp) _ he⟩, hi.at fun o q => k it (by simp) o q⟩
  item := by
    intro X hP hw hK hc i pins s σ H E I hf st hg
    subst hP hw hK
    obtain ⟨⟨old, he⟩, hit⟩ := st
    obtain ⟨xs, x, hq, hx⟩ := hg
    obtain ⟨its, rv, p⟩ := I.seqC hq
    obtain ⟨u, hu, ru⟩ := rv.get hx
    have hnT : H s.heap.objs.size = none := I.fresh
    have hiu : i < its.length := (List.getElem?_eq_some_iff.mp hu).1
    have D := drawsK (prog := X.prog) (w := X.w) (A := X.A.in1) (I.ok.hd hc) it a hai its.toArray c
    refine wpAny_pyNext_enum_itemD D he ⟨hit, p⟩ (by simpa using hiu) hne (by simp; exact ⟨hne, Ne.symm hae⟩) fun u' h' tk hP ho st' hT hsz hk => ?_
    have eu : u = u' := by
      have : its.toArray[i]? = some u' := hP
      rw [List.getElem?_toArray, hu] at this
      exact Option.some.inj this
    subst eu
    refine ⟨_, rfl, wpAny_letOwnedTupleGo_enum (s := { s with heap := h', toks := tk + 1 }) ho fun h'' he'' hs'' => ?_⟩
    have helt : e < s.heap.objs.size := Heap.lt_size he
    have hilt : it < s.heap.objs.size := let ⟨_, y, _⟩ := hit.some; Heap.lt_size y
    have hT'' : h''.get? s.heap.objs.size = some { cls := .type "tuple", data := .seq #[.int i tk, u] } := (hs''.2 _ (Nat.ne_of_gt helt)).trans hT
    refine ⟨.ref s.heap.objs.size, upd H s.heap.objs.size (.tup [.int (i : Int), x]), I.turnedNew (ch := [e, it]) (t' := tk + 1) hf (fun b o hb q => ?_) (Nat.le_refl _) ?_, rfl, ⟨_, x, hnT, rfl, rfl, fun ys hy => by rw [I.seqC_inj hy hq]; exact hx⟩, ⟨⟨u, ?_⟩, st'.1.at fun o q => (hs''.2 _ (Ne.symm hne)).trans q⟩, fun b hb => ?_⟩
    · have h1 : b ≠ e := fun z => hb (by simp [z])
      have h2 : b ≠ it := fun z => hb (by simp [z])
      exact (hs''.2 b h1).trans (hk b o h1 h2 q)
    · exact ⟨by show 2 ≤ sizeLine; decide, [.int i tk, u], .cons ⟨_, rfl⟩ (.cons ru .nil), ⟨_, hT'', rfl, _, rfl⟩, _, hT'', rfl⟩
    · simpa using he''
    · have hb' : b = e ∨ b = it := by simpa using hb
      have hlt : b < s.heap.objs.size := by rcases hb' with rfl | rfl <;> assumption
      rw [upd_ne (Nat.ne_of_lt hlt)]
      exact (hf b hb).1
  done := by
    intro X hP hw hK hc i pins s σ H E I hf st hg
    subst hP hw hK
    obtain ⟨⟨old, he⟩, hit⟩ := st
    obtain ⟨xs, hq, hx⟩ := hg
    obtain ⟨its, rv, p⟩ := I.seqC hq
    have hl := rv.length
    have D := drawsK (prog := X.prog) (w := X.w) (A := X.A.in1) (I.ok.hd hc) it a hai its.toArray c
    have ei : i = its.toArray.size := by simp; trivial
    refine wpAny_pyNext_enum_endD D he (by rw [ei] at hit; exact ⟨hit, p⟩) fun h' eb => ⟨rfl, I.turnedL (ch := [e, it]) (t' := s.toks) hf fun b o hb q => eb b o (fun z => hb (by simp [z])) q⟩
  self := fun _ _ _ _ _ st h => by
    obtain ⟨⟨old, he⟩, _⟩ := st
    exact wpAny_pyIter_enum he h
def iEnumK (K : PySem.W.Frag) (ta : TA) : TI := fun σ H R => ta σ H fun vs H1 => Ex2 fun a c => vs = [.ref a] ∧ (∃ xs, SqC K H1 a xs c) ∧ R (IteK K a c) H1
theorem pi_enumK {X : Cx} {K : PySem.W.Frag} {es : List Expr} {kk : Nat} {tp : Pos} {a : Expr} {ta : TA} {p pos : Pos} (hg : Gl X "enumerate") (hm : X.mg "enumerate" = none) (ha : PA X [a] ta) (hs : starEach [a] X.env = [(false, eval a X.env)] := by rfl) (ek : X.K = K := by rfl) :
    PI X (.Tuple es kk tp) (.Call (.Name "enumerate" p) [a] [] pos) (iEnumK K ta) := by
  subst ek
  intro pins s σ H R I h
  refine Call_ (ld_blt I hg hm boot_enumerate (PyProof.Rows.callWith_type1 (thn (ha pos pins s σ H _ I h) fun us s1 ⟨vs, H1, I1, r1, q1⟩ => ?_) hs rfl))
  obtain ⟨a, c, rfl, ⟨xs, hq⟩, q⟩ := q1
  obtain ⟨u, rfl, ru⟩ := r1.one
  obtain rfl : u = .ref a := ru
  obtain ⟨its, rv, p⟩ := I1.seqC hq
  have d1 := p.lt
  refine call_enumK p fun h' hE hI hk => wpAny_pyIter_enum hE ?_
  have I2 : Inv X pins σ H1 { s1 with heap := h', toks := s1.toks } := I1.kept hk
  refine ⟨s1.heap.objs.size + 1, [s1.heap.objs.size + 1, s1.heap.objs.size], _, _, H1, rfl, I2, turn_enumK a (s1.heap.objs.size + 1) s1.heap.objs.size c (Nat.succ_ne_self _) (Nat.ne_of_lt (Nat.lt_succ_of_lt d1)) (Nat.ne_of_lt d1), ⟨⟨_, hE⟩, hI⟩, fun b hb => ?_, q⟩
  have hb' : b = s1.heap.objs.size + 1 ∨ b = s1.heap.objs.size := by simpa using hb
  have hle : s1.heap.objs.size ≤ b := by rcases hb' with rfl | rfl <;> trivial
  exact I1.fpOk hle (I1.hok.fresh hle)
section
variable {X : Cx}
end
end L2
namespace L2
open PySem PySem.Spec PyProof.Rows
inductive rSlS_ (x : V) (lo : Option Int) (hi : Option Int) (H : Hp) (Q : VK) : Prop
  | mk (z : _) (h0 : x = .str z) (h1 : z.length ≤ 10000) (h2 : ∀ y, y.length ≤ z.length → (∀ c ∈ y.cps.toList, c ∈ z.cps.toList) → Q (.str y) H)
def rSlS : V → Option Int → Option Int → Hp → VK → Prop := fun x lo hi H Q => rSlS_  x lo hi H Q
theorem part_of {v : Value} {o : Option Int} (h : IsPart v o) : ∃ p : Option (Int × Tok), v = partValue p := by
  cases h with
  | none => exact ⟨none, rfl⟩
  | int i t => exact ⟨some (i, t), rfl⟩
theorem sl_str {X : Cx} : SlR X rSlS := by
  intro pins s σ H x v vl vu lo hi sl Q I rx hs pl pu h
  obtain ⟨z, rfl, hz, q⟩ := h
  obtain ⟨t, rfl⟩ := rx
  obtain ⟨l, rfl⟩ := part_of pl
  obtain ⟨u, rfl⟩ := part_of pu
  refine ⟨"str", _, F.slot_str_getitem.lookup, typeIs_str _ _ _, ?_⟩
  refine wpAny_getItem_str_slice (l := l) (u := u) (st := none) hs rfl ?_
  unfold sliceMade
  by_cases hc : ((Option.map (fun x : Int × Tok => x.fst) none).getD 1 == 1 && (slicePicked z l u none).length == z.length) = true
  · rw [if_pos hc]
    exact ⟨.str z, H, I, ⟨_, rfl⟩, q z (Nat.le_refl _) fun c hc => hc⟩
  · rw [if_neg hc]
    have hl : ((slicePicked z l u none).filterMap (fun x => z.cps[x]?)).length ≤ z.length := Nat.le_trans (List.length_filterMap_le _ _) (sliceIndices_le _ _ _)
    have hl' : (⟨((slicePicked z l u none).filterMap (fun x => z.cps[x]?)).toArray⟩ : Str).length ≤ z.length := by
      show ((slicePicked z l u none).filterMap (fun x => z.cps[x]?)).toArray.size ≤ _
      rw [List.size_toArray]; exact hl
    refine ⟨?_, .str ⟨_⟩, H, I.tok _, ⟨_, rfl⟩, q _ hl' fun c hc => ?_⟩
    · exact Nat.le_trans hl' (sz_of hz)
    · have hc' : c ∈ (slicePicked z l u none).filterMap (fun x => z.cps[x]?) := by simpa using hc
      obtain ⟨i, _, e⟩ := List.mem_filterMap.mp hc'
      obtain ⟨hi, e2⟩ := Array.getElem?_eq_some_iff.mp e
      rw [← e2]
      simp
end L2
namespace L2
open PySem PySem.Spec PyProof.Rows
mutual
inductive Wg (z : Nat) : PyData → Nat → Nat → Prop
  | non {n k : Nat} (hn : 1 ≤ n) : Wg z .none n k
  | bl (b : Bool) {n k : Nat} (hn : 1 ≤ n) : Wg z (.bool b) n k
  | int {i : Int} (h : Sz (200 + z) i) {n k : Nat} (hn : 1 ≤ n) : Wg z (.int i) n k
  | str {x : Str} (h : x.length + 1 ≤ 4 ^ z) (hc : ∀ c ∈ x.cps.toList, c < 128) {n k : Nat} (hn : 1 ≤ n) : Wg z (.str x) n k
  | list {xs : List PyData} {m l n k : Nat} (h : WgL z xs m l) (hn : m + 1 ≤ n) (hk : l + 1 ≤ k) : Wg z (.list xs) n k
  | tuple {xs : List PyData} {m l n k : Nat} (h : WgL z xs m l) (hn : m + 1 ≤ n) (hk : l + 1 ≤ k) : Wg z (.tuple xs) n k
inductive WgL (z : Nat) : List PyData → Nat → Nat → Prop
  | nil {n k : Nat} : WgL z [] n k
  | cons {x : PyData} {xs : List PyData} {m l n k : Nat} (h : Wg z x m k) (r : WgL z xs l k) (hn : m + l ≤ n) : WgL z (x :: xs) n k
end
theorem Wg.up {z : Nat} {d : PyData} {n k n' k' : Nat} (h : Wg z d n k) (hn : n ≤ n') (hk : k ≤ k') : Wg z d n' k' := by
  cases h with
  | non h => exact .non (by trivial)
  | bl b h => exact .bl b (by trivial)
  | int h hn' => exact .int h (by trivial)
  | str h hc hn' => exact .str h hc (by trivial)
  | list h h1 h2 => exact .list h (by trivial) (by trivial)
  | tuple h h1 h2 => exact .tuple h (by trivial) (by trivial)
theorem WgL.up {z : Nat} : ∀ {xs : List PyData} {n k n' k' : Nat}, WgL z xs n k → n ≤ n' → k ≤ k' → WgL z xs n' k'
  | _, _, _, _, _, .nil, _, _ => .nil
  | _, _, _, _, _, .cons h r hn, h1, h2 => .cons (h.up (Nat.le_refl _) h2) (r.up (Nat.le_refl _) h2) (by trivial)
theorem WgL.append {z : Nat} : ∀ {xs ys : List PyData} {n m k : Nat}, WgL z xs n k → WgL z ys m k → WgL z (xs ++ ys) (n + m) k
  | _, _, _, _, _, .nil, s => s.up (by trivial) (Nat.le_refl _)
  | _, _, _, _, _, .cons h r hn, s => .cons h (r.append s) (by trivial)
theorem WgL.one {z : Nat} {d : PyData} {n k : Nat} (h : Wg z d n k) : WgL z [d] n k := .cons (l := 0) h .nil (by trivial)
theorem WgL.take {z : Nat} : ∀ {xs : List PyData} {n k : Nat} (i : Nat), WgL z xs n k → WgL z (xs.take i) n k
  | _, _, _, 0, _ => by simp; exact .nil
  | _, _, _, _ + 1, .nil => by simp; exact .nil
  | _, _, _, i + 1, .cons h r hn => by simp; exact .cons h (r.take i) hn
theorem WgL.drop {z : Nat} : ∀ {xs : List PyData} {n k : Nat} (i : Nat), WgL z xs n k → WgL z (xs.drop i) n k
  | _, _, _, 0, h => by simpa using h
  | _, _, _, _ + 1, .nil => by simp; exact .nil
  | _, _, _, i + 1, .cons h r hn => by simp; exact (r.drop i).up (by trivial) (Nat.le_refl _)
theorem WgL.reverse {z : Nat} : ∀ {xs : List PyData} {n k : Nat}, WgL z xs n k → WgL z xs.reverse n k
  | _, _, _, .nil => by simp; exact .nil
  | _, _, _, .cons h r hn => by rw [List.reverse_cons]; exact (r.reverse.append (.one h)).up (by trivial) (Nat.le_refl _)
theorem WgL.get {z : Nat} : ∀ {xs : List PyData} {n k i : Nat} {d : PyData}, WgL z xs n k → xs[i]? = some d → Wg z d n k
  | _, _, _, _, _, .nil, e => by simp at e
  | _, _, _, 0, _, .cons h r hn, e => by
    simp at e; subst e; exact h.up (by trivial) (Nat.le_refl _)
  | _, _, _, i + 1, _, .cons h r hn, e => (r.get (i := i) (by simpa using e)).up (by trivial) (Nat.le_refl _)
theorem pow4_le {z y : Nat} (h : z ≤ y) : 4 ^ z ≤ 4 ^ y := Nat.pow_le_pow_right (by decide) h
mutual
theorem Wg.more {z y : Nat} (hz : z ≤ y) : ∀ {d : PyData} {n k : Nat}, Wg z d n k → Wg y d n k
  | _, _, _, .non h => .non h
  | _, _, _, .bl b h => .bl b h
  | _, _, _, .int h hn => .int (h.mono (by trivial)) hn
  | _, _, _, .str h hc hn => .str (Nat.le_trans h (pow4_le hz)) hc hn
  | _, _, _, .list h hn hk => .list (WgL.more hz h) hn hk
  | _, _, _, .tuple h hn hk => .tuple (WgL.more hz h) hn hk
theorem WgL.more {z y : Nat} (hz : z ≤ y) : ∀ {ds : List PyData} {n k : Nat}, WgL z ds n k → WgL y ds n k
  | _, _, _, .nil => .nil
  | _, _, _, .cons h r hn => .cons (Wg.more hz h) (WgL.more hz r) hn
end
mutual
theorem Wg.wt {z : Nat} (hz : z ≤ 4) : ∀ {d : PyData} {n k : Nat}, Wg z d n k → ∃ m, m ≤ n ∧ Wt d m k
  | _, _, _, .non h => ⟨1, h, .non⟩
  | _, _, _, .bl b h => ⟨1, h, .bl b⟩
  | _, _, _, .int h hn => ⟨1, hn, .int (h.mono (by trivial))⟩
  | _, _, _, .str h hc hn => ⟨1, hn, .str ⟨by have := pow4_le hz; simp at this; trivial, hc⟩⟩
  | _, _, _, .list h hn hk => by
    obtain ⟨m, h1, h2⟩ := WgL.wt hz h
    exact ⟨m + 1, by trivial, Wt.deep (.list h2) hk⟩
  | _, _, _, .tuple h hn hk => by
    obtain ⟨m, h1, h2⟩ := WgL.wt hz h
    exact ⟨m + 1, by trivial, Wt.deep (.tuple h2) hk⟩
theorem WgL.wt {z : Nat} (hz : z ≤ 4) : ∀ {ds : List PyData} {n k : Nat}, WgL z ds n k → ∃ m, m ≤ n ∧ WtL ds m k
  | _, _, _, .nil => ⟨0, Nat.zero_le _, .nil⟩
  | _, _, _, .cons h r hn => by
    obtain ⟨m, h1, h2⟩ := Wg.wt hz h
    obtain ⟨l, h3, h4⟩ := WgL.wt hz r
    exact ⟨m + l, by trivial, .cons h2 h4⟩
end
def Dt (z : Nat) (E : Addr → Prop) (H : Hp) (v : V) (n k : Nat) : Prop := ∃ d, IsD E H v d ∧ Wg z d n k
def Ds (z : Nat) (E : Addr → Prop) (H : Hp) (vs : List V) (n k : Nat) : Prop := ∃ ds, IsAll E H vs ds ∧ WgL z ds n k
theorem IsAll.drop {E : Addr → Prop} {H : Hp} : ∀ {xs : List V} {ds : List PyData} (n : Nat), IsAll E H xs ds → IsAll E H (xs.drop n) (ds.drop n)
  | _, _, 0, h => by simpa using h
  | _, _, _ + 1, .nil => by simp; exact .nil
  | _, _, n + 1, .cons h r => by simp; exact IsAll.drop n r
theorem IsAll.reverse {E : Addr → Prop} {H : Hp} : ∀ {xs : List V} {ds : List PyData}, IsAll E H xs ds → IsAll E H xs.reverse ds.reverse
  | _, _, .nil => by simp; exact .nil
  | _, _, .cons h r => by rw [List.reverse_cons, List.reverse_cons]; exact r.reverse.append (.cons h .nil)
theorem IsAll.set {E : Addr → Prop} {H : Hp} {y : V} {d : PyData} (hy : IsD E H y d) : ∀ {xs : List V} {ds : List PyData} (i : Nat), IsAll E H xs ds → IsAll E H (xs.set i y) (ds.set i d)
  | _, _, _, .nil => by simp; exact .nil
  | _, _, 0, .cons h r => by simp; exact .cons hy r
  | _, _, i + 1, .cons h r => by simp; exact .cons h (IsAll.set hy i r)
section
variable {z : Nat} {E : Addr → Prop} {H H' : Hp} {n m k : Nat} {v : V} {xs ys : List V}
theorem Ds.sE (h : Ds z E H xs n k) (s : SameE E H H') : Ds z E H' xs n k := by obtain ⟨d, a, b⟩ := h; exact ⟨d, a.mono s, b⟩
theorem Dt.sE (h : Dt z E H v n k) (s : SameE E H H') : Dt z E H' v n k := by obtain ⟨d, a, b⟩ := h; exact ⟨d, a.mono s, b⟩
theorem Ds.sm (h : Ds z E H xs n k) (s : Same H H') : Ds z E H' xs n k := h.sE s.toE
theorem Dt.sm (h : Dt z E H v n k) (s : Same H H') : Dt z E H' v n k := h.sE s.toE
theorem Ds.nil : Ds z E H [] n k := ⟨[], .nil, .nil⟩
theorem Ds.one (h : Dt z E H v n k) : Ds z E H [v] n k := by obtain ⟨d, a, b⟩ := h; exact ⟨[d], .cons a .nil, .one b⟩
theorem Ds.append (h : Ds z E H xs n k) (g : Ds z E H ys m k) : Ds z E H (xs ++ ys) (n + m) k := by
  obtain ⟨d, a, b⟩ := h; obtain ⟨e, a', b'⟩ := g; exact ⟨d ++ e, a.append a', b.append b'⟩
theorem Ds.cons (h : Dt z E H v m k) (g : Ds z E H xs n k) : Ds z E H (v :: xs) (m + n) k := (Ds.one h).append g
theorem Ds.take (h : Ds z E H xs n k) (i : Nat) : Ds z E H (xs.take i) n k := by obtain ⟨d, a, b⟩ := h; exact ⟨_, a.take i, b.take i⟩
theorem Ds.drop (h : Ds z E H xs n k) (i : Nat) : Ds z E H (xs.drop i) n k := by obtain ⟨d, a, b⟩ := h; exact ⟨_, a.drop i, b.drop i⟩
theorem Ds.reverse (h : Ds z E H xs n k) : Ds z E H xs.reverse n k := by obtain ⟨d, a, b⟩ := h; exact ⟨_, a.reverse, b.reverse⟩
theorem Ds.up {n' k' : Nat} (h : Ds z E H xs n k) (hn : n ≤ n') (hk : k ≤ k') : Ds z E H xs n' k' := by obtain ⟨d, a, b⟩ := h; exact ⟨d, a, b.up hn hk⟩
theorem Dt.up {n' k' : Nat} (h : Dt z E H v n k) (hn : n ≤ n') (hk : k ≤ k') : Dt z E H v n' k' := by obtain ⟨d, a, b⟩ := h; exact ⟨d, a, b.up hn hk⟩
theorem Ds.more {y : Nat} (h : Ds z E H xs n k) (hz : z ≤ y) : Ds y E H xs n k := by obtain ⟨d, a, b⟩ := h; exact ⟨d, a, b.more hz⟩
theorem Dt.more {y : Nat} (h : Dt z E H v n k) (hz : z ≤ y) : Dt y E H v n k := by obtain ⟨d, a, b⟩ := h; exact ⟨d, a, b.more hz⟩
theorem Dt.lst {a : Addr} (h : H a = some (.lst xs)) (ne : ¬ E a) (g : Ds z E H xs n k) : Dt z E H (.ref a) (n + 1) (k + 1) := by
  obtain ⟨d, p, q⟩ := g; exact ⟨.list d, .lst h ne p, .list q (Nat.le_refl _) (Nat.le_refl _)⟩
theorem Dt.tup {a : Addr} (h : H a = some (.tup xs)) (g : Ds z E H xs n k) : Dt z E H (.ref a) (n + 1) (k + 1) := by
  obtain ⟨d, p, q⟩ := g; exact ⟨.tuple d, .tup h p, .tuple q (Nat.le_refl _) (Nat.le_refl _)⟩
theorem Dt.non : Dt z E H .non (n + 1) k := ⟨.none, .non, .non (by trivial)⟩
theorem Dt.bl (b : Bool) : Dt z E H (.bl b) (n + 1) k := ⟨.bool b, .bl b, .bl b (by trivial)⟩
theorem Dt.int {i : Int} (h : Sz (200 + z) i) : Dt z E H (.int i) (n + 1) k := ⟨.int i, .int i, .int h (by trivial)⟩
theorem Dt.str {x : Str} (h : x.length + 1 ≤ 4 ^ z) (hc : ∀ c ∈ x.cps.toList, c < 128) : Dt z E H (.str x) (n + 1) k := ⟨.str x, .str x, .str h hc (by trivial)⟩
theorem Dt.narrow {F : Addr → Prop} (h : Dt z E H v n k) (hF : ∀ a, F a → E a) : Dt z F H v n k := by obtain ⟨d, a, b⟩ := h; exact ⟨d, a.narrow hF, b⟩
theorem Ds.cut (h : Ds z E H xs n k) (lo hi : Option Int) : Ds z E H (cutV xs lo hi) n k := (h.drop _).take _
theorem Wg.pos {d : PyData} (h : Wg z d n k) : 1 ≤ n := by cases h <;> trivial
theorem WgL.len : ∀ {ds : List PyData} {n k : Nat}, WgL z ds n k → ds.length ≤ n
  | _, _, _, .nil => Nat.zero_le _
  | _, _, _, .cons h r hn => by have := h.pos; have := WgL.len r; simp; trivial
theorem Ds.len (h : Ds z E H xs n k) : xs.length ≤ n := by obtain ⟨d, a, b⟩ := h; rw [a.length]; exact b.len
theorem cutV_drop1 : cutV xs (some 1) none = xs.drop 1 := by
  unfold cutV
  rw [HT.sIx_none, show (1 : Int) = ((1 : Nat) : Int) from rfl, HT.sIx_nat]
  cases xs with
  | nil => simp
  | cons x r => simp
end
mutual
theorem IsD.plus {E : Addr → Prop} {H : Hp} {D : Addr} (hD : H D = none) : ∀ {v : V} {d : PyData}, IsD E H v d → IsD (fun a => E a ∨ a = D) H v d
  | _, _, .non => .non
  | _, _, .bl b => .bl b
  | _, _, .int i => .int i
  | _, _, .str x => .str x
  | _, _, .lst h ne r => .lst h (fun z => z.elim ne fun e => by rw [e, hD] at h; cases h) (IsAll.plus hD r)
  | _, _, .tup h r => .tup h (IsAll.plus hD r)
theorem IsAll.plus {E : Addr → Prop} {H : Hp} {D : Addr} (hD : H D = none) : ∀ {vs : List V} {ds : List PyData}, IsAll E H vs ds → IsAll (fun a => E a ∨ a = D) H vs ds
  | _, _, .nil => .nil
  | _, _, .cons h r => .cons (IsD.plus hD h) (IsAll.plus hD r)
end
theorem Dt.plus {z n k : Nat} {E : Addr → Prop} {H : Hp} {v : V} {D : Addr} (h : Dt z E H v n k) (hD : H D = none) : Dt z (fun a => E a ∨ a = D) H v n k := by obtain ⟨d, a, b⟩ := h; exact ⟨d, a.plus hD, b⟩
def Al (E : Addr → Prop) (H : Hp) : Prop := ∀ a, E a → H a ≠ none
theorem Al.sm {E : Addr → Prop} {H H' : Hp} (h : Al E H) (s : Same H H') : Al E H' := fun a e z => by
  cases q : H a with
  | none => exact h a e q
  | some o => rw [s a o q] at z; cases z
theorem Al.sE {E : Addr → Prop} {H H' : Hp} {b : Addr} {t : Int} (h : Al E H) (s : SameE (Eb b) H H') (B : Bx H' b t) : Al E H' := fun a e z => by
  by_cases q : a = b
  · subst q; exact B.ne z rfl
  · cases p : H a with
    | none => exact h a e p
    | some o => rw [s.old a o q p] at z; cases z
theorem Al.ne {E : Addr → Prop} {H : Hp} (h : Al E H) {p : Addr} (hp : H p = none) : ¬ E p := fun e => h p e hp
theorem S_self (x : Str) : S x.cps.toList = x := by cases x; simp [S]
section
variable {X : Cx}
def txt (m : Nat) (x : Str) : Prop := x.length ≤ m ∧ ∀ c ∈ x.cps.toList, c < 128
inductive rAddT_ (x : V) (y : V) (H : Hp) (Q : VK) : Prop
  | mk (a : _) (b : _) (m : _) (n : _) (h0 : x = .str a) (h1 : y = .str b) (h2 : txt m a) (h3 : txt n b) (h4 : m + n ≤ 10000) (h5 : ∀ c, txt (m + n) c → Q (.str c) H)
def rAddT : R2 := fun x y H Q => rAddT_  x y H Q
theorem op_addT : OpR X (binaryOp .Add) rAddT := fun pins s σ H x y v u Q I rx ry ⟨a, b, m, n, e1, e2, ta, tb, hz, q⟩ =>
  op_addS pins s σ H x y v u Q I rx ry ⟨a.cps.toList, b.cps.toList, by rw [S_self]; exact e1, by rw [S_self]; exact e2, by
    have h1 : a.cps.toList.length ≤ m := ta.1
    have h2 : b.cps.toList.length ≤ n := tb.1
    trivial, q _ ⟨by
      rw [S_len, List.length_append]
      have h1 : a.cps.toList.length ≤ m := ta.1
      have h2 : b.cps.toList.length ≤ n := tb.1
      trivial, fun c hc => by
      rw [S_list] at hc
      rcases List.mem_append.mp hc with h | h
      · exact ta.2 c h
      · exact tb.2 c h⟩⟩
end
end L2
namespace HT
open PySem PySem.Spec PyProof.Rows
section
variable {prog : Program} {w : World} {A : Around} {E : Value → Shared → Prop} {s : Shared}
theorem getItem_tuple_whole {t sl : Addr} {items : Array Value} {vl vu : Value} {lo hi : Option Int} {Q : Value → Shared → Prop} (ht : IsTup s.heap t items) (hs : s.heap.IsSliceOf sl vl vu .none) (pl : IsPart vl lo) (pu : IsPart vu hi)
    (h1 : sIx items.size 0 lo = 0) (h2 : sIx items.size items.size hi = items.size) (h : Q (.ref t) s) : wpAny (model prog w) A (getItem (.ref t) (.ref sl)) Q E s := by
  obtain ⟨os, hos, hcs, hds⟩ := id hs
  have hTs : s.TypeIs (.ref sl) "slice" := ⟨os, hos, hcs⟩
  unfold getItem
  try with_reducible refine wpAny_holding ?_
  first | refine wpAny_bind (wpAny_pure ?_) | skip
  refine wpAny_bind (wpAny_sequenceKey ht.typeIs (by decide) ?_)
  refine wpAny_bind (wpAny_callSpecial?_slot (name := Str.ofString "__getitem__") ht.typeIs PyProof.Rows.slot_tuple_getitem
    (wpAny_call_entry PyProof.Rows.slot_tuple_getitem ht.typeIs entry_tuple_getitem ?_ (args_tuple_getitem _ _)))
  show wpAny _ _ (Builtin.Tuple.tupleItemsOf (.ref t) >>= _) _ _ s
  refine wpAny_bind (tupleItemsOf_ ht ?_)
  refine wpAny_bind (wpAny_typeOf hTs ?_)
  rw [if_pos (by decide)]
  refine wpAny_bind (sliceApplied_gen hs pl pu ?_)
  have hyes : ((((sIx items.size 0 lo : Nat) : Int) == 0 && (1 : Int) == 1 && (sIx items.size items.size hi - sIx items.size 0 lo) == items.size) = true) := by
    rw [h1, h2]; simp
  show wpAny _ _ (if (((sIx items.size 0 lo : Nat) : Int) == 0 && (1 : Int) == 1 && (sIx items.size items.size hi - sIx items.size 0 lo) == items.size) = true then _ else _) _ _ s
  rw [if_pos hyes]
  refine wpAny_bind (m := Builtin.Tuple.tupleIsExact _) (wpAny_bind (wpAny_typeOf ht.typeIs (wpAny_pure ?_)))
  rw [if_pos (by decide)]
  exact wpAny_bind (wpAny_rule (wpAny_pure ⟨_, rfl, wpAny_pure h⟩))
end
end HT
namespace L2
open PySem PySem.Spec PyProof.Rows
section
variable {X : Cx} {K : PySem.W.Frag}
inductive rNotB_ (x : V) (y : V) (H : Hp) (Q : VK) : Prop
  | mk (b c : Bool) (h0 : x = .bl b) (h1 : y = .bl c) (h2 : Q (.bl (!(b == c))) H)
def rNotB : R2 := fun x y H Q => rNotB_  x y H Q
theorem op_notB : OpR X (compareOp .IsNot) rNotB := by
  intro pins s σ H x y v u Q I rx ry h
  obtain ⟨b, c, rfl, rfl, q⟩ := h
  cases (show v = Value.bool b from rx)
  cases (show u = Value.bool c from ry)
  refine wpAny_isNot_plain rfl (fin_bl I q ?_)
  cases b <;> cases c <;> rfl
inductive rSlTA_ (K : PySem.W.Frag) (x : V) (lo : Option Int) (hi : Option Int) (H : Hp) (Q : VK) : Prop
  | mk (a : _) (xs : _) (h0 : x = .ref a) (h1 : SqT K H a xs) (h2 : H a = some (.tup xs)) (h3 : ∀ p H', Same H H' → H' p = some (.tup (cutV xs lo hi)) → Q (.ref p) H')
def rSlTA (K : PySem.W.Frag) : V → Option Int → Option Int → Hp → VK → Prop := fun x lo hi H Q => rSlTA_ K x lo hi H Q
theorem sl_tupA (e : X.K = K := by rfl) : SlR X (rSlTA K) := by
  subst e
  intro pins s σ H x v vl vu lo hi sl Q I rx hs pl pu h
  obtain ⟨a, xs, rfl, hx, ha, q⟩ := h
  by_cases hw : HT.sIx xs.length 0 lo = 0 ∧ HT.sIx xs.length xs.length hi = xs.length
  · cases rx
    obtain ⟨its, r, ht, hz⟩ := I.tuple hx
    have hlen : its.toArray.size = xs.length := by rw [List.size_toArray]; exact r.length.symm
    refine ⟨"tuple", _, PyProof.Rows.slot_tuple_getitem.lookup, ht.typeIs, ?_⟩
    refine HT.getItem_tuple_whole ht hs pl pu (by rw [hlen]; exact hw.1) (by rw [hlen]; exact hw.2) ⟨.ref a, H, I, rfl, q a H (Same.refl _) ?_⟩
    have : cutV xs lo hi = xs := by
      unfold cutV
      rw [hw.1, hw.2, List.drop_zero, Nat.sub_zero, List.take_length]
    rw [this]; exact ha
  · exact sl_tup pins s σ H _ v vl vu lo hi sl Q I rx hs pl pu ⟨a, xs, rfl, hx, hw, fun p hp => q p _ (Same.new hp) upd_same⟩
end
end L2
namespace L2
open PySem PySem.Spec PyProof.Rows
section
variable {prog : Program} {w : World} {A : Around} {R : Result → Shared → Prop} {it : Addr} {fp wr : List Addr} {G : Array GenState → Array GenState → Prop} {P : Nat → Value → Prop} {St : Nat → Shared → Prop}
end
section
variable {prog : Program} {w : World} {A : Around} {E : Value → Shared → Prop} {s : Shared}
end
section
variable {X : Cx} {K : PySem.W.Frag} {e : Expr} {te : TE} {p1 p2 p3 p4 : Pos}
end
end L2
namespace L2
open PySem PySem.Spec PyProof.Rows
section
variable {X : Cx} {K : PySem.W.Frag} {o e : Expr} {es : List Expr} {to : TE} {t : TA} {name : Str} {apos cpos : Pos} {T id : String} {r : V → List V → Hp → VK → Prop}
theorem pe_bm_k (pa : PlainAttrs T) (slot : Slot T name id) (hty : typeOf (.builtin id) = pure (.type "method_descriptor")) (hm : MtR X id r) (ho : PE X o to) (ha : PA X (e :: es) t) (ek : X.K = K := by rfl)
    (h1 : attributeBase o name X.env (eval o X.env) = eval o X.env := by rfl)
    (h2 : ((backTo cpos (starEach (e :: es) X.env)).all (fun x => !x.1) && (backToKw cpos (keywordEach [] X.env)).all (fun x => x.1.isSome) && decide ((e :: es).length + ([] : List Keyword).length + (if ([] : List Keyword).isEmpty then 0 else 1) < 30)) = true := by rfl)
    (h3 : (apos.endLine == cpos.line) = true := by rfl) (h4 : starEach (e :: es) X.env = (false, eval e X.env) :: starEach es X.env := by rfl) (h5 : (backTo cpos (starEach es X.env)).any (·.1) = false := by rfl) :
    PE X (.Call (.Attribute o name apos) (e :: es) [] cpos) (tBM K T r to t) := by
  subst ek
  exact pe_bm pa slot hty hm ho ha h1 h2 h3 h4 h5
end
theorem pi_zip_k {X : Cx} {K : PySem.W.Frag} {es : List Expr} {kk : Nat} {tp : Pos} {a b : Expr} {ta : TA} {p pos : Pos} (hg : Gl X "zip") (hm : X.mg "zip" = none) (ha : PA X [a, b] ta) (ek : X.K = K := by rfl) (h1 : starEach [a, b] X.env = [(false, eval a X.env), (false, eval b X.env)] := by rfl) (h2 : starEach [b] X.env = [(false, eval b X.env)] := by rfl) :
    PI X (.Tuple es kk tp) (.Call (.Name "zip" p) [a, b] [] pos) (iZip K ta) := by
  subst ek
  exact pi_zip hg hm ha h1 h2
end L2
namespace L2
theorem seqH {t u : TS} {D : Ends} {σ : St} {H : Hp} (h : ∀ D' : Ends, (∀ σ' H', u D σ' H' → D'.nx σ' H') → t D' σ H) : tSeq t u D σ H := h { D with nx := u D } fun _ _ z => z
theorem seqR {t u : TS} {D : Ends} {σ : St} {H : Hp} (h : ∀ D' : Ends, (∀ σ' H', u D σ' H' → D'.nx σ' H') → (∀ v H', D.rt v H' → D'.rt v H') → t D' σ H) : tSeq t u D σ H := h { D with nx := u D } (fun _ _ z => z) fun _ _ z => z
theorem bodyH {t : TS} {D : Ends} {σ : St} {H : Hp} (h : ∀ D' : Ends, (∀ σ' H', D.nx σ' H' → D'.nx σ' H') → t D' σ H) : t D σ H := h D fun _ _ z => z
theorem bodyR {t : TS} {D : Ends} {σ : St} {H : Hp} (h : ∀ D' : Ends, (∀ σ' H', D.nx σ' H' → D'.nx σ' H') → (∀ v H', D.rt v H' → D'.rt v H') → t D' σ H) : t D σ H := h D (fun _ _ z => z) fun _ _ z => z
end L2
namespace L2
open PySem PySem.Spec PyProof.Rows
section
variable {X : Cx}
end
end L2
namespace L2
open PySem PySem.Spec PyProof.Rows
section
variable {K : PySem.W.Frag} {a a1 a2 D : Addr} {H1 : Hp} {σc : St} {g : TG} {te : TE} {tt : TT} {Q : VK} {xs ys : List V}
theorem map_range_snoc {α : Type} (f : Nat → α) (i : Nat) : (List.range i).map f ++ [f i] = (List.range (i + 1)).map f := by
  rw [List.range_succ, List.map_append]; rfl
theorem map_range_get {α β : Type} (f : Nat → β) (h : α → β) (l : List α) (e : ∀ (i : Nat) (x : α), l[i]? = some x → f i = h x) : (List.range l.length).map f = l.map h := by
  apply List.ext_getElem?
  intro i
  rw [List.getElem?_map, List.getElem?_map]
  by_cases hi : i < l.length
  · rw [List.getElem?_range hi, List.getElem?_eq_getElem hi]
    show some (f i) = some (h l[i])
    rw [e i l[i] (List.getElem?_eq_getElem hi)]
  · rw [List.getElem?_eq_none (by simp; trivial), List.getElem?_eq_none (by trivial)]; rfl
theorem comp_mapJ {J : It} {n : Nat} (f : Nat → V) (hz : n ≤ 10000) (hD : H1 D = none) (hgo : ∀ i H', i < n → Same H1 H' → J.go i H') (hst : ∀ H', Same H1 H' → J.stop n H')
    (hs : ∀ i x H' H'' (R : VK), i < n → Same H1 H' → J.yld i H' x H'' → (∀ H4, Same H' H4 → R (f i) H4) → g x σc H'' fun σ2 H2 => Back σc σ2 ∧ te σ2 H2 R)
    (hd : ∀ H', Same H1 H' → H' D = some (.lst ((List.range n).map f)) → Q (.ref D) H') : CompW J σc g tT te D H1 Q := by
  refine comp_each (n := n) (fun i H' zs => zs = (List.range i).map f ∧ H' D = some (.lst zs) ∧ Same H1 H') (sz_of hz) ⟨rfl, upd_same, same_lst hD (Same.refl _)⟩ ?_ ?_ ?_ ?_ ?_
  · rintro i H' zs ⟨rfl, q, _⟩
    exact ⟨q, by simp⟩
  · rintro i H' zs hi ⟨_, _, sm⟩
    exact hgo i H' hi sm
  · rintro H' zs ⟨_, _, sm⟩
    exact hst H' sm
  · rintro i H' zs x H'' hi ⟨rfl, q, sm⟩ y
    exact hs i x H' H'' _ hi sm y fun H4 s4 => ⟨s4 _ _ q, map_range_snoc f i, upd_same, same_lst hD (sm.trans s4)⟩
  · rintro H' zs ⟨rfl, q, sm⟩
    exact hd H' sm q
theorem comp_mapL (f : Nat → V) (hz : xs.length ≤ 10000) (hD : H1 D = none) (ha : H1 a = some (.lst xs))
    (hs : ∀ i x H' (R : VK), xs[i]? = some x → Same H1 H' → (∀ H4, Same H' H4 → R (f i) H4) → g x σc H' fun σ2 H2 => Back σc σ2 ∧ te σ2 H2 R)
    (hd : ∀ H', Same H1 H' → H' D = some (.lst ((List.range xs.length).map f)) → Q (.ref D) H') : CompW (Itl K a) σc g tT te D H1 Q := by
  refine comp_mapJ (n := xs.length) f hz hD (fun i H' hi sm => ⟨xs, xs[i], SqL.of (sm _ _ ha), by simp [hi]⟩) (fun H' sm => ⟨xs, SqL.of (sm _ _ ha), Nat.le_refl _⟩) ?_ hd
  rintro i x H' H'' R hi sm ⟨rfl, ex⟩ k
  exact hs i x H'' R (ex _ (SqL.of (sm _ _ ha))) sm k
theorem comp_mapT (f : Nat → V) (hz : xs.length ≤ 10000) (hD : H1 D = none) (ha : H1 a = some (.tup xs))
    (hs : ∀ i x H' (R : VK), xs[i]? = some x → Same H1 H' → (∀ H4, Same H' H4 → R (f i) H4) → g x σc H' fun σ2 H2 => Back σc σ2 ∧ te σ2 H2 R)
    (hd : ∀ H', Same H1 H' → H' D = some (.lst ((List.range xs.length).map f)) → Q (.ref D) H') : CompW (Itt K a) σc g tT te D H1 Q := by
  refine comp_mapJ (n := xs.length) f hz hD (fun i H' hi sm => ⟨xs, xs[i], SqT.of (sm _ _ ha), by simp [hi]⟩) (fun H' sm => ⟨xs, SqT.of (sm _ _ ha), Nat.le_refl _⟩) ?_ hd
  rintro i x H' H'' R hi sm ⟨rfl, ex⟩ k
  exact hs i x H'' R (ex _ (SqT.of (sm _ _ ha))) sm k
theorem comp_mapZ {c1 c2 : Bool} {j1 j2 : Nat} (f : Nat → V) (hz : min xs.length ys.length ≤ 10000) (hD : H1 D = none) (h1 : ∀ H', Same H1 H' → SqC K H' a1 xs c1) (h2 : ∀ H', Same H1 H' → SqC K H' a2 ys c2)
    (hs : ∀ i x y H' (R : VK), xs[i]? = some x → ys[i]? = some y → Same H1 H' → (∀ H4, Same H' H4 → R (f i) H4) → (fun σ2 H2 => Back σc σ2 ∧ te σ2 H2 R) ((σc.set j1 (some x)).set j2 (some y)) H')
    (hd : ∀ H', Same H1 H' → H' D = some (.lst ((List.range (min xs.length ys.length)).map f)) → Q (.ref D) H') : CompW (Itz K a1 a2 c1 c2) σc (gTup K 2 (gCons (gName j1) (gCons (gName j2) gNil))) tT te D H1 Q := by
  refine comp_mapJ (n := min xs.length ys.length) f hz hD (fun i H' hi sm => ⟨xs, ys, xs[i]'(by trivial), ys[i]'(by trivial), h1 H' sm, h2 H' sm, by rw [List.getElem?_eq_getElem (by trivial)], by rw [List.getElem?_eq_getElem (by trivial)]⟩) (fun H' sm => ⟨xs, ys, h1 H' sm, h2 H' sm, by trivial⟩) ?_ hd
  rintro i v H' H'' R hi sm ⟨T, x, y, hT, rfl, rfl, e1, e2⟩ k
  have st := Same.new (o := .tup [x, y]) hT
  exact ⟨T, _, rfl, SqT.of upd_same, rfl, _, _, rfl, _, _, rfl, rfl, hs i x y _ R (e1 _ (h1 H' sm)) (e2 _ (h2 H' sm)) (sm.trans st) fun H4 s4 => k H4 (st.trans s4)⟩
end
end L2
namespace L2
theorem ifS_by {tc : TT} {t u : TS} {D : Ends} {σ : St} {H : Hp} (o1 o0 : Hp → Prop) (hc : ∀ Q : Bool → Hp → Prop, (∀ H', o1 H' → Q true H') → (∀ H', o0 H' → Q false H') → tc σ H Q) (h1 : ∀ H', o1 H' → t D σ H') (h0 : ∀ H', o0 H' → u D σ H') : tIfS tc t u D σ H :=
  hc _ (fun H' o => by rw [if_pos rfl]; exact h1 H' o) fun H' o => by rw [if_neg (by decide)]; exact h0 H' o
theorem joinS {t u : TS} {D : Ends} {σ : St} {H : Hp} (I : St → Hp → Prop) (rest : ∀ σ' H', I σ' H' → u D σ' H') (h : (∀ σ' H', I σ' H' → u D σ' H') → t { D with nx := u D } σ H) : tSeq t u D σ H := h rest
end L2
namespace L2
open PySem PySem.Spec PyProof.Rows
section
variable {X : Cx} {tg : Expr}
inductive rCatTA_ (K : PySem.W.Frag) (x : V) (y : V) (H : Hp) (Q : VK) : Prop
  | mk (a : _) (b : _) (xs : _) (ys : _) (h0 : x = .ref a) (h1 : y = .ref b) (h2 : SqT K H a xs) (h3 : H a = some (.tup xs)) (h4 : SqT K H b ys) (h5 : xs ≠ []) (h6 : xs.length + ys.length ≤ 10000) (h7 : ∀ p H', Same H H' → H' p = some (.tup (xs ++ ys)) → Q (.ref p) H')
def rCatTA (K : PySem.W.Frag) : R2 := fun x y H Q => rCatTA_ K x y H Q
theorem op_catTA {K : PySem.W.Frag} (e : X.K = K := by rfl) : OpR X (binaryOp .Add) (rCatTA K) := by
  subst e
  intro pins s σ H x y v u Q I rx ry h
  obtain ⟨a, b, xs, ys, e1, e2, ha, ha', hb, hx, hz, q⟩ := h
  refine op_catT pins s σ H x y v u Q I rx ry ⟨a, b, xs, ys, e1, e2, ha, hb, hx, sz_of hz, fun z => ?_, fun z p hp => q p _ (Same.new hp) upd_same⟩
  refine q a H (Same.refl _) ?_
  rw [z, List.append_nil]; exact ha'
end
end L2
namespace L2
open PySem PySem.Spec PyProof.Rows
section
variable {X : Cx} {K : PySem.W.Frag} {o e : Expr} {es : List Expr} {to : TE} {t : TA} {name : Str} {apos cpos : Pos} {id : String} {r : V → List V → Hp → VK → Prop}
end
end L2
namespace L2
open PySem PyProof.Rows
section
variable {X : Cx} {elt tg iter : Expr} {ifs : List Expr} {scope : Scope} {pos : Pos} {N' : List Str} {L : Nat} {src : List Nat} {wi : TI} {g : TG} {tt : TT} {te : TE}
end
end L2
namespace HT
open PySem PySem.Spec PyProof.Rows
section
variable {prog : Program} {w : World} {A : Around} {E : Value → Shared → Prop} {s : Shared}
theorem cat_tup0 {t b : Addr} {vs ws : List Value} {Q : Value → Shared → Prop} (ht : IsTup s.heap t vs.toArray) (hb : IsTup s.heap b ws.toArray) (hv : vs = []) (h1 : Q (.ref b) s) : wpAny (model prog w) A (binaryOp .Add (.ref t) (.ref b)) Q E s := by
  obtain ⟨⟨cls, dd, data, sl⟩, ho, hc, n, hd⟩ := id ht
  obtain ⟨⟨cls2, dd2, data2, sl2⟩, ho2, hc2, n2, hd2⟩ := id hb
  simp only at hc hd hc2 hd2
  subst hc hd hc2 hd2
  exact concat_meets ⟨_, ho, rfl⟩ ⟨_, ho2, rfl⟩ noFill_tuple_add seq_tuple_add PySem.F.slot_tuple_add PySem.F.entry_tuple_add (PySem.F.args_tuple_add_2 _ _)
      (tuple_addW0 t b vs.toArray ws.toArray n n2 dd dd2 sl sl2 (by simp [hv])) ⟨ho, ho2, h1⟩
theorem rev_pick (xs : Array Value) : ((List.range xs.size).filterMap fun (k : Nat) => xs[(((xs.size : Int) - 1) + (k : Int) * (-1)).toNat]?).toArray = xs.toList.reverse.toArray := by
  have e : ((List.range xs.size).filterMap fun (k : Nat) => xs[(((xs.size : Int) - 1) + (k : Int) * (-1)).toNat]?) = ((List.range xs.size).map fun k => xs.size - 1 - k).filterMap fun (k : Nat) => xs[k]? := by
    rw [List.filterMap_map]
    have f : (fun (k : Nat) => xs[(((xs.size : Int) - 1) + (k : Int) * (-1)).toNat]?) = ((fun k => xs[k]?) ∘ fun k => xs.size - 1 - k) := by
      funext k
      show _ = xs[xs.size - 1 - k]?
      congr 1
      trivial
    rw [f]
  rw [e, PySem.W.krv_range, List.filterMap_reverse, PySem.W.krv_all]
theorem places_rev (n : Nat) : Builtin.Slice.slicePlaces ((n : Int) - 1) (-1) (-1) = n := by
  unfold Builtin.Slice.slicePlaces
  have h1 : ¬ ((-1 : Int) > 0) := by decide
  simp only [h1, if_false]
  by_cases h : (n : Int) - 1 > -1
  · simp only [h, if_true]
    rw [show (-(-1) : Int) = 1 by decide, Int.ediv_one]
    trivial
  · simp only [h, if_false]
    trivial
theorem sliceApplied_rev {sl : Addr} {vk : Value} {n : Nat} {R : Int × Int × Nat → Shared → Prop} (hs : s.heap.IsSliceOf sl .none .none vk) (pk : IsPart vk (some (-1))) (r : R (((n : Int) - 1), -1, n) s) : wpAny (model prog w) A (Builtin.Slice.sliceApplied (.ref sl) (pure (n : Int))) R E s := by
  obtain ⟨os, hos, hcs, hds⟩ := id hs
  unfold Builtin.Slice.sliceApplied Builtin.Slice.sliceFields
  refine wpAny_bind (wpAny_bind (wpAny_field hos hds (x := .none) rfl (wpAny_bind (wpAny_field hos hds (x := .none) rfl (wpAny_bind (wpAny_field hos hds (x := vk) rfl (wpAny_pure ?_)))))))
  refine wpAny_bind (slicePart_ pk ?_)
  show wpAny _ _ (if ((-1 : Int) == 0) = true then _ else _) _ _ s
  rw [if_neg (by decide)]
  refine wpAny_bind (slicePart_none (wpAny_bind (slicePart_none (wpAny_bind (wpAny_pure ?_)))))
  show wpAny _ _ (pure (((n : Int) - 1), (-1 : Int), Builtin.Slice.slicePlaces ((n : Int) - 1) (-1) (-1))) _ _ s
  rw [places_rev]
  exact wpAny_pure r
theorem getItem_tuple_rev {t sl : Addr} {items : Array Value} {vk : Value} {Q : Value → Shared → Prop} (ht : IsTup s.heap t items) (hs : s.heap.IsSliceOf sl .none .none vk) (pk : IsPart vk (some (-1)))
    (h : Q (.ref s.heap.objs.size) { s with heap := s.heap.push { cls := .type "tuple", data := .seq items.toList.reverse.toArray } })
    (hsz : items.size ≤ sizeLine) : wpAny (model prog w) A (getItem (.ref t) (.ref sl)) Q E s := by
  have htake : sizeOk (.seq items.toList.reverse.toArray) := by
    show items.toList.reverse.toArray.size ≤ sizeLine
    rw [List.size_toArray, List.length_reverse, Array.length_toList]
    exact hsz
  obtain ⟨os, hos, hcs, hds⟩ := id hs
  have hTs : s.TypeIs (.ref sl) "slice" := ⟨os, hos, hcs⟩
  unfold getItem
  try with_reducible refine wpAny_holding ?_
  first | refine wpAny_bind (wpAny_pure ?_) | skip
  refine wpAny_bind (wpAny_sequenceKey ht.typeIs (by decide) ?_)
  refine wpAny_bind (wpAny_callSpecial?_slot (name := Str.ofString "__getitem__") ht.typeIs PyProof.Rows.slot_tuple_getitem
    (wpAny_call_entry PyProof.Rows.slot_tuple_getitem ht.typeIs entry_tuple_getitem ?_ (args_tuple_getitem _ _)))
  show wpAny _ _ (Builtin.Tuple.tupleItemsOf (.ref t) >>= _) _ _ s
  refine wpAny_bind (tupleItemsOf_ ht ?_)
  refine wpAny_bind (wpAny_typeOf hTs ?_)
  rw [if_pos (by decide)]
  refine wpAny_bind (sliceApplied_rev hs pk ?_)
  have hno : ¬ ((((items.size : Int) - 1) == 0 && (-1 : Int) == 1 && items.size == items.size) = true) := by
    intro q
    rw [Bool.and_eq_true, Bool.and_eq_true] at q
    exact absurd q.1.2 (by decide)
  show wpAny _ _ (if (((items.size : Int) - 1) == 0 && (-1 : Int) == 1 && items.size == items.size) = true then _ else _) _ _ s
  rw [if_neg hno, rev_pick]
  first
    | exact wpAny_bind (m := Builtin.Tuple.tupleExact _) (wpAny_newObj_type (wpAny_pure ⟨_, rfl, wpAny_pure h⟩) htake)
    | exact wpAny_bind (m := Builtin.Tuple.tupleExact _) (wpAny_newObj_type (wpAny_bind (wpAny_pure (wpAny_pure ⟨_, rfl, wpAny_pure h⟩))) htake)
end
end HT
namespace L2
open PySem PySem.Spec PyProof.Rows
section
variable {X : Cx} {K : PySem.W.Frag}
theorem txt_upper (x : Str) (h : ∀ c ∈ x.cps.toList, c < 128) : (Txt.upper x).length = x.length ∧ ∀ c ∈ (Txt.upper x).cps.toList, c < 128 := by
  obtain ⟨l, rfl⟩ : ∃ l, x = S l := ⟨_, (S_self x).symm⟩
  rw [S_list] at h
  have key : ∀ l : List Nat, (∀ c ∈ l, c < 128) → ∃ m : List Nat, Txt.upper (S l) = S m ∧ m.length = l.length ∧ ∀ c ∈ m, c < 128 := by
    intro l
    induction l with
    | nil => exact fun _ => ⟨[], by decide +kernel, rfl, fun c hc => by cases hc⟩
    | cons c r ih =>
      intro h
      obtain ⟨m, e, lm, hm⟩ := ih fun d hd => h d (List.mem_cons_of_mem _ hd)
      have hc := h c (by simp)
      refine ⟨(if 97 ≤ c ∧ c ≤ 122 then c - 32 else c) :: m, ?_, by simp [lm], fun d hd => ?_⟩
      · have e1 : S (c :: r) = (⟨#[c]⟩ : Str) ++ S r := S_app [c] r |>.symm
        rw [e1, PySem.W.KOpn.upper_app, PySem.W.KOpn.upper_one hc, e]
        exact S_app [if 97 ≤ c ∧ c ≤ 122 then c - 32 else c] m
      · rcases List.mem_cons.mp hd with rfl | hd
        · split <;> trivial
        · exact hm d hd
  obtain ⟨m, e, lm, hm⟩ := key l h
  rw [e, S_len, S_len, S_list]
  exact ⟨lm, hm⟩
inductive rUpT_ (x : V) (vs : List V) (H : Hp) (Q : VK) : Prop
  | mk (a : _) (m : _) (h0 : x = .str a) (h1 : vs = []) (h2 : txt m a) (h3 : m ≤ 10000) (h4 : ∀ c, txt m c → Q (.str c) H)
def rUpT : V → List V → Hp → VK → Prop := fun x vs H Q => rUpT_  x vs H Q
theorem mt_upper : MtR X "str.upper" rUpT := by
  intro pins s σ H x vs v us Q I rx rv h
  obtain ⟨a, m, rfl, rfl, ta, hm, q⟩ := h
  obtain ⟨t, rfl⟩ := rx
  cases rv
  have u := txt_upper a ta.2
  refine PyProof.Rows.SCL.upper (by have := ta.1; trivial) fun _ => ⟨.str _, H, I.tok _, ⟨_, rfl⟩, q _ ⟨by rw [u.1]; exact ta.1, u.2⟩⟩
def Ob (c : Bool) (H : Hp) (a : Addr) (xs : List V) : Prop := H a = some (if c = true then .lst xs else .tup xs)
theorem Ob.sm {c : Bool} {H H' : Hp} {a : Addr} {xs : List V} (h : Ob c H a xs) (s : Same H H') : Ob c H' a xs := s _ _ h
inductive rSlX_ (x : V) (lo : Option Int) (hi : Option Int) (H : Hp) (Q : VK) : Prop
  | mk (c : _) (a : _) (xs : _) (h0 : x = .ref a) (h1 : Ob c H a xs) (h2 : ∀ p H', Same H H' → Ob c H' p (cutV xs lo hi) → (c = true → H p = none) → Q (.ref p) H')
def rSlX : V → Option Int → Option Int → Hp → VK → Prop := fun x lo hi H Q => rSlX_  x lo hi H Q
theorem sl_X : SlR X rSlX := by
  intro pins s σ H x v vl vu lo hi sl Q I rx hs pl pu h
  obtain ⟨c, a, xs, e, hx, q⟩ := h
  cases c with
  | true => exact sl_listA rfl pins s σ H x v vl vu lo hi sl Q I rx hs pl pu ⟨a, xs, e, SqL.of hx, fun p H' n => q p H' n.sm n.at' fun _ => n.fr⟩
  | false => exact sl_tupA rfl pins s σ H x v vl vu lo hi sl Q I rx hs pl pu ⟨a, xs, e, SqT.of hx, hx, fun p H' s' h' => q p H' s' h' fun z => (by cases z)⟩
inductive rCatX_ (x : V) (y : V) (H : Hp) (Q : VK) : Prop
  | mk (c : _) (a : _) (b : _) (xs : _) (ys : _) (h0 : x = .ref a) (h1 : y = .ref b) (h2 : Ob c H a xs) (h3 : Ob c H b ys) (h4 : xs.length + ys.length ≤ 10000) (h5 : ∀ p H', Same H H' → Ob c H' p (xs ++ ys) → (c = true → H p = none) → Q (.ref p) H')
def rCatX : R2 := fun x y H Q => rCatX_  x y H Q
theorem op_catX : OpR X (binaryOp .Add) rCatX := by
  intro pins s σ H x y v u Q I rx ry h
  obtain ⟨c, a, b, xs, ys, e1, e2, ha, hb, hz, q⟩ := h
  cases c with
  | true => exact op_catA pins s σ H x y v u Q I rx ry ⟨a, b, xs, ys, e1, e2, ha, hb, hz, fun p H' n => q p H' n.sm n.at' fun _ => n.fr⟩
  | false =>
    by_cases hx : xs = []
    · subst e1 e2
      cases rx
      cases ry
      obtain ⟨its, r1, p1, _⟩ := I.tuple (SqT.of ha)
      obtain ⟨its2, r2, p2, _⟩ := I.tuple (SqT.of hb)
      refine HT.cat_tup0 p1 p2 (r1.nil_iff.mpr hx) ⟨.ref b, H, I, rfl, q b H (Same.refl _) ?_ fun z => (by cases z)⟩
      rw [hx]; exact hb
    · exact op_catTA rfl pins s σ H x y v u Q I rx ry ⟨a, b, xs, ys, e1, e2, SqT.of ha, ha, SqT.of hb, hx, hz, fun p H' s' h' => q p H' s' h' fun z => (by cases z)⟩
end
section
variable {X : Cx} {e : Expr} {te : TE} {st : Expr} {ts : TO} {p2 pos : Pos}
def rRevX : V → Hp → VK → Prop := fun x H Q => (Ex2 fun a m => x = .str a ∧ txt m a ∧ m ≤ 10000 ∧ ∀ c, txt m c → Q (.str c) H) ∨
  Ex3 fun c a xs => x = .ref a ∧ Ob c H a xs ∧ ∀ p H', Same H H' → Ob c H' p xs.reverse → H p = none → Q (.ref p) H'
def tRevX (te : TE) (ts : TO) : TE := fun σ H Q => te σ H fun x H1 => ts σ H1 fun k H2 => k = some (-1) ∧ rRevX x H2 Q
theorem pe_revX (he : PE X e te) (hst : PO X (some st) ts) : PE X (.Subscript e (.Slice none none (some st) p2) pos) (tRevX te ts) := by
  intro pins s σ H Q I h
  refine Subscript_ (thn (he pins s σ H _ I h) fun v s1 ⟨x, H1, I1, r1, q1⟩ => ?_)
  refine wpAny_Slice ?_
  rw [evalPart_none]
  refine wpAny_pure (wpAny_pure (thn (hst pins s1 σ H1 _ I1 q1) fun vs s3 ⟨k, H3, I3, pk, q3⟩ => ?_))
  obtain ⟨rfl, q3⟩ := q3
  have I4 : Inv X pins σ H3 { s3 with heap := s3.heap.push { cls := .type "slice", data := .fields #[.none, .none, vs] } } := I3.kept (t' := s3.toks) fun b ob q => Heap.get?_push_of_some _ q
  rcases q3 with ⟨a, m, rfl, ta, hm, q⟩ | ⟨c, a, xs, rfl, hx, q⟩
  · obtain ⟨t, rfl⟩ := r1
    obtain ⟨tk, ei⟩ : ∃ (tk : Tok), vs = .int (-1) tk := by
      cases pk with
      | int i t => exact ⟨t, rfl⟩
    subst ei
    show wpAny (model X.prog X.w) X.A (subscriptTail e (.Slice none none (some st) p2) (.str a t) (.ref s3.heap.objs.size)) (EP X pins σ Q) X.xe { s3 with heap := s3.heap.push { cls := .type "slice", data := .fields #[.none, .none, .int (-1) tk] } }
    refine tail_any (ops := [.str a t, .ref s3.heap.objs.size]) (typeIs_str _ a t) F.slot_str_getitem.lookup ?_ (by with_unfolding_all rfl)
    refine wpAny_getItem_str_slice (l := none) (u := none) (st := some (-1, tk)) ⟨_, Heap.get?_push_size _ rfl, rfl, rfl⟩ rfl ?_
    unfold sliceMade
    rw [if_neg (by intro z; rw [Bool.and_eq_true] at z; exact absurd z.1 (by show ¬ (((-1 : Int) == 1) = true); decide))]
    have ep : slicePicked a none none (some (-1, tk)) = (List.range a.length).reverse := by
      show Builtin.Str.strSliceIndices none none (-1) a.length = _
      unfold Builtin.Str.strSliceIndices
      show sliceRange ((a.length : Int) - 1) (-1) (-1) = _
      rw [PySem.W.krv_sliceRange, PySem.W.krv_range]
    rw [ep]
    have er : ((List.range a.length).reverse.filterMap fun x => a.cps[x]?) = a.cps.toList.reverse := by
      rw [List.filterMap_reverse]
      exact congrArg List.reverse (PySem.W.krv_all a.cps)
    rw [er]
    have hl : (⟨a.cps.toList.reverse.toArray⟩ : Str).length = a.length := by
      show a.cps.toList.reverse.toArray.size = _
      simp; rfl
    refine ⟨?_, .str ⟨_⟩, H3, I4.tok _, ⟨_, rfl⟩, q _ ⟨by rw [hl]; exact ta.1, fun c hc => ta.2 c (by simpa using hc)⟩⟩
    show (⟨a.cps.toList.reverse.toArray⟩ : Str).length ≤ _
    rw [hl]
    exact Nat.le_trans ta.1 (sz_of hm)
  · cases r1
    cases c with
    | true =>
      obtain ⟨its, r, ht, hz⟩ := I4.list (SqL.of hx)
      have hlen := r.length
      show wpAny (model X.prog X.w) X.A (subscriptTail e (.Slice none none (some st) p2) (.ref a) (.ref s3.heap.objs.size)) (EP X pins σ Q) X.xe { s3 with heap := s3.heap.push { cls := .type "slice", data := .fields #[.none, .none, vs] } }
      refine tail_any (ops := [.ref a, .ref s3.heap.objs.size]) ht.isList.typeIs slot_list_getitem.lookup ?_ (by with_unfolding_all rfl)
      refine wpAny_getItem_list_slice ht.isList (Heap.IsSliceOf.new ..) .none .none pk (by decide) ?_ (by rw [List.size_toArray] <;> trivial)
      rw [PySem.W.krv_pick]
      have hf := I4.hok.fresh (Nat.le_refl _)
      refine ⟨.ref (s3.heap.push { cls := .type "slice", data := .fields #[.none, .none, vs] }).objs.size, _, I4.laid (t' := s3.toks) (o := .lst xs.reverse) (fun b ob q => Heap.get?_push_of_some _ q) (Nat.le_refl _) ?_, rfl, q _ _ (Same.new hf) upd_same hf⟩
      exact ⟨by rw [List.length_reverse]; exact hz, _, 0, r.rev, Heap.get?_push_size _ rfl⟩
    | false =>
      obtain ⟨its, r, ht, hz⟩ := I4.tuple (SqT.of hx)
      have hlen := r.length
      show wpAny (model X.prog X.w) X.A (subscriptTail e (.Slice none none (some st) p2) (.ref a) (.ref s3.heap.objs.size)) (EP X pins σ Q) X.xe { s3 with heap := s3.heap.push { cls := .type "slice", data := .fields #[.none, .none, vs] } }
      refine tail_any (ops := [.ref a, .ref s3.heap.objs.size]) ht.typeIs PyProof.Rows.slot_tuple_getitem.lookup ?_ (by with_unfolding_all rfl)
      have hf := I4.hok.fresh (Nat.le_refl _)
      refine HT.getItem_tuple_rev ht (Heap.IsSliceOf.new ..) pk ?_ (by rw [List.size_toArray] <;> trivial)
      refine ⟨.ref (s3.heap.push { cls := .type "slice", data := .fields #[.none, .none, vs] }).objs.size, _, I4.laid (t' := s3.toks) (o := .tup xs.reverse) (fun b ob q => Heap.get?_push_of_some _ q) (Nat.le_refl _) ?_, rfl, q _ _ (Same.new hf) upd_same hf⟩
      exact ⟨by rw [List.length_reverse]; exact hz, _, r.rev, IsTup.new _ _, _, Heap.get?_push_size _ rfl, rfl⟩
end
end L2
namespace L2
open PySem PySem.Spec PyProof.Rows
def isBigB : PyData → Bool
  | .none => false
  | .dict _ => false
  | _ => true
theorem kitAny_big {K : PySem.W.Frag} (d : PyData) : PySem.W.kitAny K (.type (tyN d)) [.type "int", .type "str", .type "list", .type "tuple"] = some (isBigB d) := by
  unfold PySem.W.kitAny PySem.W.kitAny PySem.W.kitAny PySem.W.kitAny PySem.W.kitAny
  rw [kit_int, kit_str, kit_list, kit_tuple]
  cases d <;> rfl
inductive rIsiF_ (K : PySem.W.Frag) (xs : List V) (H : Hp) (Q : VK) : Prop
  | mk (x : V) (p : Addr) (d : PyData) (E : Addr → Prop) (h0 : xs = [x, .ref p]) (h1 : IsD E H x d) (h2 : SqT K H p [.ty "int", .ty "str", .ty "list", .ty "tuple"]) (h3 : Q (.bl (isBigB d)) H)
def rIsiF (K : PySem.W.Frag) : List V → Hp → VK → Prop := fun xs H Q => rIsiF_ K xs H Q
theorem isinstF {X : Cx} {K : PySem.W.Frag} (ek : X.K = K := by rfl) : CallR X (.builtin "isinstance") (rIsiF K) := by
  subst ek
  intro pins s σ H xs us Q I r h
  obtain ⟨x, p, d, E, rfl, hx, hp, q⟩ := h
  obtain ⟨u, c, rfl, ru, rc⟩ := r.two
  obtain rfl : c = Value.ref p := rc
  obtain ⟨its, rv, ⟨o, e1, e2, n, e3⟩, _⟩ := I.tuple hp
  cases rv with
  | cons r1 rv =>
  cases rv with
  | cons r2 rv =>
  cases rv with
  | cons r3 rv =>
  cases rv with
  | cons r4 rv =>
  cases rv
  obtain rfl : _ = Value.type "int" := r1
  obtain rfl : _ = Value.type "str" := r2
  obtain rfl : _ = Value.type "list" := r3
  obtain rfl : _ = Value.type "tuple" := r4
  have q' : ∀ tk, EP X pins σ Q (.bool (isBigB d)) { s with toks := tk } := fun tk => ⟨.bl _, H, I.tok tk, rfl, q⟩
  obtain ⟨oc, od, odt, osl⟩ := o
  dsimp only at e2 e3
  subst e2 e3
  cases hx with
  | non => cases (show u = Value.none from ru); exact PySem.W.kia_tup PySem.W.kitx_none I.kIn True.intro e1 (kitAny_big .none) (fun z => nomatch z) q'
  | bl y => cases (show u = Value.bool y from ru); exact PySem.W.kia_tup PySem.W.kitx_bool I.kIn True.intro e1 (kitAny_big (.bool y)) (fun z => nomatch z) q'
  | int i => obtain ⟨t, w⟩ := (show ∃ t, u = Value.int i t from ru); cases w; exact PySem.W.kia_tup PySem.W.kitx_int I.kIn True.intro e1 (kitAny_big (.int i)) (fun z => nomatch z) q'
  | str y => obtain ⟨t, w⟩ := (show ∃ t, u = Value.str y t from ru); cases w; exact PySem.W.kia_tup PySem.W.kitx_str I.kIn True.intro e1 (kitAny_big (.str y)) (fun z => nomatch z) q'
  | @lst a xs ds ea _ _ =>
    cases (show u = Value.ref a from ru)
    obtain ⟨_, _, m, _, h1⟩ := (show ObjOk X.prog X.w H s.heap a (.lst xs) from I.hok a _ ea)
    exact PySem.W.kia_tup PySem.W.kitx_list I.kIn ⟨_, h1, rfl⟩ e1 (kitAny_big (.list ds)) (fun z => nomatch z) q'
  | @tup a xs ds ea _ =>
    cases (show u = Value.ref a from ru)
    obtain ⟨_, _, _, p, _⟩ := (show ObjOk X.prog X.w H s.heap a (.tup xs) from I.hok a _ ea)
    obtain ⟨o, h1, h2, _⟩ := p
    exact PySem.W.kia_tup PySem.W.kitx_tuple I.kIn ⟨o, h1, h2⟩ e1 (kitAny_big (.tuple ds)) (fun z => nomatch z) q'
theorem txt_int {i : Int} {k : Nat} (hk : 0 < k) (h : i.natAbs < 10 ^ k) : txt (k + 1) ((toString i : String) : Str) := by
  refine ⟨?_, fun c hc => ?_⟩
  · show (Str.ofString (toString i)).length ≤ _
    rw [PySem.ofString_length]
    exact int_text_length_le10 hk h
  · rw [signs_ofString] at hc
    obtain ⟨ch, hch, rfl⟩ := List.mem_map.mp hc
    rcases int_sign i ch hch with hd | hd
    · have := digit_range hd
      trivial
    · subst hd
      decide
end L2
namespace L2
open PySem PySem.Spec PyProof.Rows
def TuS (H H' : Hp) : Prop := ∀ a us, H a = some (.tup us) → H' a = some (.tup us)
section
variable {H H' H'' : Hp} {z n k m : Nat} {v : V} {E : Addr → Prop} {b th th' p : Addr} {xs ys zs : List V}
theorem SameE.tp (s : SameE E H H') : TuS H H' := s.tup
theorem TuS.trans (a : TuS H H') (b : TuS H' H'') : TuS H H'' := fun x us h => b x us (a x us h)
theorem Ds.narrow {F : Addr → Prop} (h : Ds z E H xs n k) (hF : ∀ a, F a → E a) : Ds z F H xs n k := by obtain ⟨d, a, b⟩ := h; exact ⟨d, a.narrow hF, b⟩
theorem Ds.mem (h : Ds z E H xs n k) (hv : v ∈ xs) : Dt z E H v n k := by
  obtain ⟨d, a, b⟩ := h
  obtain ⟨i, e⟩ := List.getElem?_of_mem hv
  obtain ⟨dx, e1, g⟩ := a.get e
  exact ⟨dx, g, b.get e1⟩
def Et (b th : Addr) : Addr → Prop := fun a => a = b ∨ a = th
theorem Dt.rel (h : Dt z (Et b th) H v n k) (f : H th' = none) : Dt z (Et b th') H v n k := (h.plus f).narrow fun _ ha => ha.elim (fun e => .inl (.inl e)) .inr
end
section
variable {E : Addr → Prop} {z : Nat} {H0 : Hp} {σ : St} {n k m : Nat} {te tb : TE} {ta : TA} {v : V} {i : Nat} {p : Addr} {xs : List V} {K : PySem.W.Frag}
def Ev (E : Addr → Prop) (z : Nat) (H0 : Hp) (te : TE) (σ : St) (n k : Nat) : Prop := ∀ H (Q : VK), Same H0 H → (∀ v H', Same H H' → Dt z E H' v n k → Q v H') → te σ H Q
def EvA (E : Addr → Prop) (z : Nat) (H0 : Hp) (ta : TA) (σ : St) (n k : Nat) : Prop := ∀ H (Q : List V → Hp → Prop), Same H0 H → (∀ vs H', Same H H' → Ds z E H' vs n k → Q vs H') → ta σ H Q
def EvT (E : Addr → Prop) (z : Nat) (H0 : Hp) (te : TE) (σ : St) (n k : Nat) : Prop := ∀ H (Q : VK), Same H0 H → (∀ p xs H', Same H H' → H' p = some (.tup xs) → Ds z E H' xs n k → Q (.ref p) H') → te σ H Q
theorem EvA.nil : EvA E z H0 tNil σ 0 k := fun H Q s q => q [] H (Same.refl _) Ds.nil
theorem EvA.cons (h : Ev E z H0 te σ n k) (g : EvA E z H0 ta σ m k) : EvA E z H0 (tCons te ta) σ (n + m) k := fun H Q s q =>
  h H _ s fun v H1 s1 d1 => g H1 _ (s.trans s1) fun vs H2 s2 d2 => q (v :: vs) H2 (s1.trans s2) (Ds.cons (d1.sm s2) d2)
theorem EvA.up {n' k' : Nat} (h : EvA E z H0 ta σ n k) (hn : n ≤ n') (hk : k ≤ k') : EvA E z H0 ta σ n' k' := fun H Q s q => h H Q s fun vs H' s' d => q vs H' s' (d.up hn hk)
theorem Ev.up {n' k' : Nat} (h : Ev E z H0 te σ n k) (hn : n ≤ n') (hk : k ≤ k') : Ev E z H0 te σ n' k' := fun H Q s q => h H Q s fun v H' s' d => q v H' s' (d.up hn hk)
theorem EvT.lit (h : EvA E z H0 ta σ n k) (hn : n ≤ 10000) : EvT E z H0 (tTupA ta) σ n k := fun H Q s q =>
  h H _ s fun vs H1 s1 d1 => ⟨Nat.le_trans d1.len hn, fun p H2 n2 => q p vs H2 (s1.trans n2.sm) n2.at' (d1.sm n2.sm)⟩
theorem Ev.ofT (h : EvT E z H0 te σ n k) : Ev E z H0 te σ (n + 1) (k + 1) := fun H Q s q => h H Q s fun p xs H1 s1 e d => q (.ref p) H1 s1 (Dt.tup e d)
theorem Ev.tup (h : EvA E z H0 ta σ n k) (hn : n ≤ 10000) : Ev E z H0 (tTupA ta) σ (n + 1) (k + 1) := .ofT (.lit h hn)
theorem Ev.lst (al : Al E H0) (h : EvA E z H0 ta σ n k) (hn : n ≤ 10000) : Ev E z H0 (tLstA ta) σ (n + 1) (k + 1) := fun H Q s q =>
  h H _ s fun vs H1 s1 d1 => ⟨Nat.le_trans d1.len hn, fun p H2 n2 => q (.ref p) H2 (s1.trans n2.sm) (Dt.lst n2.at' ((al.sm (s.trans s1)).ne n2.fr) (d1.sm n2.sm))⟩
theorem Ev.con (h : ∀ H, Dt z E H v n k) : Ev E z H0 (tC v) σ n k := fun H Q s q => q v H (Same.refl _) (h H)
theorem Ev.var (i : Nat) (e : σ[i]? = some (some v)) (h : ∀ H, Same H0 H → Dt z E H v n k) : Ev E z H0 (tVar i) σ n k := fun H Q s q => ⟨v, e, q v H (Same.refl _) (h H s)⟩
theorem EvT.var (i : Nat) (e : σ[i]? = some (some (.ref p))) (hp : H0 p = some (.tup xs)) (h : ∀ H, Same H0 H → Ds z E H xs n k) : EvT E z H0 (tVar i) σ n k := fun H Q s q => ⟨_, e, q p xs H (Same.refl _) (s _ _ hp) (h H s)⟩
theorem EvT.cat (h : EvT E z H0 te σ n k) (g : EvT E z H0 tb σ m k) (hn : n + m ≤ 10000) : EvT E z H0 (tOp rCatX te tb) σ (n + m) k := fun H Q s q =>
  h H _ s fun p xs H1 s1 e1 d1 => g H1 _ (s.trans s1) fun p2 ys H2 s2 e2 d2 => ⟨false, p, p2, xs, ys, rfl, rfl, s2 _ _ e1, e2, by have := d1.len; have := d2.len; trivial, fun p3 H3 s3 e3 _ =>
    q p3 _ H3 ((s1.trans s2).trans s3) e3 (((d1.sm s2).append d2).sm s3)⟩
theorem EvT.from (j : Int) (h : EvT E z H0 te σ n k) : EvT E z H0 (tSl rSlX te (tPart (tC (.int j))) tNoPart) σ n k := fun H Q s q =>
  h H _ s fun p xs H1 s1 e1 d1 => ⟨j, rfl, false, p, xs, rfl, e1, fun p3 H3 s3 e3 _ => q p3 _ H3 (s1.trans s3) e3 ((d1.cut _ _).sm s3)⟩
theorem Ev.listOf (i : Nat) (al : Al E H0) (e : σ[i]? = some (some (.ref p))) (hp : H0 p = some (.tup xs)) (h : ∀ H, Same H0 H → Ds z E H xs n k) : Ev E z H0 (tCB (rListA K) (tCons (tVar i) tNil)) σ (n + 1) (k + 1) := fun H Q s q =>
  ⟨_, e, p, xs, rfl, .inr (SqT.of (s _ _ hp)), fun l H2 n2 => q (.ref l) H2 n2.sm (Dt.lst n2.at' ((al.sm s).ne n2.fr) ((h H s).sm n2.sm))⟩
end
section
variable {b th : Addr} {H0 : Hp} {σ : St} {zs : List V} {ta : TA} {te : TE} {n i : Nat} {Q : VK} {K : PySem.W.Frag}
def Th (b th : Addr) (H : Hp) (zs : List V) : Prop := H th = some (.lst zs) ∧ th ≠ b ∧ H b ≠ none ∧ ∀ v ∈ zs, Dt 4 (Et b th) H v 2960 8
theorem Th.al (h : Th b th H0 zs) : Al (Et b th) H0 := fun a ha z => ha.elim (fun e => h.2.2.1 (by rw [← e]; exact z)) (fun e => by rw [e, h.1] at z; cases z)
theorem keep_some {H : Hp} (h : H0 b ≠ none) (s : Same H0 H) : H b ≠ none := fun z => by
  cases q : H0 b with
  | none => exact h q
  | some o => rw [s _ _ q] at z; cases z
theorem th_new (hb : H0 b ≠ none) (ev : EvA (Et b b) 4 H0 ta σ n 8) (hn : n ≤ 2960) (q : ∀ th H' zs, Same H0 H' → H0 th = none → Th b th H' zs → zs.length ≤ n → Q (.ref th) H') : tLstA ta σ H0 Q := by
  refine ev H0 _ (Same.refl _) fun vs H1 s1 d1 => ⟨by have := d1.len; trivial, fun p H2 n2 => ?_⟩
  have hb1 : H1 b ≠ none := keep_some hb s1
  exact q p H2 vs (s1.trans n2.sm) (s1.free n2.fr) ⟨n2.at', fun z => hb1 (by rw [← z]; exact n2.fr), keep_some hb1 n2.sm, fun v hv => (((d1.mem hv).up hn (Nat.le_refl _)).rel n2.fr).sm n2.sm⟩ d1.len
end
end L2
namespace L2
open PySem PySem.Spec PyProof.Rows
theorem seqA {te : TE} {i : Nat} {u : TS} {D : Ends} {σ : St} {H : Hp} (h : ∀ Q : VK, (∀ v H', u D (σ.set i (some v)) H' → Q v H') → te σ H Q) : tSeq (tAsg te (gName i)) u D σ H := h _ fun _ _ z => z
theorem seqP {ta : TA} {i j : Nat} {u : TS} {D : Ends} {σ : St} {H : Hp} (h : ∀ Q : List V → Hp → Prop, (∀ v w H', u D ((σ.set i (some v)).set j (some w)) H' → Q [v, w] H') → ta σ H Q) : tSeq (tPar i j ta) u D σ H := h _ fun _ _ _ z => ⟨_, _, rfl, z⟩
theorem dropQ {te : TE} {D : Ends} {σ : St} {H : Hp} (h : ∀ Q : VK, (∀ v H', D.nx σ H' → Q v H') → te σ H Q) : tDrop te D σ H := h _ fun _ _ z => z
theorem len1 {α : Type} {P : List α → Prop} (h : ∀ a, P [a]) : ∀ us : List α, us.length = 1 → P us := fun us hl => by
  cases us with
  | nil => cases hl
  | cons a r => cases r with
    | nil => exact h a
    | cons b r => simp at hl
theorem len2 {α : Type} {P : List α → Prop} (h : ∀ a b, P [a, b]) : ∀ us : List α, us.length = 2 → P us := fun us hl => by
  cases us with
  | nil => cases hl
  | cons a r => exact len1 (P := fun r => P (a :: r)) (fun b => h a b) r (by simpa using hl)
theorem len3 {α : Type} {P : List α → Prop} (h : ∀ a b c, P [a, b, c]) : ∀ us : List α, us.length = 3 → P us := fun us hl => by
  cases us with
  | nil => cases hl
  | cons a r => exact len2 (P := fun r => P (a :: r)) (fun b c => h a b c) r (by simpa using hl)
end L2
set_option maxHeartbeats 4000000
namespace K46
open PySem L2
def top (i : Nat) : Stmt := PySem.Challenge.pw_gainroads_k46_what_a_sending_is.main.body.getD i (.Pass ⟨0, 0, 0, 0⟩)
abbrev s_is_number : Stmt := top 1
abbrev s_common_divisor : Stmt := top 2
abbrev s_is_fraction : Stmt := top 3
abbrev s_is_from_nought : Stmt := top 4
abbrev s_fraction : Stmt := top 5
abbrev s_added : Stmt := top 6
abbrev s_compared : Stmt := top 7
abbrev s_sum_of : Stmt := top 8
abbrev s_goes_within : Stmt := top 10
abbrev s_is_tuple_of : Stmt := top 12
abbrev s_are_within : Stmt := top 13
abbrev s_goes_together : Stmt := top 14
abbrev s_is_sending : Stmt := top 15
abbrev s_l_box : Stmt := top 17
abbrev s_l_take : Stmt := top 18
abbrev s_l_folded : Stmt := top 19
abbrev s_l_frac : Stmt := top 20
abbrev s_l_sum : Stmt := top 21
abbrev s_l_product : Stmt := top 22
abbrev s_l_above : Stmt := top 23
abbrev s_l_names_by : Stmt := top 24
abbrev s_l_any_gain : Stmt := top 25
abbrev s_l_any_much : Stmt := top 26
abbrev s_l_plan_by : Stmt := top 27
abbrev s_l_one_of : Stmt := top 28
abbrev s_l_amount_by : Stmt := top 29
abbrev s_l_twice : Stmt := top 30
abbrev s_l_paths_in : Stmt := top 31
abbrev s_l_odd_by : Stmt := top 32
abbrev s_l_with : Stmt := top 33
abbrev s_l_spoilt : Stmt := top 34
abbrev s_l_is_fraction : Stmt := top 35
abbrev s_l_are_parts : Stmt := top 36
abbrev s_l_is_sending : Stmt := top 37
abbrev s_l_part_of : Stmt := top 38
abbrev s_l_any_sending : Stmt := top 39
abbrev s_l_brims : Stmt := top 40
abbrev s_law : Stmt := top 41
theorem sc_is_number : FnScope ["thing"] ["thing"] (defScope s_is_number) := ⟨rfl, rfl, rfl, by decide +kernel, rfl, by decide +kernel, by decide +kernel⟩
theorem sc_common_divisor : FnScope ["n", "d"] ["n", "d"] (defScope s_common_divisor) := ⟨rfl, rfl, rfl, by decide +kernel, rfl, by decide +kernel, by decide +kernel⟩
theorem sc_is_fraction : FnScope ["thing", "n", "d"] ["thing"] (defScope s_is_fraction) := ⟨rfl, rfl, rfl, by decide +kernel, rfl, by decide +kernel, by decide +kernel⟩
theorem sc_is_from_nought : FnScope ["thing"] ["thing"] (defScope s_is_from_nought) := ⟨rfl, rfl, rfl, by decide +kernel, rfl, by decide +kernel, by decide +kernel⟩
theorem sc_fraction : FnScope ["n", "d", "divisor"] ["n", "d"] (defScope s_fraction) := ⟨rfl, rfl, rfl, by decide +kernel, rfl, by decide +kernel, by decide +kernel⟩
theorem sc_added : FnScope ["one", "other"] ["one", "other"] (defScope s_added) := ⟨rfl, rfl, rfl, by decide +kernel, rfl, by decide +kernel, by decide +kernel⟩
theorem sc_compared : FnScope ["one", "other", "left", "right"] ["one", "other"] (defScope s_compared) := ⟨rfl, rfl, rfl, by decide +kernel, rfl, by decide +kernel, by decide +kernel⟩
theorem sc_sum_of : FnScope ["parts", "total", "part"] ["parts"] (defScope s_sum_of) := ⟨rfl, rfl, rfl, by decide +kernel, rfl, by decide +kernel, by decide +kernel⟩
theorem sc_goes_within : FnScope ["thing", "most"] ["thing", "most"] (defScope s_goes_within) := ⟨rfl, rfl, rfl, by decide +kernel, rfl, by decide +kernel, by decide +kernel⟩
theorem sc_is_tuple_of : FnScope ["thing", "size"] ["thing", "size"] (defScope s_is_tuple_of) := ⟨rfl, rfl, rfl, by decide +kernel, rfl, by decide +kernel, by decide +kernel⟩
theorem sc_are_within : FnScope ["thing", "mosts"] ["thing", "mosts"] (defScope s_are_within) := ⟨rfl, rfl, rfl, by decide +kernel, rfl, by decide +kernel, by decide +kernel⟩
theorem sc_goes_together : FnScope ["thing", "size", "most"] ["thing", "size", "most"] (defScope s_goes_together) := ⟨rfl, rfl, rfl, by decide +kernel, rfl, by decide +kernel, by decide +kernel⟩
theorem sc_is_sending : FnScope ["plan", "thing", "places", "stuffs", "ties", "turners", "wells", "wishes", "goes", "turns", "draws"] ["plan", "thing"] (defScope s_is_sending) := ⟨rfl, rfl, rfl, by decide +kernel, rfl, by decide +kernel, by decide +kernel⟩
theorem sc_l_box : FnScope ["_law_script", "_law_k", "_law_cell"] ["_law_script", "_law_k"] (defScope s_l_box) := ⟨rfl, rfl, rfl, by decide +kernel, rfl, by decide +kernel, by decide +kernel⟩
theorem sc_l_take : FnScope ["_law_box_here", "_law_many", "_law_found", "_law_once"] ["_law_box_here", "_law_many"] (defScope s_l_take) := ⟨rfl, rfl, rfl, by decide +kernel, rfl, by decide +kernel, by decide +kernel⟩
theorem sc_l_folded : FnScope ["_law_script", "_law_many", "_law_cells", "_law_k", "_law_cell"] ["_law_script", "_law_many"] (defScope s_l_folded) := ⟨rfl, rfl, rfl, by decide +kernel, rfl, by decide +kernel, by decide +kernel⟩
theorem sc_l_frac : FnScope ["_law_n", "_law_d", "_law_one", "_law_other"] ["_law_n", "_law_d"] (defScope s_l_frac) := ⟨rfl, rfl, rfl, by decide +kernel, rfl, by decide +kernel, by decide +kernel⟩
theorem sc_l_sum : FnScope ["_law_one", "_law_other"] ["_law_one", "_law_other"] (defScope s_l_sum) := ⟨rfl, rfl, rfl, by decide +kernel, rfl, by decide +kernel, by decide +kernel⟩
theorem sc_l_product : FnScope ["_law_one", "_law_other"] ["_law_one", "_law_other"] (defScope s_l_product) := ⟨rfl, rfl, rfl, by decide +kernel, rfl, by decide +kernel, by decide +kernel⟩
theorem sc_l_above : FnScope ["_law_one", "_law_other"] ["_law_one", "_law_other"] (defScope s_l_above) := ⟨rfl, rfl, rfl, by decide +kernel, rfl, by decide +kernel, by decide +kernel⟩
theorem sc_l_names_by : FnScope ["_law_box_here", "_law_many", "_law_letters", "_law_first", "_law_rest", "_law_behind", "_law_sign", "_law_other"] ["_law_box_here", "_law_many"] (defScope s_l_names_by) := ⟨rfl, rfl, rfl, by decide +kernel, rfl, by decide +kernel, by decide +kernel⟩
theorem sc_l_any_gain : FnScope ["_law_box_here", "_law_way", "_law_top"] ["_law_box_here"] (defScope s_l_any_gain) := ⟨rfl, rfl, rfl, by decide +kernel, rfl, by decide +kernel, by decide +kernel⟩
theorem sc_l_any_much : FnScope ["_law_box_here", "_law_way"] ["_law_box_here"] (defScope s_l_any_much) := ⟨rfl, rfl, rfl, by decide +kernel, rfl, by decide +kernel, by decide +kernel⟩
theorem sc_l_plan_by : FnScope ["_law_box_here", "_law_most_ties", "_law_great", "_law_places", "_law_stuffs", "_law_many", "_law_ties", "_law_turners", "_law_turn", "_law_at", "_law_end", "_law_place", "_law_other", "_law_wells", "_law_wishes"] ["_law_box_here", "_law_most_ties"] (defScope s_l_plan_by) := ⟨rfl, rfl, rfl, by decide +kernel, rfl, by decide +kernel, by decide +kernel⟩
theorem sc_l_one_of : FnScope ["_law_box_here", "_law_things"] ["_law_box_here", "_law_things"] (defScope s_l_one_of) := ⟨rfl, rfl, rfl, by decide +kernel, rfl, by decide +kernel, by decide +kernel⟩
theorem sc_l_amount_by : FnScope ["_law_box_here"] ["_law_box_here"] (defScope s_l_amount_by) := ⟨rfl, rfl, rfl, by decide +kernel, rfl, by decide +kernel, by decide +kernel⟩
theorem sc_l_twice : FnScope ["_law_box_here", "_law_rows", "_law_most_rows"] ["_law_box_here", "_law_rows", "_law_most_rows"] (defScope s_l_twice) := ⟨rfl, rfl, rfl, by decide +kernel, rfl, by decide +kernel, by decide +kernel⟩
theorem sc_l_paths_in : FnScope ["_law_thing", "_law_path", "_law_found", "_law_k", "_law_one"] ["_law_thing", "_law_path"] (defScope s_l_paths_in) := ⟨rfl, rfl, rfl, by decide +kernel, rfl, by decide +kernel, by decide +kernel⟩
theorem sc_l_odd_by : FnScope ["_law_box_here", "_law_thing", "_law_way", "_law_at", "_law_some", "_law_k", "_law_ahead", "_law_behind", "_law_more"] ["_law_box_here", "_law_thing"] (defScope s_l_odd_by) := ⟨rfl, rfl, rfl, by decide +kernel, rfl, by decide +kernel, by decide +kernel⟩
theorem sc_l_with : FnScope ["_law_box_here", "_law_thing", "_law_path", "_law_at", "_law_made"] ["_law_box_here", "_law_thing", "_law_path"] (defScope s_l_with) := ⟨rfl, rfl, rfl, by decide +kernel, rfl, by decide +kernel, by decide +kernel⟩
theorem sc_l_spoilt : FnScope ["_law_box_here", "_law_thing", "_law_some"] ["_law_box_here", "_law_thing"] (defScope s_l_spoilt) := ⟨rfl, rfl, rfl, by decide +kernel, rfl, by decide +kernel, by decide +kernel⟩
theorem sc_l_is_fraction : FnScope ["_law_thing"] ["_law_thing"] (defScope s_l_is_fraction) := ⟨rfl, rfl, rfl, by decide +kernel, rfl, by decide +kernel, by decide +kernel⟩
theorem sc_l_are_parts : FnScope ["_law_thing", "_law_mosts"] ["_law_thing", "_law_mosts"] (defScope s_l_are_parts) := ⟨rfl, rfl, rfl, by decide +kernel, rfl, by decide +kernel, by decide +kernel⟩
theorem sc_l_is_sending : FnScope ["_law_plan", "_law_thing", "_law_load", "_law_tie", "_law_total", "_law_one", "_law_turns_right"] ["_law_plan", "_law_thing"] (defScope s_l_is_sending) := ⟨rfl, rfl, rfl, by decide +kernel, rfl, by decide +kernel, by decide +kernel⟩
theorem sc_l_part_of : FnScope ["_law_box_here", "_law_top", "_law_many"] ["_law_box_here", "_law_top", "_law_many"] (defScope s_l_part_of) := ⟨rfl, rfl, rfl, by decide +kernel, rfl, by decide +kernel, by decide +kernel⟩
theorem sc_l_any_sending : FnScope ["_law_box_here", "_law_plan", "_law_goes", "_law_tie", "_law_way", "_law_some", "_law_turns"] ["_law_box_here", "_law_plan"] (defScope s_l_any_sending) := ⟨rfl, rfl, rfl, by decide +kernel, rfl, by decide +kernel, by decide +kernel⟩
theorem sc_l_brims : FnScope ["_law_box_here", "_law_plan", "_law_sending", "_law_found", "_law_at", "_law_tie", "_law_some", "_law_more", "_law_load", "_law_goes"] ["_law_box_here", "_law_plan", "_law_sending"] (defScope s_l_brims) := ⟨rfl, rfl, rfl, by decide +kernel, rfl, by decide +kernel, by decide +kernel⟩
theorem sc_law : FnScope ["_law_script", "_law_cells", "_law_k", "_law_box_here", "_law_plan", "_law_sending", "_law_things", "_law_turn", "_law_bent", "_law_thing", "_law_written", "_law_found"] ["_law_script"] (defScope s_law) := ⟨rfl, rfl, rfl, by decide +kernel, rfl, by decide +kernel, by decide +kernel⟩
end K46
namespace K46
open PySem L2
set_option genInjectivity false in
set_option genSizeOf false in
structure Txt (K : PySem.W.Frag) (mg : Str → Option Value) where
  b_abs : mg "abs" = none
  b_all : mg "all" = none
  b_bool : mg "bool" = none
  b_divmod : mg "divmod" = none
  b_enumerate : mg "enumerate" = none
  b_int : mg "int" = none
  b_isinstance : mg "isinstance" = none
  b_len : mg "len" = none
  b_list : mg "list" = none
  b_max : mg "max" = none
  b_range : mg "range" = none
  b_str : mg "str" = none
  b_tuple : mg "tuple" = none
  b_zip : mg "zip" = none
  f_is_number : Addr
  d_is_number : FuncData
  m_is_number : mg "is_number" = some (.ref f_is_number)
  F_is_number : Fun K "is_number" "is_number" s_is_number f_is_number d_is_number
  B_is_number : Binds K d_is_number ["thing"] []
  f_common_divisor : Addr
  d_common_divisor : FuncData
  m_common_divisor : mg "common_divisor" = some (.ref f_common_divisor)
  F_common_divisor : Fun K "common_divisor" "common_divisor" s_common_divisor f_common_divisor d_common_divisor
  B_common_divisor : Binds K d_common_divisor ["n", "d"] []
  f_is_fraction : Addr
  d_is_fraction : FuncData
  m_is_fraction : mg "is_fraction" = some (.ref f_is_fraction)
  F_is_fraction : Fun K "is_fraction" "is_fraction" s_is_fraction f_is_fraction d_is_fraction
  B_is_fraction : Binds K d_is_fraction ["thing"] []
  f_is_from_nought : Addr
  d_is_from_nought : FuncData
  m_is_from_nought : mg "is_from_nought" = some (.ref f_is_from_nought)
  F_is_from_nought : Fun K "is_from_nought" "is_from_nought" s_is_from_nought f_is_from_nought d_is_from_nought
  B_is_from_nought : Binds K d_is_from_nought ["thing"] []
  f_fraction : Addr
  d_fraction : FuncData
  m_fraction : mg "fraction" = some (.ref f_fraction)
  F_fraction : Fun K "fraction" "fraction" s_fraction f_fraction d_fraction
  B_fraction : Binds K d_fraction ["n", "d"] []
  f_added : Addr
  d_added : FuncData
  m_added : mg "added" = some (.ref f_added)
  F_added : Fun K "added" "added" s_added f_added d_added
  B_added : Binds K d_added ["one", "other"] []
  f_compared : Addr
  d_compared : FuncData
  m_compared : mg "compared" = some (.ref f_compared)
  F_compared : Fun K "compared" "compared" s_compared f_compared d_compared
  B_compared : Binds K d_compared ["one", "other"] []
  f_sum_of : Addr
  d_sum_of : FuncData
  m_sum_of : mg "sum_of" = some (.ref f_sum_of)
  F_sum_of : Fun K "sum_of" "sum_of" s_sum_of f_sum_of d_sum_of
  B_sum_of : Binds K d_sum_of ["parts"] []
  f_goes_within : Addr
  d_goes_within : FuncData
  m_goes_within : mg "goes_within" = some (.ref f_goes_within)
  F_goes_within : Fun K "goes_within" "goes_within" s_goes_within f_goes_within d_goes_within
  B_goes_within : Binds K d_goes_within ["thing", "most"] []
  f_is_tuple_of : Addr
  d_is_tuple_of : FuncData
  m_is_tuple_of : mg "is_tuple_of" = some (.ref f_is_tuple_of)
  F_is_tuple_of : Fun K "is_tuple_of" "is_tuple_of" s_is_tuple_of f_is_tuple_of d_is_tuple_of
  B_is_tuple_of : Binds K d_is_tuple_of ["thing", "size"] []
  f_are_within : Addr
  d_are_within : FuncData
  m_are_within : mg "are_within" = some (.ref f_are_within)
  F_are_within : Fun K "are_within" "are_within" s_are_within f_are_within d_are_within
  B_are_within : Binds K d_are_within ["thing", "mosts"] []
  f_goes_together : Addr
  d_goes_together : FuncData
  m_goes_together : mg "goes_together" = some (.ref f_goes_together)
  F_goes_together : Fun K "goes_together" "goes_together" s_goes_together f_goes_together d_goes_together
  B_goes_together : Binds K d_goes_together ["thing", "size", "most"] []
  f_is_sending : Addr
  d_is_sending : FuncData
  m_is_sending : mg "is_sending" = some (.ref f_is_sending)
  F_is_sending : Fun K "is_sending" "is_sending" s_is_sending f_is_sending d_is_sending
  B_is_sending : Binds K d_is_sending ["plan", "thing"] []
  f_l_box : Addr
  d_l_box : FuncData
  m_l_box : mg "_law_box" = some (.ref f_l_box)
  F_l_box : Fun K "_law_box" "_law_box" s_l_box f_l_box d_l_box
  B_l_box : Binds K d_l_box ["_law_script", "_law_k"] []
  f_l_take : Addr
  d_l_take : FuncData
  m_l_take : mg "_law_take" = some (.ref f_l_take)
  F_l_take : Fun K "_law_take" "_law_take" s_l_take f_l_take d_l_take
  B_l_take : Binds K d_l_take ["_law_box_here", "_law_many"] []
  f_l_folded : Addr
  d_l_folded : FuncData
  m_l_folded : mg "_law_folded" = some (.ref f_l_folded)
  F_l_folded : Fun K "_law_folded" "_law_folded" s_l_folded f_l_folded d_l_folded
  B_l_folded : Binds K d_l_folded ["_law_script", "_law_many"] []
  f_l_frac : Addr
  d_l_frac : FuncData
  m_l_frac : mg "_law_frac" = some (.ref f_l_frac)
  F_l_frac : Fun K "_law_frac" "_law_frac" s_l_frac f_l_frac d_l_frac
  B_l_frac : Binds K d_l_frac ["_law_n", "_law_d"] []
  f_l_sum : Addr
  d_l_sum : FuncData
  m_l_sum : mg "_law_sum" = some (.ref f_l_sum)
  F_l_sum : Fun K "_law_sum" "_law_sum" s_l_sum f_l_sum d_l_sum
  B_l_sum : Binds K d_l_sum ["_law_one", "_law_other"] []
  f_l_product : Addr
  d_l_product : FuncData
  m_l_product : mg "_law_product" = some (.ref f_l_product)
  F_l_product : Fun K "_law_product" "_law_product" s_l_product f_l_product d_l_product
  B_l_product : Binds K d_l_product ["_law_one", "_law_other"] []
  f_l_above : Addr
  d_l_above : FuncData
  m_l_above : mg "_law_above" = some (.ref f_l_above)
  F_l_above : Fun K "_law_above" "_law_above" s_l_above f_l_above d_l_above
  B_l_above : Binds K d_l_above ["_law_one", "_law_other"] []
  f_l_names_by : Addr
  d_l_names_by : FuncData
  m_l_names_by : mg "_law_names_by" = some (.ref f_l_names_by)
  F_l_names_by : Fun K "_law_names_by" "_law_names_by" s_l_names_by f_l_names_by d_l_names_by
  B_l_names_by : Binds K d_l_names_by ["_law_box_here", "_law_many"] []
  f_l_any_gain : Addr
  d_l_any_gain : FuncData
  m_l_any_gain : mg "_law_any_gain" = some (.ref f_l_any_gain)
  F_l_any_gain : Fun K "_law_any_gain" "_law_any_gain" s_l_any_gain f_l_any_gain d_l_any_gain
  B_l_any_gain : Binds K d_l_any_gain ["_law_box_here"] []
  f_l_any_much : Addr
  d_l_any_much : FuncData
  m_l_any_much : mg "_law_any_much" = some (.ref f_l_any_much)
  F_l_any_much : Fun K "_law_any_much" "_law_any_much" s_l_any_much f_l_any_much d_l_any_much
  B_l_any_much : Binds K d_l_any_much ["_law_box_here"] []
  f_l_plan_by : Addr
  d_l_plan_by : FuncData
  m_l_plan_by : mg "_law_plan_by" = some (.ref f_l_plan_by)
  F_l_plan_by : Fun K "_law_plan_by" "_law_plan_by" s_l_plan_by f_l_plan_by d_l_plan_by
  B_l_plan_by : Binds K d_l_plan_by ["_law_box_here", "_law_most_ties"] []
  f_l_one_of : Addr
  d_l_one_of : FuncData
  m_l_one_of : mg "_law_one_of" = some (.ref f_l_one_of)
  F_l_one_of : Fun K "_law_one_of" "_law_one_of" s_l_one_of f_l_one_of d_l_one_of
  B_l_one_of : Binds K d_l_one_of ["_law_box_here", "_law_things"] []
  f_l_amount_by : Addr
  d_l_amount_by : FuncData
  m_l_amount_by : mg "_law_amount_by" = some (.ref f_l_amount_by)
  F_l_amount_by : Fun K "_law_amount_by" "_law_amount_by" s_l_amount_by f_l_amount_by d_l_amount_by
  B_l_amount_by : Binds K d_l_amount_by ["_law_box_here"] []
  f_l_twice : Addr
  d_l_twice : FuncData
  m_l_twice : mg "_law_twice" = some (.ref f_l_twice)
  F_l_twice : Fun K "_law_twice" "_law_twice" s_l_twice f_l_twice d_l_twice
  B_l_twice : Binds K d_l_twice ["_law_box_here", "_law_rows", "_law_most_rows"] []
  f_l_paths_in : Addr
  d_l_paths_in : FuncData
  m_l_paths_in : mg "_law_paths_in" = some (.ref f_l_paths_in)
  F_l_paths_in : Fun K "_law_paths_in" "_law_paths_in" s_l_paths_in f_l_paths_in d_l_paths_in
  B_l_paths_in : Binds K d_l_paths_in ["_law_thing", "_law_path"] []
  f_l_odd_by : Addr
  d_l_odd_by : FuncData
  m_l_odd_by : mg "_law_odd_by" = some (.ref f_l_odd_by)
  F_l_odd_by : Fun K "_law_odd_by" "_law_odd_by" s_l_odd_by f_l_odd_by d_l_odd_by
  B_l_odd_by : Binds K d_l_odd_by ["_law_box_here", "_law_thing"] []
  f_l_with : Addr
  d_l_with : FuncData
  m_l_with : mg "_law_with" = some (.ref f_l_with)
  F_l_with : Fun K "_law_with" "_law_with" s_l_with f_l_with d_l_with
  B_l_with : Binds K d_l_with ["_law_box_here", "_law_thing", "_law_path"] []
  f_l_spoilt : Addr
  d_l_spoilt : FuncData
  m_l_spoilt : mg "_law_spoilt" = some (.ref f_l_spoilt)
  F_l_spoilt : Fun K "_law_spoilt" "_law_spoilt" s_l_spoilt f_l_spoilt d_l_spoilt
  B_l_spoilt : Binds K d_l_spoilt ["_law_box_here", "_law_thing"] []
  f_l_is_fraction : Addr
  d_l_is_fraction : FuncData
  m_l_is_fraction : mg "_law_is_fraction" = some (.ref f_l_is_fraction)
  F_l_is_fraction : Fun K "_law_is_fraction" "_law_is_fraction" s_l_is_fraction f_l_is_fraction d_l_is_fraction
  B_l_is_fraction : Binds K d_l_is_fraction ["_law_thing"] []
  f_l_are_parts : Addr
  d_l_are_parts : FuncData
  m_l_are_parts : mg "_law_are_parts" = some (.ref f_l_are_parts)
  F_l_are_parts : Fun K "_law_are_parts" "_law_are_parts" s_l_are_parts f_l_are_parts d_l_are_parts
  B_l_are_parts : Binds K d_l_are_parts ["_law_thing", "_law_mosts"] []
  f_l_is_sending : Addr
  d_l_is_sending : FuncData
  m_l_is_sending : mg "_law_is_sending" = some (.ref f_l_is_sending)
  F_l_is_sending : Fun K "_law_is_sending" "_law_is_sending" s_l_is_sending f_l_is_sending d_l_is_sending
  B_l_is_sending : Binds K d_l_is_sending ["_law_plan", "_law_thing"] []
  f_l_part_of : Addr
  d_l_part_of : FuncData
  m_l_part_of : mg "_law_part_of" = some (.ref f_l_part_of)
  F_l_part_of : Fun K "_law_part_of" "_law_part_of" s_l_part_of f_l_part_of d_l_part_of
  B_l_part_of : Binds K d_l_part_of ["_law_box_here", "_law_top", "_law_many"] []
  f_l_any_sending : Addr
  d_l_any_sending : FuncData
  m_l_any_sending : mg "_law_any_sending" = some (.ref f_l_any_sending)
  F_l_any_sending : Fun K "_law_any_sending" "_law_any_sending" s_l_any_sending f_l_any_sending d_l_any_sending
  B_l_any_sending : Binds K d_l_any_sending ["_law_box_here", "_law_plan"] []
  f_l_brims : Addr
  d_l_brims : FuncData
  m_l_brims : mg "_law_brims" = some (.ref f_l_brims)
  F_l_brims : Fun K "_law_brims" "_law_brims" s_l_brims f_l_brims d_l_brims
  B_l_brims : Binds K d_l_brims ["_law_box_here", "_law_plan", "_law_sending"] []
  f_law : Addr
  d_law : FuncData
  m_law : mg "law" = some (.ref f_law)
  F_law : Fun K "law" "law" s_law f_law d_law
  B_law : Binds K d_law ["_law_script"] []
theorem txt_mk {K : PySem.W.Frag} {h : Heap} {mg : Str → Option Value} (X : K.In h) (G : h.Ns mainGlobals mg)
    {f0 f1 f2 f3 f4 f5 f6 f7 f8 f9 f10 f11 f12 f13 f14 f15 f16 f17 f18 f19 f20 f21 f22 f23 f24 f25 f26 f27 f28 f29 f30 f31 f32 f33 f34 f35 f36 f37 : Addr} {od0 an0 od1 an1 od2 an2 od3 an3 od4 an4 od5 an5 od6 an6 od7 an7 od8 an8 od9 an9 od10 an10 od11 an11 od12 an12 od13 an13 od14 an14 od15 an15 od16 an16 od17 an17 od18 an18 od19 an19 od20 an20 od21 an21 od22 an22 od23 an23 od24 an24 od25 an25 od26 an26 od27 an27 od28 an28 od29 an29 od30 an30 od31 an31 od32 an32 od33 an33 od34 an34 od35 an35 od36 an36 od37 an37 : Option Addr} {sl0 sl1 sl2 sl3 sl4 sl5 sl6 sl7 sl8 sl9 sl10 sl11 sl12 sl13 sl14 sl15 sl16 sl17 sl18 sl19 sl20 sl21 sl22 sl23 sl24 sl25 sl26 sl27 sl28 sl29 sl30 sl31 sl32 sl33 sl34 sl35 sl36 sl37 : Array (Option Value)} {oc0 kV0 dc0 pm0 cd0 ct0 oc1 kV1 dc1 pm1 cd1 ct1 oc2 kV2 dc2 pm2 cd2 ct2 oc3 kV3 dc3 pm3 cd3 ct3 oc4 kV4 dc4 pm4 cd4 ct4 oc5 kV5 dc5 pm5 cd5 ct5 oc6 kV6 dc6 pm6 cd6 ct6 oc7 kV7 dc7 pm7 cd7 ct7 oc8 kV8 dc8 pm8 cd8 ct8 oc9 kV9 dc9 pm9 cd9 ct9 oc10 kV10 dc10 pm10 cd10 ct10 oc11 kV11 dc11 pm11 cd11 ct11 oc12 kV12 dc12 pm12 cd12 ct12 oc13 kV13 dc13 pm13 cd13 ct13 oc14 kV14 dc14 pm14 cd14 ct14 oc15 kV15 dc15 pm15 cd15 ct15 oc16 kV16 dc16 pm16 cd16 ct16 oc17 kV17 dc17 pm17 cd17 ct17 oc18 kV18 dc18 pm18 cd18 ct18 oc19 kV19 dc19 pm19 cd19 ct19 oc20 kV20 dc20 pm20 cd20 ct20 oc21 kV21 dc21 pm21 cd21 ct21 oc22 kV22 dc22 pm22 cd22 ct22 oc23 kV23 dc23 pm23 cd23 ct23 oc24 kV24 dc24 pm24 cd24 ct24 oc25 kV25 dc25 pm25 cd25 ct25 oc26 kV26 dc26 pm26 cd26 ct26 oc27 kV27 dc27 pm27 cd27 ct27 oc28 kV28 dc28 pm28 cd28 ct28 oc29 kV29 dc29 pm29 cd29 ct29 oc30 kV30 dc30 pm30 cd30 ct30 oc31 kV31 dc31 pm31 cd31 ct31 oc32 kV32 dc32 pm32 cd32 ct32 oc33 kV33 dc33 pm33 cd33 ct33 oc34 kV34 dc34 pm34 cd34 ct34 oc35 kV35 dc35 pm35 cd35 ct35 oc36 kV36 dc36 pm36 cd36 ct36 oc37 kV37 dc37 pm37 cd37 ct37 : Value}
    (a0 : PySem.W.nsIn K mainGlobals "is_number" = some (some (.ref f0))) (l0 : K.lookup f0 = some ⟨oc0, od0, .func (PySem.W.fnOf "is_number" "is_number" (defArgs s_is_number) (defBody s_is_number) (defScope s_is_number) .none kV0 dc0 pm0 an0 cd0 ct0), sl0⟩) (c0 : PySem.W.codeIn K cd0 "is_number" = true) (k0 : PySem.W.keepIn K (.ref f0) = true)
    (a1 : PySem.W.nsIn K mainGlobals "common_divisor" = some (some (.ref f1))) (l1 : K.lookup f1 = some ⟨oc1, od1, .func (PySem.W.fnOf "common_divisor" "common_divisor" (defArgs s_common_divisor) (defBody s_common_divisor) (defScope s_common_divisor) .none kV1 dc1 pm1 an1 cd1 ct1), sl1⟩) (c1 : PySem.W.codeIn K cd1 "common_divisor" = true) (k1 : PySem.W.keepIn K (.ref f1) = true)
    (a2 : PySem.W.nsIn K mainGlobals "is_fraction" = some (some (.ref f2))) (l2 : K.lookup f2 = some ⟨oc2, od2, .func (PySem.W.fnOf "is_fraction" "is_fraction" (defArgs s_is_fraction) (defBody s_is_fraction) (defScope s_is_fraction) .none kV2 dc2 pm2 an2 cd2 ct2), sl2⟩) (c2 : PySem.W.codeIn K cd2 "is_fraction" = true) (k2 : PySem.W.keepIn K (.ref f2) = true)
    (a3 : PySem.W.nsIn K mainGlobals "is_from_nought" = some (some (.ref f3))) (l3 : K.lookup f3 = some ⟨oc3, od3, .func (PySem.W.fnOf "is_from_nought" "is_from_nought" (defArgs s_is_from_nought) (defBody s_is_from_nought) (defScope s_is_from_nought) .none kV3 dc3 pm3 an3 cd3 ct3), sl3⟩) (c3 : PySem.W.codeIn K cd3 "is_from_nought" = true) (k3 : PySem.W.keepIn K (.ref f3) = true)
    (a4 : PySem.W.nsIn K mainGlobals "fraction" = some (some (.ref f4))) (l4 : K.lookup f4 = some ⟨oc4, od4, .func (PySem.W.fnOf "fraction" "fraction" (defArgs s_fraction) (defBody s_fraction) (defScope s_fraction) .none kV4 dc4 pm4 an4 cd4 ct4), sl4⟩) (c4 : PySem.W.codeIn K cd4 "fraction" = true) (k4 : PySem.W.keepIn K (.ref f4) = true)
    (a5 : PySem.W.nsIn K mainGlobals "added" = some (some (.ref f5))) (l5 : K.lookup f5 = some ⟨oc5, od5, .func (PySem.W.fnOf "added" "added" (defArgs s_added) (defBody s_added) (defScope s_added) .none kV5 dc5 pm5 an5 cd5 ct5), sl5⟩) (c5 : PySem.W.codeIn K cd5 "added" = true) (k5 : PySem.W.keepIn K (.ref f5) = true)
    (a6 : PySem.W.nsIn K mainGlobals "compared" = some (some (.ref f6))) (l6 : K.lookup f6 = some ⟨oc6, od6, .func (PySem.W.fnOf "compared" "compared" (defArgs s_compared) (defBody s_compared) (defScope s_compared) .none kV6 dc6 pm6 an6 cd6 ct6), sl6⟩) (c6 : PySem.W.codeIn K cd6 "compared" = true) (k6 : PySem.W.keepIn K (.ref f6) = true)
    (a7 : PySem.W.nsIn K mainGlobals "sum_of" = some (some (.ref f7))) (l7 : K.lookup f7 = some ⟨oc7, od7, .func (PySem.W.fnOf "sum_of" "sum_of" (defArgs s_sum_of) (defBody s_sum_of) (defScope s_sum_of) .none kV7 dc7 pm7 an7 cd7 ct7), sl7⟩) (c7 : PySem.W.codeIn K cd7 "sum_of" = true) (k7 : PySem.W.keepIn K (.ref f7) = true)
    (a8 : PySem.W.nsIn K mainGlobals "goes_within" = some (some (.ref f8))) (l8 : K.lookup f8 = some ⟨oc8, od8, .func (PySem.W.fnOf "goes_within" "goes_within" (defArgs s_goes_within) (defBody s_goes_within) (defScope s_goes_within) .none kV8 dc8 pm8 an8 cd8 ct8), sl8⟩) (c8 : PySem.W.codeIn K cd8 "goes_within" = true) (k8 : PySem.W.keepIn K (.ref f8) = true)
    (a9 : PySem.W.nsIn K mainGlobals "is_tuple_of" = some (some (.ref f9))) (l9 : K.lookup f9 = some ⟨oc9, od9, .func (PySem.W.fnOf "is_tuple_of" "is_tuple_of" (defArgs s_is_tuple_of) (defBody s_is_tuple_of) (defScope s_is_tuple_of) .none kV9 dc9 pm9 an9 cd9 ct9), sl9⟩) (c9 : PySem.W.codeIn K cd9 "is_tuple_of" = true) (k9 : PySem.W.keepIn K (.ref f9) = true)
    (a10 : PySem.W.nsIn K mainGlobals "are_within" = some (some (.ref f10))) (l10 : K.lookup f10 = some ⟨oc10, od10, .func (PySem.W.fnOf "are_within" "are_within" (defArgs s_are_within) (defBody s_are_within) (defScope s_are_within) .none kV10 dc10 pm10 an10 cd10 ct10), sl10⟩) (c10 : PySem.W.codeIn K cd10 "are_within" = true) (k10 : PySem.W.keepIn K (.ref f10) = true)
    (a11 : PySem.W.nsIn K mainGlobals "goes_together" = some (some (.ref f11))) (l11 : K.lookup f11 = some ⟨oc11, od11, .func (PySem.W.fnOf "goes_together" "goes_together" (defArgs s_goes_together) (defBody s_goes_together) (defScope s_goes_together) .none kV11 dc11 pm11 an11 cd11 ct11), sl11⟩) (c11 : PySem.W.codeIn K cd11 "goes_together" = true) (k11 : PySem.W.keepIn K (.ref f11) = true)
    (a12 : PySem.W.nsIn K mainGlobals "is_sending" = some (some (.ref f12))) (l12 : K.lookup f12 = some ⟨oc12, od12, .func (PySem.W.fnOf "is_sending" "is_sending" (defArgs s_is_sending) (defBody s_is_sending) (defScope s_is_sending) .none kV12 dc12 pm12 an12 cd12 ct12), sl12⟩) (c12 : PySem.W.codeIn K cd12 "is_sending" = true) (k12 : PySem.W.keepIn K (.ref f12) = true)
    (a13 : PySem.W.nsIn K mainGlobals "_law_box" = some (some (.ref f13))) (l13 : K.lookup f13 = some ⟨oc13, od13, .func (PySem.W.fnOf "_law_box" "_law_box" (defArgs s_l_box) (defBody s_l_box) (defScope s_l_box) .none kV13 dc13 pm13 an13 cd13 ct13), sl13⟩) (c13 : PySem.W.codeIn K cd13 "_law_box" = true) (k13 : PySem.W.keepIn K (.ref f13) = true)
    (a14 : PySem.W.nsIn K mainGlobals "_law_take" = some (some (.ref f14))) (l14 : K.lookup f14 = some ⟨oc14, od14, .func (PySem.W.fnOf "_law_take" "_law_take" (defArgs s_l_take) (defBody s_l_take) (defScope s_l_take) .none kV14 dc14 pm14 an14 cd14 ct14), sl14⟩) (c14 : PySem.W.codeIn K cd14 "_law_take" = true) (k14 : PySem.W.keepIn K (.ref f14) = true)
    (a15 : PySem.W.nsIn K mainGlobals "_law_folded" = some (some (.ref f15))) (l15 : K.lookup f15 = some ⟨oc15, od15, .func (PySem.W.fnOf "_law_folded" "_law_folded" (defArgs s_l_folded) (defBody s_l_folded) (defScope s_l_folded) .none kV15 dc15 pm15 an15 cd15 ct15), sl15⟩) (c15 : PySem.W.codeIn K cd15 "_law_folded" = true) (k15 : PySem.W.keepIn K (.ref f15) = true)
    (a16 : PySem.W.nsIn K mainGlobals "_law_frac" = some (some (.ref f16))) (l16 : K.lookup f16 = some ⟨oc16, od16, .func (PySem.W.fnOf "_law_frac" "_law_frac" (defArgs s_l_frac) (defBody s_l_frac) (defScope s_l_frac) .none kV16 dc16 pm16 an16 cd16 ct16), sl16⟩) (c16 : PySem.W.codeIn K cd16 "_law_frac" = true) (k16 : PySem.W.keepIn K (.ref f16) = true)
    (a17 : PySem.W.nsIn K mainGlobals "_law_sum" = some (some (.ref f17))) (l17 : K.lookup f17 = some ⟨oc17, od17, .func (PySem.W.fnOf "_law_sum" "_law_sum" (defArgs s_l_sum) (defBody s_l_sum) (defScope s_l_sum) .none kV17 dc17 pm17 an17 cd17 ct17), sl17⟩) (c17 : PySem.W.codeIn K cd17 "_law_sum" = true) (k17 : PySem.W.keepIn K (.ref f17) = true)
    (a18 : PySem.W.nsIn K mainGlobals "_law_product" = some (some (.ref f18))) (l18 : K.lookup f18 = some ⟨oc18, od18, .func (PySem.W.fnOf "_law_product" "_law_product" (defArgs s_l_product) (defBody s_l_product) (defScope s_l_product) .none kV18 dc18 pm18 an18 cd18 ct18), sl18⟩) (c18 : PySem.W.codeIn K cd18 "_law_product" = true) (k18 : PySem.W.keepIn K (.ref f18) = true)
    (a19 : PySem.W.nsIn K mainGlobals "_law_above" = some (some (.ref f19))) (l19 : K.lookup f19 = some ⟨oc19, od19, .func (PySem.W.fnOf "_law_above" "_law_above" (defArgs s_l_above) (defBody s_l_above) (defScope s_l_above) .none kV19 dc19 pm19 an19 cd19 ct19), sl19⟩) (c19 : PySem.W.codeIn K cd19 "_law_above" = true) (k19 : PySem.W.keepIn K (.ref f19) = true)
    (a20 : PySem.W.nsIn K mainGlobals "_law_names_by" = some (some (.ref f20))) (l20 : K.lookup f20 = some ⟨oc20, od20, .func (PySem.W.fnOf "_law_names_by" "_law_names_by" (defArgs s_l_names_by) (defBody s_l_names_by) (defScope s_l_names_by) .none kV20 dc20 pm20 an20 cd20 ct20), sl20⟩) (c20 : PySem.W.codeIn K cd20 "_law_names_by" = true) (k20 : PySem.W.keepIn K (.ref f20) = true)
    (a21 : PySem.W.nsIn K mainGlobals "_law_any_gain" = some (some (.ref f21))) (l21 : K.lookup f21 = some ⟨oc21, od21, .func (PySem.W.fnOf "_law_any_gain" "_law_any_gain" (defArgs s_l_any_gain) (defBody s_l_any_gain) (defScope s_l_any_gain) .none kV21 dc21 pm21 an21 cd21 ct21), sl21⟩) (c21 : PySem.W.codeIn K cd21 "_law_any_gain" = true) (k21 : PySem.W.keepIn K (.ref f21) = true)
    (a22 : PySem.W.nsIn K mainGlobals "_law_any_much" = some (some (.ref f22))) (l22 : K.lookup f22 = some ⟨oc22, od22, .func (PySem.W.fnOf "_law_any_much" "_law_any_much" (defArgs s_l_any_much) (defBody s_l_any_much) (defScope s_l_any_much) .none kV22 dc22 pm22 an22 cd22 ct22), sl22⟩) (c22 : PySem.W.codeIn K cd22 "_law_any_much" = true) (k22 : PySem.W.keepIn K (.ref f22) = true)
    (a23 : PySem.W.nsIn K mainGlobals "_law_plan_by" = some (some (.ref f23))) (l23 : K.lookup f23 = some ⟨oc23, od23, .func (PySem.W.fnOf "_law_plan_by" "_law_plan_by" (defArgs s_l_plan_by) (defBody s_l_plan_by) (defScope s_l_plan_by) .none kV23 dc23 pm23 an23 cd23 ct23), sl23⟩) (c23 : PySem.W.codeIn K cd23 "_law_plan_by" = true) (k23 : PySem.W.keepIn K (.ref f23) = true)
    (a24 : PySem.W.nsIn K mainGlobals "_law_one_of" = some (some (.ref f24))) (l24 : K.lookup f24 = some ⟨oc24, od24, .func (PySem.W.fnOf "_law_one_of" "_law_one_of" (defArgs s_l_one_of) (defBody s_l_one_of) (defScope s_l_one_of) .none kV24 dc24 pm24 an24 cd24 ct24), sl24⟩) (c24 : PySem.W.codeIn K cd24 "_law_one_of" = true) (k24 : PySem.W.keepIn K (.ref f24) = true)
    (a25 : PySem.W.nsIn K mainGlobals "_law_amount_by" = some (some (.ref f25))) (l25 : K.lookup f25 = some ⟨oc25, od25, .func (PySem.W.fnOf "_law_amount_by" "_law_amount_by" (defArgs s_l_amount_by) (defBody s_l_amount_by) (defScope s_l_amount_by) .none kV25 dc25 pm25 an25 cd25 ct25), sl25⟩) (c25 : PySem.W.codeIn K cd25 "_law_amount_by" = true) (k25 : PySem.W.keepIn K (.ref f25) = true)
    (a26 : PySem.W.nsIn K mainGlobals "_law_twice" = some (some (.ref f26))) (l26 : K.lookup f26 = some ⟨oc26, od26, .func (PySem.W.fnOf "_law_twice" "_law_twice" (defArgs s_l_twice) (defBody s_l_twice) (defScope s_l_twice) .none kV26 dc26 pm26 an26 cd26 ct26), sl26⟩) (c26 : PySem.W.codeIn K cd26 "_law_twice" = true) (k26 : PySem.W.keepIn K (.ref f26) = true)
    (a27 : PySem.W.nsIn K mainGlobals "_law_paths_in" = some (some (.ref f27))) (l27 : K.lookup f27 = some ⟨oc27, od27, .func (PySem.W.fnOf "_law_paths_in" "_law_paths_in" (defArgs s_l_paths_in) (defBody s_l_paths_in) (defScope s_l_paths_in) .none kV27 dc27 pm27 an27 cd27 ct27), sl27⟩) (c27 : PySem.W.codeIn K cd27 "_law_paths_in" = true) (k27 : PySem.W.keepIn K (.ref f27) = true)
    (a28 : PySem.W.nsIn K mainGlobals "_law_odd_by" = some (some (.ref f28))) (l28 : K.lookup f28 = some ⟨oc28, od28, .func (PySem.W.fnOf "_law_odd_by" "_law_odd_by" (defArgs s_l_odd_by) (defBody s_l_odd_by) (defScope s_l_odd_by) .none kV28 dc28 pm28 an28 cd28 ct28), sl28⟩) (c28 : PySem.W.codeIn K cd28 "_law_odd_by" = true) (k28 : PySem.W.keepIn K (.ref f28) = true)
    (a29 : PySem.W.nsIn K mainGlobals "_law_with" = some (some (.ref f29))) (l29 : K.lookup f29 = some ⟨oc29, od29, .func (PySem.W.fnOf "_law_with" "_law_with" (defArgs s_l_with) (defBody s_l_with) (defScope s_l_with) .none kV29 dc29 pm29 an29 cd29 ct29), sl29⟩) (c29 : PySem.W.codeIn K cd29 "_law_with" = true) (k29 : PySem.W.keepIn K (.ref f29) = true)
    (a30 : PySem.W.nsIn K mainGlobals "_law_spoilt" = some (some (.ref f30))) (l30 : K.lookup f30 = some ⟨oc30, od30, .func (PySem.W.fnOf "_law_spoilt" "_law_spoilt" (defArgs s_l_spoilt) (defBody s_l_spoilt) (defScope s_l_spoilt) .none kV30 dc30 pm30 an30 cd30 ct30), sl30⟩) (c30 : PySem.W.codeIn K cd30 "_law_spoilt" = true) (k30 : PySem.W.keepIn K (.ref f30) = true)
    (a31 : PySem.W.nsIn K mainGlobals "_law_is_fraction" = some (some (.ref f31))) (l31 : K.lookup f31 = some ⟨oc31, od31, .func (PySem.W.fnOf "_law_is_fraction" "_law_is_fraction" (defArgs s_l_is_fraction) (defBody s_l_is_fraction) (defScope s_l_is_fraction) .none kV31 dc31 pm31 an31 cd31 ct31), sl31⟩) (c31 : PySem.W.codeIn K cd31 "_law_is_fraction" = true) (k31 : PySem.W.keepIn K (.ref f31) = true)
    (a32 : PySem.W.nsIn K mainGlobals "_law_are_parts" = some (some (.ref f32))) (l32 : K.lookup f32 = some ⟨oc32, od32, .func (PySem.W.fnOf "_law_are_parts" "_law_are_parts" (defArgs s_l_are_parts) (defBody s_l_are_parts) (defScope s_l_are_parts) .none kV32 dc32 pm32 an32 cd32 ct32), sl32⟩) (c32 : PySem.W.codeIn K cd32 "_law_are_parts" = true) (k32 : PySem.W.keepIn K (.ref f32) = true)
    (a33 : PySem.W.nsIn K mainGlobals "_law_is_sending" = some (some (.ref f33))) (l33 : K.lookup f33 = some ⟨oc33, od33, .func (PySem.W.fnOf "_law_is_sending" "_law_is_sending" (defArgs s_l_is_sending) (defBody s_l_is_sending) (defScope s_l_is_sending) .none kV33 dc33 pm33 an33 cd33 ct33), sl33⟩) (c33 : PySem.W.codeIn K cd33 "_law_is_sending" = true) (k33 : PySem.W.keepIn K (.ref f33) = true)
    (a34 : PySem.W.nsIn K mainGlobals "_law_part_of" = some (some (.ref f34))) (l34 : K.lookup f34 = some ⟨oc34, od34, .func (PySem.W.fnOf "_law_part_of" "_law_part_of" (defArgs s_l_part_of) (defBody s_l_part_of) (defScope s_l_part_of) .none kV34 dc34 pm34 an34 cd34 ct34), sl34⟩) (c34 : PySem.W.codeIn K cd34 "_law_part_of" = true) (k34 : PySem.W.keepIn K (.ref f34) = true)
    (a35 : PySem.W.nsIn K mainGlobals "_law_any_sending" = some (some (.ref f35))) (l35 : K.lookup f35 = some ⟨oc35, od35, .func (PySem.W.fnOf "_law_any_sending" "_law_any_sending" (defArgs s_l_any_sending) (defBody s_l_any_sending) (defScope s_l_any_sending) .none kV35 dc35 pm35 an35 cd35 ct35), sl35⟩) (c35 : PySem.W.codeIn K cd35 "_law_any_sending" = true) (k35 : PySem.W.keepIn K (.ref f35) = true)
    (a36 : PySem.W.nsIn K mainGlobals "_law_brims" = some (some (.ref f36))) (l36 : K.lookup f36 = some ⟨oc36, od36, .func (PySem.W.fnOf "_law_brims" "_law_brims" (defArgs s_l_brims) (defBody s_l_brims) (defScope s_l_brims) .none kV36 dc36 pm36 an36 cd36 ct36), sl36⟩) (c36 : PySem.W.codeIn K cd36 "_law_brims" = true) (k36 : PySem.W.keepIn K (.ref f36) = true)
    (a37 : PySem.W.nsIn K mainGlobals "law" = some (some (.ref f37))) (l37 : K.lookup f37 = some ⟨oc37, od37, .func (PySem.W.fnOf "law" "law" (defArgs s_law) (defBody s_law) (defScope s_law) .none kV37 dc37 pm37 an37 cd37 ct37), sl37⟩) (c37 : PySem.W.codeIn K cd37 "law" = true) (k37 : PySem.W.keepIn K (.ref f37) = true)
    (z0 : PySem.W.nsIn K mainGlobals "abs" = some none)
    (z1 : PySem.W.nsIn K mainGlobals "all" = some none)
    (z2 : PySem.W.nsIn K mainGlobals "bool" = some none)
    (z3 : PySem.W.nsIn K mainGlobals "divmod" = some none)
    (z4 : PySem.W.nsIn K mainGlobals "enumerate" = some none)
    (z5 : PySem.W.nsIn K mainGlobals "int" = some none)
    (z6 : PySem.W.nsIn K mainGlobals "isinstance" = some none)
    (z7 : PySem.W.nsIn K mainGlobals "len" = some none)
    (z8 : PySem.W.nsIn K mainGlobals "list" = some none)
    (z9 : PySem.W.nsIn K mainGlobals "max" = some none)
    (z10 : PySem.W.nsIn K mainGlobals "range" = some none)
    (z11 : PySem.W.nsIn K mainGlobals "str" = some none)
    (z12 : PySem.W.nsIn K mainGlobals "tuple" = some none)
    (z13 : PySem.W.nsIn K mainGlobals "zip" = some none)
    : ∃ T : Txt K mg, T.f_law = f37 ∧ (∀ (s : Shared) (u : Value), BindsTo s T.d_law ⟨[u], []⟩ [("_law_script", u)]) := by
  refine ⟨{
    b_abs := PySem.W.mg_none_of X G z0,
    b_all := PySem.W.mg_none_of X G z1,
    b_bool := PySem.W.mg_none_of X G z2,
    b_divmod := PySem.W.mg_none_of X G z3,
    b_enumerate := PySem.W.mg_none_of X G z4,
    b_int := PySem.W.mg_none_of X G z5,
    b_isinstance := PySem.W.mg_none_of X G z6,
    b_len := PySem.W.mg_none_of X G z7,
    b_list := PySem.W.mg_none_of X G z8,
    b_max := PySem.W.mg_none_of X G z9,
    b_range := PySem.W.mg_none_of X G z10,
    b_str := PySem.W.mg_none_of X G z11,
    b_tuple := PySem.W.mg_none_of X G z12,
    b_zip := PySem.W.mg_none_of X G z13,
    f_is_number := f0, d_is_number := _, m_is_number := PySem.W.mg_of X G a0, F_is_number := fun_mk (st := s_is_number) l0 c0 k0, B_is_number := (fun_mk (st := s_is_number) l0 c0 k0).binds (ps := ["thing"]) fun _ _ _ _ _ _ => len1 (fun _ => rfl),
    f_common_divisor := f1, d_common_divisor := _, m_common_divisor := PySem.W.mg_of X G a1, F_common_divisor := fun_mk (st := s_common_divisor) l1 c1 k1, B_common_divisor := (fun_mk (st := s_common_divisor) l1 c1 k1).binds (ps := ["n", "d"]) fun _ _ _ _ _ _ => len2 (fun _ _ => rfl),
    f_is_fraction := f2, d_is_fraction := _, m_is_fraction := PySem.W.mg_of X G a2, F_is_fraction := fun_mk (st := s_is_fraction) l2 c2 k2, B_is_fraction := (fun_mk (st := s_is_fraction) l2 c2 k2).binds (ps := ["thing"]) fun _ _ _ _ _ _ => len1 (fun _ => rfl),
    f_is_from_nought := f3, d_is_from_nought := _, m_is_from_nought := PySem.W.mg_of X G a3, F_is_from_nought := fun_mk (st := s_is_from_nought) l3 c3 k3, B_is_from_nought := (fun_mk (st := s_is_from_nought) l3 c3 k3).binds (ps := ["thing"]) fun _ _ _ _ _ _ => len1 (fun _ => rfl),
    f_fraction := f4, d_fraction := _, m_fraction := PySem.W.mg_of X G a4, F_fraction := fun_mk (st := s_fraction) l4 c4 k4, B_fraction := (fun_mk (st := s_fraction) l4 c4 k4).binds (ps := ["n", "d"]) fun _ _ _ _ _ _ => len2 (fun _ _ => rfl),
    f_added := f5, d_added := _, m_added := PySem.W.mg_of X G a5, F_added := fun_mk (st := s_added) l5 c5 k5, B_added := (fun_mk (st := s_added) l5 c5 k5).binds (ps := ["one", "other"]) fun _ _ _ _ _ _ => len2 (fun _ _ => rfl),
    f_compared := f6, d_compared := _, m_compared := PySem.W.mg_of X G a6, F_compared := fun_mk (st := s_compared) l6 c6 k6, B_compared := (fun_mk (st := s_compared) l6 c6 k6).binds (ps := ["one", "other"]) fun _ _ _ _ _ _ => len2 (fun _ _ => rfl),
    f_sum_of := f7, d_sum_of := _, m_sum_of := PySem.W.mg_of X G a7, F_sum_of := fun_mk (st := s_sum_of) l7 c7 k7, B_sum_of := (fun_mk (st := s_sum_of) l7 c7 k7).binds (ps := ["parts"]) fun _ _ _ _ _ _ => len1 (fun _ => rfl),
    f_goes_within := f8, d_goes_within := _, m_goes_within := PySem.W.mg_of X G a8, F_goes_within := fun_mk (st := s_goes_within) l8 c8 k8, B_goes_within := (fun_mk (st := s_goes_within) l8 c8 k8).binds (ps := ["thing", "most"]) fun _ _ _ _ _ _ => len2 (fun _ _ => rfl),
    f_is_tuple_of := f9, d_is_tuple_of := _, m_is_tuple_of := PySem.W.mg_of X G a9, F_is_tuple_of := fun_mk (st := s_is_tuple_of) l9 c9 k9, B_is_tuple_of := (fun_mk (st := s_is_tuple_of) l9 c9 k9).binds (ps := ["thing", "size"]) fun _ _ _ _ _ _ => len2 (fun _ _ => rfl),
    f_are_within := f10, d_are_within := _, m_are_within := PySem.W.mg_of X G a10, F_are_within := fun_mk (st := s_are_within) l10 c10 k10, B_are_within := (fun_mk (st := s_are_within) l10 c10 k10).binds (ps := ["thing", "mosts"]) fun _ _ _ _ _ _ => len2 (fun _ _ => rfl),
    f_goes_together := f11, d_goes_together := _, m_goes_together := PySem.W.mg_of X G a11, F_goes_together := fun_mk (st := s_goes_together) l11 c11 k11, B_goes_together := (fun_mk (st := s_goes_together) l11 c11 k11).binds (ps := ["thing", "size", "most"]) fun _ _ _ _ _ _ => len3 (fun _ _ _ => rfl),
    f_is_sending := f12, d_is_sending := _, m_is_sending := PySem.W.mg_of X G a12, F_is_sending := fun_mk (st := s_is_sending) l12 c12 k12, B_is_sending := (fun_mk (st := s_is_sending) l12 c12 k12).binds (ps := ["plan", "thing"]) fun _ _ _ _ _ _ => len2 (fun _ _ => rfl),
    f_l_box := f13, d_l_box := _, m_l_box := PySem.W.mg_of X G a13, F_l_box := fun_mk (st := s_l_box) l13 c13 k13, B_l_box := (fun_mk (st := s_l_box) l13 c13 k13).binds (ps := ["_law_script", "_law_k"]) fun _ _ _ _ _ _ => len2 (fun _ _ => rfl),
    f_l_take := f14, d_l_take := _, m_l_take := PySem.W.mg_of X G a14, F_l_take := fun_mk (st := s_l_take) l14 c14 k14, B_l_take := (fun_mk (st := s_l_take) l14 c14 k14).binds (ps := ["_law_box_here", "_law_many"]) fun _ _ _ _ _ _ => len2 (fun _ _ => rfl),
    f_l_folded := f15, d_l_folded := _, m_l_folded := PySem.W.mg_of X G a15, F_l_folded := fun_mk (st := s_l_folded) l15 c15 k15, B_l_folded := (fun_mk (st := s_l_folded) l15 c15 k15).binds (ps := ["_law_script", "_law_many"]) fun _ _ _ _ _ _ => len2 (fun _ _ => rfl),
    f_l_frac := f16, d_l_frac := _, m_l_frac := PySem.W.mg_of X G a16, F_l_frac := fun_mk (st := s_l_frac) l16 c16 k16, B_l_frac := (fun_mk (st := s_l_frac) l16 c16 k16).binds (ps := ["_law_n", "_law_d"]) fun _ _ _ _ _ _ => len2 (fun _ _ => rfl),
    f_l_sum := f17, d_l_sum := _, m_l_sum := PySem.W.mg_of X G a17, F_l_sum := fun_mk (st := s_l_sum) l17 c17 k17, B_l_sum := (fun_mk (st := s_l_sum) l17 c17 k17).binds (ps := ["_law_one", "_law_other"]) fun _ _ _ _ _ _ => len2 (fun _ _ => rfl),
    f_l_product := f18, d_l_product := _, m_l_product := PySem.W.mg_of X G a18, F_l_product := fun_mk (st := s_l_product) l18 c18 k18, B_l_product := (fun_mk (st := s_l_product) l18 c18 k18).binds (ps := ["_law_one", "_law_other"]) fun _ _ _ _ _ _ => len2 (fun _ _ => rfl),
    f_l_above := f19, d_l_above := _, m_l_above := PySem.W.mg_of X G a19, F_l_above := fun_mk (st := s_l_above) l19 c19 k19, B_l_above := (fun_mk (st := s_l_above) l19 c19 k19).binds (ps := ["_law_one", "_law_other"]) fun _ _ _ _ _ _ => len2 (fun _ _ => rfl),
    f_l_names_by := f20, d_l_names_by := _, m_l_names_by := PySem.W.mg_of X G a20, F_l_names_by := fun_mk (st := s_l_names_by) l20 c20 k20, B_l_names_by := (fun_mk (st := s_l_names_by) l20 c20 k20).binds (ps := ["_law_box_here", "_law_many"]) fun _ _ _ _ _ _ => len2 (fun _ _ => rfl),
    f_l_any_gain := f21, d_l_any_gain := _, m_l_any_gain := PySem.W.mg_of X G a21, F_l_any_gain := fun_mk (st := s_l_any_gain) l21 c21 k21, B_l_any_gain := (fun_mk (st := s_l_any_gain) l21 c21 k21).binds (ps := ["_law_box_here"]) fun _ _ _ _ _ _ => len1 (fun _ => rfl),
    f_l_any_much := f22, d_l_any_much := _, m_l_any_much := PySem.W.mg_of X G a22, F_l_any_much := fun_mk (st := s_l_any_much) l22 c22 k22, B_l_any_much := (fun_mk (st := s_l_any_much) l22 c22 k22).binds (ps := ["_law_box_here"]) fun _ _ _ _ _ _ => len1 (fun _ => rfl),
    f_l_plan_by := f23, d_l_plan_by := _, m_l_plan_by := PySem.W.mg_of X G a23, F_l_plan_by := fun_mk (st := s_l_plan_by) l23 c23 k23, B_l_plan_by := (fun_mk (st := s_l_plan_by) l23 c23 k23).binds (ps := ["_law_box_here", "_law_most_ties"]) fun _ _ _ _ _ _ => len2 (fun _ _ => rfl),
    f_l_one_of := f24, d_l_one_of := _, m_l_one_of := PySem.W.mg_of X G a24, F_l_one_of := fun_mk (st := s_l_one_of) l24 c24 k24, B_l_one_of := (fun_mk (st := s_l_one_of) l24 c24 k24).binds (ps := ["_law_box_here", "_law_things"]) fun _ _ _ _ _ _ => len2 (fun _ _ => rfl),
    f_l_amount_by := f25, d_l_amount_by := _, m_l_amount_by := PySem.W.mg_of X G a25, F_l_amount_by := fun_mk (st := s_l_amount_by) l25 c25 k25, B_l_amount_by := (fun_mk (st := s_l_amount_by) l25 c25 k25).binds (ps := ["_law_box_here"]) fun _ _ _ _ _ _ => len1 (fun _ => rfl),
    f_l_twice := f26, d_l_twice := _, m_l_twice := PySem.W.mg_of X G a26, F_l_twice := fun_mk (st := s_l_twice) l26 c26 k26, B_l_twice := (fun_mk (st := s_l_twice) l26 c26 k26).binds (ps := ["_law_box_here", "_law_rows", "_law_most_rows"]) fun _ _ _ _ _ _ => len3 (fun _ _ _ => rfl),
    f_l_paths_in := f27, d_l_paths_in := _, m_l_paths_in := PySem.W.mg_of X G a27, F_l_paths_in := fun_mk (st := s_l_paths_in) l27 c27 k27, B_l_paths_in := (fun_mk (st := s_l_paths_in) l27 c27 k27).binds (ps := ["_law_thing", "_law_path"]) fun _ _ _ _ _ _ => len2 (fun _ _ => rfl),
    f_l_odd_by := f28, d_l_odd_by := _, m_l_odd_by := PySem.W.mg_of X G a28, F_l_odd_by := fun_mk (st := s_l_odd_by) l28 c28 k28, B_l_odd_by := (fun_mk (st := s_l_odd_by) l28 c28 k28).binds (ps := ["_law_box_here", "_law_thing"]) fun _ _ _ _ _ _ => len2 (fun _ _ => rfl),
    f_l_with := f29, d_l_with := _, m_l_with := PySem.W.mg_of X G a29, F_l_with := fun_mk (st := s_l_with) l29 c29 k29, B_l_with := (fun_mk (st := s_l_with) l29 c29 k29).binds (ps := ["_law_box_here", "_law_thing", "_law_path"]) fun _ _ _ _ _ _ => len3 (fun _ _ _ => rfl),
    f_l_spoilt := f30, d_l_spoilt := _, m_l_spoilt := PySem.W.mg_of X G a30, F_l_spoilt := fun_mk (st := s_l_spoilt) l30 c30 k30, B_l_spoilt := (fun_mk (st := s_l_spoilt) l30 c30 k30).binds (ps := ["_law_box_here", "_law_thing"]) fun _ _ _ _ _ _ => len2 (fun _ _ => rfl),
    f_l_is_fraction := f31, d_l_is_fraction := _, m_l_is_fraction := PySem.W.mg_of X G a31, F_l_is_fraction := fun_mk (st := s_l_is_fraction) l31 c31 k31, B_l_is_fraction := (fun_mk (st := s_l_is_fraction) l31 c31 k31).binds (ps := ["_law_thing"]) fun _ _ _ _ _ _ => len1 (fun _ => rfl),
    f_l_are_parts := f32, d_l_are_parts := _, m_l_are_parts := PySem.W.mg_of X G a32, F_l_are_parts := fun_mk (st := s_l_are_parts) l32 c32 k32, B_l_are_parts := (fun_mk (st := s_l_are_parts) l32 c32 k32).binds (ps := ["_law_thing", "_law_mosts"]) fun _ _ _ _ _ _ => len2 (fun _ _ => rfl),
    f_l_is_sending := f33, d_l_is_sending := _, m_l_is_sending := PySem.W.mg_of X G a33, F_l_is_sending := fun_mk (st := s_l_is_sending) l33 c33 k33, B_l_is_sending := (fun_mk (st := s_l_is_sending) l33 c33 k33).binds (ps := ["_law_plan", "_law_thing"]) fun _ _ _ _ _ _ => len2 (fun _ _ => rfl),
    f_l_part_of := f34, d_l_part_of := _, m_l_part_of := PySem.W.mg_of X G a34, F_l_part_of := fun_mk (st := s_l_part_of) l34 c34 k34, B_l_part_of := (fun_mk (st := s_l_part_of) l34 c34 k34).binds (ps := ["_law_box_here", "_law_top", "_law_many"]) fun _ _ _ _ _ _ => len3 (fun _ _ _ => rfl),
    f_l_any_sending := f35, d_l_any_sending := _, m_l_any_sending := PySem.W.mg_of X G a35, F_l_any_sending := fun_mk (st := s_l_any_sending) l35 c35 k35, B_l_any_sending := (fun_mk (st := s_l_any_sending) l35 c35 k35).binds (ps := ["_law_box_here", "_law_plan"]) fun _ _ _ _ _ _ => len2 (fun _ _ => rfl),
    f_l_brims := f36, d_l_brims := _, m_l_brims := PySem.W.mg_of X G a36, F_l_brims := fun_mk (st := s_l_brims) l36 c36 k36, B_l_brims := (fun_mk (st := s_l_brims) l36 c36 k36).binds (ps := ["_law_box_here", "_law_plan", "_law_sending"]) fun _ _ _ _ _ _ => len3 (fun _ _ _ => rfl),
    f_law := f37, d_law := _, m_law := PySem.W.mg_of X G a37, F_law := fun_mk (st := s_law) l37 c37 k37, B_law := (fun_mk (st := s_law) l37 c37 k37).binds (ps := ["_law_script"]) fun _ _ _ _ _ _ => len1 (fun _ => rfl) }, rfl, fun s v => .of_eq rfl⟩
end K46
namespace K46
open PySem L2
theorem k_is_from_nought_thing : (defScope s_is_from_nought).names.lookup ("thing" : Str) = some NameKind.local := by decide +kernel
theorem k_is_from_nought_is_fraction : (defScope s_is_from_nought).names.lookup ("is_fraction" : Str) = some NameKind.globalImplicit := by decide +kernel
theorem k_fraction_n : (defScope s_fraction).names.lookup ("n" : Str) = some NameKind.local := by decide +kernel
theorem k_fraction_d : (defScope s_fraction).names.lookup ("d" : Str) = some NameKind.local := by decide +kernel
theorem k_fraction_divisor : (defScope s_fraction).names.lookup ("divisor" : Str) = some NameKind.local := by decide +kernel
theorem k_fraction_common_divisor : (defScope s_fraction).names.lookup ("common_divisor" : Str) = some NameKind.globalImplicit := by decide +kernel
theorem k_added_one : (defScope s_added).names.lookup ("one" : Str) = some NameKind.local := by decide +kernel
theorem k_added_other : (defScope s_added).names.lookup ("other" : Str) = some NameKind.local := by decide +kernel
theorem k_added_fraction : (defScope s_added).names.lookup ("fraction" : Str) = some NameKind.globalImplicit := by decide +kernel
theorem k_compared_one : (defScope s_compared).names.lookup ("one" : Str) = some NameKind.local := by decide +kernel
theorem k_compared_other : (defScope s_compared).names.lookup ("other" : Str) = some NameKind.local := by decide +kernel
theorem k_compared_left : (defScope s_compared).names.lookup ("left" : Str) = some NameKind.local := by decide +kernel
theorem k_compared_right : (defScope s_compared).names.lookup ("right" : Str) = some NameKind.local := by decide +kernel
theorem k_sum_of_parts : (defScope s_sum_of).names.lookup ("parts" : Str) = some NameKind.local := by decide +kernel
theorem k_sum_of_total : (defScope s_sum_of).names.lookup ("total" : Str) = some NameKind.local := by decide +kernel
theorem k_sum_of_part : (defScope s_sum_of).names.lookup ("part" : Str) = some NameKind.local := by decide +kernel
theorem k_sum_of_added : (defScope s_sum_of).names.lookup ("added" : Str) = some NameKind.globalImplicit := by decide +kernel
theorem k_goes_within_thing : (defScope s_goes_within).names.lookup ("thing" : Str) = some NameKind.local := by decide +kernel
theorem k_goes_within_most : (defScope s_goes_within).names.lookup ("most" : Str) = some NameKind.local := by decide +kernel
theorem k_goes_within_is_from_nought : (defScope s_goes_within).names.lookup ("is_from_nought" : Str) = some NameKind.globalImplicit := by decide +kernel
theorem k_goes_within_compared : (defScope s_goes_within).names.lookup ("compared" : Str) = some NameKind.globalImplicit := by decide +kernel
theorem k_is_tuple_of_thing : (defScope s_is_tuple_of).names.lookup ("thing" : Str) = some NameKind.local := by decide +kernel
theorem k_is_tuple_of_size : (defScope s_is_tuple_of).names.lookup ("size" : Str) = some NameKind.local := by decide +kernel
theorem k_is_tuple_of_isinstance : (defScope s_is_tuple_of).names.lookup ("isinstance" : Str) = some NameKind.globalImplicit := by decide +kernel
theorem k_is_tuple_of_tuple : (defScope s_is_tuple_of).names.lookup ("tuple" : Str) = some NameKind.globalImplicit := by decide +kernel
theorem k_is_tuple_of_len : (defScope s_is_tuple_of).names.lookup ("len" : Str) = some NameKind.globalImplicit := by decide +kernel
theorem k_are_within_thing : (defScope s_are_within).names.lookup ("thing" : Str) = some NameKind.local := by decide +kernel
theorem k_are_within_mosts : (defScope s_are_within).names.lookup ("mosts" : Str) = some NameKind.local := by decide +kernel
theorem k_are_within_isinstance : (defScope s_are_within).names.lookup ("isinstance" : Str) = some NameKind.globalImplicit := by decide +kernel
theorem k_are_within_list : (defScope s_are_within).names.lookup ("list" : Str) = some NameKind.globalImplicit := by decide +kernel
theorem k_are_within_len : (defScope s_are_within).names.lookup ("len" : Str) = some NameKind.globalImplicit := by decide +kernel
theorem k_are_within_all : (defScope s_are_within).names.lookup ("all" : Str) = some NameKind.globalImplicit := by decide +kernel
theorem k_are_within_zip : (defScope s_are_within).names.lookup ("zip" : Str) = some NameKind.globalImplicit := by decide +kernel
theorem k_goes_together_thing : (defScope s_goes_together).names.lookup ("thing" : Str) = some NameKind.local := by decide +kernel
theorem k_goes_together_size : (defScope s_goes_together).names.lookup ("size" : Str) = some NameKind.local := by decide +kernel
theorem k_goes_together_most : (defScope s_goes_together).names.lookup ("most" : Str) = some NameKind.local := by decide +kernel
theorem k_goes_together_isinstance : (defScope s_goes_together).names.lookup ("isinstance" : Str) = some NameKind.globalImplicit := by decide +kernel
theorem k_goes_together_list : (defScope s_goes_together).names.lookup ("list" : Str) = some NameKind.globalImplicit := by decide +kernel
theorem k_goes_together_len : (defScope s_goes_together).names.lookup ("len" : Str) = some NameKind.globalImplicit := by decide +kernel
theorem k_goes_together_all : (defScope s_goes_together).names.lookup ("all" : Str) = some NameKind.globalImplicit := by decide +kernel
theorem k_goes_together_compared : (defScope s_goes_together).names.lookup ("compared" : Str) = some NameKind.globalImplicit := by decide +kernel
theorem k_goes_together_sum_of : (defScope s_goes_together).names.lookup ("sum_of" : Str) = some NameKind.globalImplicit := by decide +kernel
theorem k_is_sending_plan : (defScope s_is_sending).names.lookup ("plan" : Str) = some NameKind.local := by decide +kernel
theorem k_is_sending_thing : (defScope s_is_sending).names.lookup ("thing" : Str) = some NameKind.local := by decide +kernel
theorem k_is_sending_places : (defScope s_is_sending).names.lookup ("places" : Str) = some NameKind.local := by decide +kernel
theorem k_is_sending_stuffs : (defScope s_is_sending).names.lookup ("stuffs" : Str) = some NameKind.cell := by decide +kernel
theorem k_is_sending_ties : (defScope s_is_sending).names.lookup ("ties" : Str) = some NameKind.local := by decide +kernel
theorem k_is_sending_turners : (defScope s_is_sending).names.lookup ("turners" : Str) = some NameKind.local := by decide +kernel
theorem k_is_sending_wells : (defScope s_is_sending).names.lookup ("wells" : Str) = some NameKind.local := by decide +kernel
theorem k_is_sending_wishes : (defScope s_is_sending).names.lookup ("wishes" : Str) = some NameKind.local := by decide +kernel
theorem k_is_sending_goes : (defScope s_is_sending).names.lookup ("goes" : Str) = some NameKind.local := by decide +kernel
theorem k_is_sending_turns : (defScope s_is_sending).names.lookup ("turns" : Str) = some NameKind.local := by decide +kernel
theorem k_is_sending_draws : (defScope s_is_sending).names.lookup ("draws" : Str) = some NameKind.local := by decide +kernel
theorem k_is_sending_is_tuple_of : (defScope s_is_sending).names.lookup ("is_tuple_of" : Str) = some NameKind.globalImplicit := by decide +kernel
theorem k_is_sending_isinstance : (defScope s_is_sending).names.lookup ("isinstance" : Str) = some NameKind.globalImplicit := by decide +kernel
theorem k_is_sending_list : (defScope s_is_sending).names.lookup ("list" : Str) = some NameKind.globalImplicit := by decide +kernel
theorem k_is_sending_len : (defScope s_is_sending).names.lookup ("len" : Str) = some NameKind.globalImplicit := by decide +kernel
theorem k_is_sending_all : (defScope s_is_sending).names.lookup ("all" : Str) = some NameKind.globalImplicit := by decide +kernel
theorem k_is_sending_zip : (defScope s_is_sending).names.lookup ("zip" : Str) = some NameKind.globalImplicit := by decide +kernel
theorem k_is_sending_are_within : (defScope s_is_sending).names.lookup ("are_within" : Str) = some NameKind.globalImplicit := by decide +kernel
theorem k_l_frac_l_n : (defScope s_l_frac).names.lookup ("_law_n" : Str) = some NameKind.local := by decide +kernel
theorem k_l_frac_l_d : (defScope s_l_frac).names.lookup ("_law_d" : Str) = some NameKind.local := by decide +kernel
theorem k_l_frac_l_one : (defScope s_l_frac).names.lookup ("_law_one" : Str) = some NameKind.local := by decide +kernel
theorem k_l_frac_l_other : (defScope s_l_frac).names.lookup ("_law_other" : Str) = some NameKind.local := by decide +kernel
theorem k_l_frac_abs : (defScope s_l_frac).names.lookup ("abs" : Str) = some NameKind.globalImplicit := by decide +kernel
theorem k_l_sum_l_one : (defScope s_l_sum).names.lookup ("_law_one" : Str) = some NameKind.local := by decide +kernel
theorem k_l_sum_l_other : (defScope s_l_sum).names.lookup ("_law_other" : Str) = some NameKind.local := by decide +kernel
theorem k_l_sum_l_frac : (defScope s_l_sum).names.lookup ("_law_frac" : Str) = some NameKind.globalImplicit := by decide +kernel
theorem k_l_product_l_one : (defScope s_l_product).names.lookup ("_law_one" : Str) = some NameKind.local := by decide +kernel
theorem k_l_product_l_other : (defScope s_l_product).names.lookup ("_law_other" : Str) = some NameKind.local := by decide +kernel
theorem k_l_product_l_frac : (defScope s_l_product).names.lookup ("_law_frac" : Str) = some NameKind.globalImplicit := by decide +kernel
theorem k_l_above_l_one : (defScope s_l_above).names.lookup ("_law_one" : Str) = some NameKind.local := by decide +kernel
theorem k_l_above_l_other : (defScope s_l_above).names.lookup ("_law_other" : Str) = some NameKind.local := by decide +kernel
theorem k_l_names_by_l_box_here : (defScope s_l_names_by).names.lookup ("_law_box_here" : Str) = some NameKind.cell := by decide +kernel
theorem k_l_names_by_l_many : (defScope s_l_names_by).names.lookup ("_law_many" : Str) = some NameKind.local := by decide +kernel
theorem k_l_names_by_l_letters : (defScope s_l_names_by).names.lookup ("_law_letters" : Str) = some NameKind.cell := by decide +kernel
theorem k_l_names_by_l_first : (defScope s_l_names_by).names.lookup ("_law_first" : Str) = some NameKind.cell := by decide +kernel
theorem k_l_names_by_l_rest : (defScope s_l_names_by).names.lookup ("_law_rest" : Str) = some NameKind.local := by decide +kernel
theorem k_l_names_by_l_behind : (defScope s_l_names_by).names.lookup ("_law_behind" : Str) = some NameKind.cell := by decide +kernel
theorem k_l_names_by_l_sign : (defScope s_l_names_by).names.lookup ("_law_sign" : Str) = some NameKind.cell := by decide +kernel
theorem k_l_names_by_l_other : (defScope s_l_names_by).names.lookup ("_law_other" : Str) = some NameKind.cell := by decide +kernel
theorem k_l_names_by_l_take : (defScope s_l_names_by).names.lookup ("_law_take" : Str) = some NameKind.globalImplicit := by decide +kernel
theorem k_l_names_by_range : (defScope s_l_names_by).names.lookup ("range" : Str) = some NameKind.globalImplicit := by decide +kernel
theorem k_l_names_by_int : (defScope s_l_names_by).names.lookup ("int" : Str) = some NameKind.globalImplicit := by decide +kernel
theorem k_l_names_by_tuple : (defScope s_l_names_by).names.lookup ("tuple" : Str) = some NameKind.globalImplicit := by decide +kernel
theorem k_l_any_gain_l_box_here : (defScope s_l_any_gain).names.lookup ("_law_box_here" : Str) = some NameKind.local := by decide +kernel
theorem k_l_any_gain_l_way : (defScope s_l_any_gain).names.lookup ("_law_way" : Str) = some NameKind.local := by decide +kernel
theorem k_l_any_gain_l_top : (defScope s_l_any_gain).names.lookup ("_law_top" : Str) = some NameKind.local := by decide +kernel
theorem k_l_any_gain_l_take : (defScope s_l_any_gain).names.lookup ("_law_take" : Str) = some NameKind.globalImplicit := by decide +kernel
theorem k_l_any_gain_l_frac : (defScope s_l_any_gain).names.lookup ("_law_frac" : Str) = some NameKind.globalImplicit := by decide +kernel
theorem k_l_any_much_l_box_here : (defScope s_l_any_much).names.lookup ("_law_box_here" : Str) = some NameKind.local := by decide +kernel
theorem k_l_any_much_l_way : (defScope s_l_any_much).names.lookup ("_law_way" : Str) = some NameKind.local := by decide +kernel
theorem k_l_any_much_l_take : (defScope s_l_any_much).names.lookup ("_law_take" : Str) = some NameKind.globalImplicit := by decide +kernel
theorem k_l_any_much_l_frac : (defScope s_l_any_much).names.lookup ("_law_frac" : Str) = some NameKind.globalImplicit := by decide +kernel
theorem k_l_plan_by_l_box_here : (defScope s_l_plan_by).names.lookup ("_law_box_here" : Str) = some NameKind.cell := by decide +kernel
theorem k_l_plan_by_l_most_ties : (defScope s_l_plan_by).names.lookup ("_law_most_ties" : Str) = some NameKind.local := by decide +kernel
theorem k_l_plan_by_l_great : (defScope s_l_plan_by).names.lookup ("_law_great" : Str) = some NameKind.local := by decide +kernel
theorem k_l_plan_by_l_places : (defScope s_l_plan_by).names.lookup ("_law_places" : Str) = some NameKind.cell := by decide +kernel
theorem k_l_plan_by_l_stuffs : (defScope s_l_plan_by).names.lookup ("_law_stuffs" : Str) = some NameKind.cell := by decide +kernel
theorem k_l_plan_by_l_many : (defScope s_l_plan_by).names.lookup ("_law_many" : Str) = some NameKind.local := by decide +kernel
theorem k_l_plan_by_l_ties : (defScope s_l_plan_by).names.lookup ("_law_ties" : Str) = some NameKind.local := by decide +kernel
theorem k_l_plan_by_l_turners : (defScope s_l_plan_by).names.lookup ("_law_turners" : Str) = some NameKind.local := by decide +kernel
theorem k_l_plan_by_l_turn : (defScope s_l_plan_by).names.lookup ("_law_turn" : Str) = some NameKind.local := by decide +kernel
theorem k_l_plan_by_l_at : (defScope s_l_plan_by).names.lookup ("_law_at" : Str) = some NameKind.local := by decide +kernel
theorem k_l_plan_by_l_end : (defScope s_l_plan_by).names.lookup ("_law_end" : Str) = some NameKind.local := by decide +kernel
theorem k_l_plan_by_l_place : (defScope s_l_plan_by).names.lookup ("_law_place" : Str) = some NameKind.local := by decide +kernel
theorem k_l_plan_by_l_other : (defScope s_l_plan_by).names.lookup ("_law_other" : Str) = some NameKind.local := by decide +kernel
theorem k_l_plan_by_l_wells : (defScope s_l_plan_by).names.lookup ("_law_wells" : Str) = some NameKind.local := by decide +kernel
theorem k_l_plan_by_l_wishes : (defScope s_l_plan_by).names.lookup ("_law_wishes" : Str) = some NameKind.local := by decide +kernel
theorem k_l_plan_by_l_take : (defScope s_l_plan_by).names.lookup ("_law_take" : Str) = some NameKind.globalImplicit := by decide +kernel
theorem k_l_plan_by_l_names_by : (defScope s_l_plan_by).names.lookup ("_law_names_by" : Str) = some NameKind.globalImplicit := by decide +kernel
theorem k_l_plan_by_tuple : (defScope s_l_plan_by).names.lookup ("tuple" : Str) = some NameKind.globalImplicit := by decide +kernel
theorem k_l_plan_by_range : (defScope s_l_plan_by).names.lookup ("range" : Str) = some NameKind.globalImplicit := by decide +kernel
theorem k_l_plan_by_len : (defScope s_l_plan_by).names.lookup ("len" : Str) = some NameKind.globalImplicit := by decide +kernel
theorem k_l_plan_by_int : (defScope s_l_plan_by).names.lookup ("int" : Str) = some NameKind.globalImplicit := by decide +kernel
theorem k_l_plan_by_max : (defScope s_l_plan_by).names.lookup ("max" : Str) = some NameKind.globalImplicit := by decide +kernel
theorem k_l_plan_by_l_any_much : (defScope s_l_plan_by).names.lookup ("_law_any_much" : Str) = some NameKind.globalImplicit := by decide +kernel
theorem k_l_plan_by_l_any_gain : (defScope s_l_plan_by).names.lookup ("_law_any_gain" : Str) = some NameKind.globalImplicit := by decide +kernel
theorem k_l_plan_by_l_twice : (defScope s_l_plan_by).names.lookup ("_law_twice" : Str) = some NameKind.globalImplicit := by decide +kernel
theorem k_l_one_of_l_box_here : (defScope s_l_one_of).names.lookup ("_law_box_here" : Str) = some NameKind.local := by decide +kernel
theorem k_l_one_of_l_things : (defScope s_l_one_of).names.lookup ("_law_things" : Str) = some NameKind.local := by decide +kernel
theorem k_l_one_of_l_take : (defScope s_l_one_of).names.lookup ("_law_take" : Str) = some NameKind.globalImplicit := by decide +kernel
theorem k_l_one_of_len : (defScope s_l_one_of).names.lookup ("len" : Str) = some NameKind.globalImplicit := by decide +kernel
theorem k_l_amount_by_l_box_here : (defScope s_l_amount_by).names.lookup ("_law_box_here" : Str) = some NameKind.local := by decide +kernel
theorem k_l_amount_by_l_frac : (defScope s_l_amount_by).names.lookup ("_law_frac" : Str) = some NameKind.globalImplicit := by decide +kernel
theorem k_l_amount_by_l_take : (defScope s_l_amount_by).names.lookup ("_law_take" : Str) = some NameKind.globalImplicit := by decide +kernel
theorem k_l_twice_l_box_here : (defScope s_l_twice).names.lookup ("_law_box_here" : Str) = some NameKind.local := by decide +kernel
theorem k_l_twice_l_rows : (defScope s_l_twice).names.lookup ("_law_rows" : Str) = some NameKind.local := by decide +kernel
theorem k_l_twice_l_most_rows : (defScope s_l_twice).names.lookup ("_law_most_rows" : Str) = some NameKind.local := by decide +kernel
theorem k_l_twice_len : (defScope s_l_twice).names.lookup ("len" : Str) = some NameKind.globalImplicit := by decide +kernel
theorem k_l_twice_l_take : (defScope s_l_twice).names.lookup ("_law_take" : Str) = some NameKind.globalImplicit := by decide +kernel
theorem k_l_twice_tuple : (defScope s_l_twice).names.lookup ("tuple" : Str) = some NameKind.globalImplicit := by decide +kernel
theorem k_l_paths_in_l_thing : (defScope s_l_paths_in).names.lookup ("_law_thing" : Str) = some NameKind.local := by decide +kernel
theorem k_l_paths_in_l_path : (defScope s_l_paths_in).names.lookup ("_law_path" : Str) = some NameKind.local := by decide +kernel
theorem k_l_paths_in_l_found : (defScope s_l_paths_in).names.lookup ("_law_found" : Str) = some NameKind.local := by decide +kernel
theorem k_l_paths_in_l_k : (defScope s_l_paths_in).names.lookup ("_law_k" : Str) = some NameKind.local := by decide +kernel
theorem k_l_paths_in_l_one : (defScope s_l_paths_in).names.lookup ("_law_one" : Str) = some NameKind.local := by decide +kernel
theorem k_l_paths_in_isinstance : (defScope s_l_paths_in).names.lookup ("isinstance" : Str) = some NameKind.globalImplicit := by decide +kernel
theorem k_l_paths_in_list : (defScope s_l_paths_in).names.lookup ("list" : Str) = some NameKind.globalImplicit := by decide +kernel
theorem k_l_paths_in_tuple : (defScope s_l_paths_in).names.lookup ("tuple" : Str) = some NameKind.globalImplicit := by decide +kernel
theorem k_l_paths_in_enumerate : (defScope s_l_paths_in).names.lookup ("enumerate" : Str) = some NameKind.globalImplicit := by decide +kernel
theorem k_l_paths_in_l_paths_in : (defScope s_l_paths_in).names.lookup ("_law_paths_in" : Str) = some NameKind.globalImplicit := by decide +kernel
theorem k_l_odd_by_l_box_here : (defScope s_l_odd_by).names.lookup ("_law_box_here" : Str) = some NameKind.local := by decide +kernel
theorem k_l_odd_by_l_thing : (defScope s_l_odd_by).names.lookup ("_law_thing" : Str) = some NameKind.local := by decide +kernel
theorem k_l_odd_by_l_way : (defScope s_l_odd_by).names.lookup ("_law_way" : Str) = some NameKind.local := by decide +kernel
theorem k_l_odd_by_l_at : (defScope s_l_odd_by).names.lookup ("_law_at" : Str) = some NameKind.local := by decide +kernel
theorem k_l_odd_by_l_some : (defScope s_l_odd_by).names.lookup ("_law_some" : Str) = some NameKind.local := by decide +kernel
theorem k_l_odd_by_l_k : (defScope s_l_odd_by).names.lookup ("_law_k" : Str) = some NameKind.local := by decide +kernel
theorem k_l_odd_by_l_ahead : (defScope s_l_odd_by).names.lookup ("_law_ahead" : Str) = some NameKind.local := by decide +kernel
theorem k_l_odd_by_l_behind : (defScope s_l_odd_by).names.lookup ("_law_behind" : Str) = some NameKind.local := by decide +kernel
theorem k_l_odd_by_l_more : (defScope s_l_odd_by).names.lookup ("_law_more" : Str) = some NameKind.local := by decide +kernel
theorem k_l_odd_by_l_take : (defScope s_l_odd_by).names.lookup ("_law_take" : Str) = some NameKind.globalImplicit := by decide +kernel
theorem k_l_odd_by_isinstance : (defScope s_l_odd_by).names.lookup ("isinstance" : Str) = some NameKind.globalImplicit := by decide +kernel
theorem k_l_odd_by_bool : (defScope s_l_odd_by).names.lookup ("bool" : Str) = some NameKind.globalImplicit := by decide +kernel
theorem k_l_odd_by_int : (defScope s_l_odd_by).names.lookup ("int" : Str) = some NameKind.globalImplicit := by decide +kernel
theorem k_l_odd_by_str : (defScope s_l_odd_by).names.lookup ("str" : Str) = some NameKind.globalImplicit := by decide +kernel
theorem k_l_odd_by_list : (defScope s_l_odd_by).names.lookup ("list" : Str) = some NameKind.globalImplicit := by decide +kernel
theorem k_l_odd_by_tuple : (defScope s_l_odd_by).names.lookup ("tuple" : Str) = some NameKind.globalImplicit := by decide +kernel
theorem k_l_odd_by_len : (defScope s_l_odd_by).names.lookup ("len" : Str) = some NameKind.globalImplicit := by decide +kernel
theorem k_l_with_l_box_here : (defScope s_l_with).names.lookup ("_law_box_here" : Str) = some NameKind.local := by decide +kernel
theorem k_l_with_l_thing : (defScope s_l_with).names.lookup ("_law_thing" : Str) = some NameKind.local := by decide +kernel
theorem k_l_with_l_path : (defScope s_l_with).names.lookup ("_law_path" : Str) = some NameKind.local := by decide +kernel
theorem k_l_with_l_at : (defScope s_l_with).names.lookup ("_law_at" : Str) = some NameKind.local := by decide +kernel
theorem k_l_with_l_made : (defScope s_l_with).names.lookup ("_law_made" : Str) = some NameKind.local := by decide +kernel
theorem k_l_with_l_odd_by : (defScope s_l_with).names.lookup ("_law_odd_by" : Str) = some NameKind.globalImplicit := by decide +kernel
theorem k_l_with_list : (defScope s_l_with).names.lookup ("list" : Str) = some NameKind.globalImplicit := by decide +kernel
theorem k_l_with_l_with : (defScope s_l_with).names.lookup ("_law_with" : Str) = some NameKind.globalImplicit := by decide +kernel
theorem k_l_with_isinstance : (defScope s_l_with).names.lookup ("isinstance" : Str) = some NameKind.globalImplicit := by decide +kernel
theorem k_l_with_tuple : (defScope s_l_with).names.lookup ("tuple" : Str) = some NameKind.globalImplicit := by decide +kernel
theorem k_l_spoilt_l_box_here : (defScope s_l_spoilt).names.lookup ("_law_box_here" : Str) = some NameKind.local := by decide +kernel
theorem k_l_spoilt_l_thing : (defScope s_l_spoilt).names.lookup ("_law_thing" : Str) = some NameKind.local := by decide +kernel
theorem k_l_spoilt_l_some : (defScope s_l_spoilt).names.lookup ("_law_some" : Str) = some NameKind.local := by decide +kernel
theorem k_l_spoilt_l_paths_in : (defScope s_l_spoilt).names.lookup ("_law_paths_in" : Str) = some NameKind.globalImplicit := by decide +kernel
theorem k_l_spoilt_l_with : (defScope s_l_spoilt).names.lookup ("_law_with" : Str) = some NameKind.globalImplicit := by decide +kernel
theorem k_l_spoilt_l_take : (defScope s_l_spoilt).names.lookup ("_law_take" : Str) = some NameKind.globalImplicit := by decide +kernel
theorem k_l_spoilt_len : (defScope s_l_spoilt).names.lookup ("len" : Str) = some NameKind.globalImplicit := by decide +kernel
theorem k_l_is_fraction_l_thing : (defScope s_l_is_fraction).names.lookup ("_law_thing" : Str) = some NameKind.local := by decide +kernel
theorem k_l_is_fraction_isinstance : (defScope s_l_is_fraction).names.lookup ("isinstance" : Str) = some NameKind.globalImplicit := by decide +kernel
theorem k_l_is_fraction_tuple : (defScope s_l_is_fraction).names.lookup ("tuple" : Str) = some NameKind.globalImplicit := by decide +kernel
theorem k_l_is_fraction_len : (defScope s_l_is_fraction).names.lookup ("len" : Str) = some NameKind.globalImplicit := by decide +kernel
theorem k_l_is_fraction_all : (defScope s_l_is_fraction).names.lookup ("all" : Str) = some NameKind.globalImplicit := by decide +kernel
theorem k_l_is_fraction_l_frac : (defScope s_l_is_fraction).names.lookup ("_law_frac" : Str) = some NameKind.globalImplicit := by decide +kernel
theorem k_l_are_parts_l_thing : (defScope s_l_are_parts).names.lookup ("_law_thing" : Str) = some NameKind.local := by decide +kernel
theorem k_l_are_parts_l_mosts : (defScope s_l_are_parts).names.lookup ("_law_mosts" : Str) = some NameKind.local := by decide +kernel
theorem k_l_are_parts_isinstance : (defScope s_l_are_parts).names.lookup ("isinstance" : Str) = some NameKind.globalImplicit := by decide +kernel
theorem k_l_are_parts_list : (defScope s_l_are_parts).names.lookup ("list" : Str) = some NameKind.globalImplicit := by decide +kernel
theorem k_l_are_parts_len : (defScope s_l_are_parts).names.lookup ("len" : Str) = some NameKind.globalImplicit := by decide +kernel
theorem k_l_are_parts_all : (defScope s_l_are_parts).names.lookup ("all" : Str) = some NameKind.globalImplicit := by decide +kernel
theorem k_l_are_parts_zip : (defScope s_l_are_parts).names.lookup ("zip" : Str) = some NameKind.globalImplicit := by decide +kernel
theorem k_l_is_sending_l_plan : (defScope s_l_is_sending).names.lookup ("_law_plan" : Str) = some NameKind.local := by decide +kernel
theorem k_l_is_sending_l_thing : (defScope s_l_is_sending).names.lookup ("_law_thing" : Str) = some NameKind.local := by decide +kernel
theorem k_l_is_sending_l_load : (defScope s_l_is_sending).names.lookup ("_law_load" : Str) = some NameKind.local := by decide +kernel
theorem k_l_is_sending_l_tie : (defScope s_l_is_sending).names.lookup ("_law_tie" : Str) = some NameKind.local := by decide +kernel
theorem k_l_is_sending_l_total : (defScope s_l_is_sending).names.lookup ("_law_total" : Str) = some NameKind.local := by decide +kernel
theorem k_l_is_sending_l_one : (defScope s_l_is_sending).names.lookup ("_law_one" : Str) = some NameKind.local := by decide +kernel
theorem k_l_is_sending_l_turns_right : (defScope s_l_is_sending).names.lookup ("_law_turns_right" : Str) = some NameKind.local := by decide +kernel
theorem k_l_is_sending_isinstance : (defScope s_l_is_sending).names.lookup ("isinstance" : Str) = some NameKind.globalImplicit := by decide +kernel
theorem k_l_is_sending_tuple : (defScope s_l_is_sending).names.lookup ("tuple" : Str) = some NameKind.globalImplicit := by decide +kernel
theorem k_l_is_sending_len : (defScope s_l_is_sending).names.lookup ("len" : Str) = some NameKind.globalImplicit := by decide +kernel
theorem k_l_is_sending_list : (defScope s_l_is_sending).names.lookup ("list" : Str) = some NameKind.globalImplicit := by decide +kernel
theorem k_l_is_sending_zip : (defScope s_l_is_sending).names.lookup ("zip" : Str) = some NameKind.globalImplicit := by decide +kernel
theorem k_l_is_sending_l_are_parts : (defScope s_l_is_sending).names.lookup ("_law_are_parts" : Str) = some NameKind.globalImplicit := by decide +kernel
theorem k_l_is_sending_l_sum : (defScope s_l_is_sending).names.lookup ("_law_sum" : Str) = some NameKind.globalImplicit := by decide +kernel
theorem k_l_is_sending_l_above : (defScope s_l_is_sending).names.lookup ("_law_above" : Str) = some NameKind.globalImplicit := by decide +kernel
theorem k_l_part_of_l_box_here : (defScope s_l_part_of).names.lookup ("_law_box_here" : Str) = some NameKind.local := by decide +kernel
theorem k_l_part_of_l_top : (defScope s_l_part_of).names.lookup ("_law_top" : Str) = some NameKind.local := by decide +kernel
theorem k_l_part_of_l_many : (defScope s_l_part_of).names.lookup ("_law_many" : Str) = some NameKind.local := by decide +kernel
theorem k_l_part_of_l_product : (defScope s_l_part_of).names.lookup ("_law_product" : Str) = some NameKind.globalImplicit := by decide +kernel
theorem k_l_part_of_l_take : (defScope s_l_part_of).names.lookup ("_law_take" : Str) = some NameKind.globalImplicit := by decide +kernel
theorem k_l_any_sending_l_box_here : (defScope s_l_any_sending).names.lookup ("_law_box_here" : Str) = some NameKind.cell := by decide +kernel
theorem k_l_any_sending_l_plan : (defScope s_l_any_sending).names.lookup ("_law_plan" : Str) = some NameKind.cell := by decide +kernel
theorem k_l_any_sending_l_goes : (defScope s_l_any_sending).names.lookup ("_law_goes" : Str) = some NameKind.local := by decide +kernel
theorem k_l_any_sending_l_tie : (defScope s_l_any_sending).names.lookup ("_law_tie" : Str) = some NameKind.cell := by decide +kernel
theorem k_l_any_sending_l_way : (defScope s_l_any_sending).names.lookup ("_law_way" : Str) = some NameKind.local := by decide +kernel
theorem k_l_any_sending_l_some : (defScope s_l_any_sending).names.lookup ("_law_some" : Str) = some NameKind.local := by decide +kernel
theorem k_l_any_sending_l_turns : (defScope s_l_any_sending).names.lookup ("_law_turns" : Str) = some NameKind.local := by decide +kernel
theorem k_l_any_sending_l_take : (defScope s_l_any_sending).names.lookup ("_law_take" : Str) = some NameKind.globalImplicit := by decide +kernel
theorem k_l_any_sending_len : (defScope s_l_any_sending).names.lookup ("len" : Str) = some NameKind.globalImplicit := by decide +kernel
theorem k_l_any_sending_l_part_of : (defScope s_l_any_sending).names.lookup ("_law_part_of" : Str) = some NameKind.globalImplicit := by decide +kernel
theorem k_l_brims_l_plan : (defScope s_l_brims).names.lookup ("_law_plan" : Str) = some NameKind.local := by decide +kernel
theorem k_l_brims_l_sending : (defScope s_l_brims).names.lookup ("_law_sending" : Str) = some NameKind.local := by decide +kernel
theorem k_l_brims_l_found : (defScope s_l_brims).names.lookup ("_law_found" : Str) = some NameKind.local := by decide +kernel
theorem k_l_brims_l_at : (defScope s_l_brims).names.lookup ("_law_at" : Str) = some NameKind.local := by decide +kernel
theorem k_l_brims_l_tie : (defScope s_l_brims).names.lookup ("_law_tie" : Str) = some NameKind.local := by decide +kernel
theorem k_l_brims_l_some : (defScope s_l_brims).names.lookup ("_law_some" : Str) = some NameKind.local := by decide +kernel
theorem k_l_brims_l_more : (defScope s_l_brims).names.lookup ("_law_more" : Str) = some NameKind.local := by decide +kernel
theorem k_l_brims_l_load : (defScope s_l_brims).names.lookup ("_law_load" : Str) = some NameKind.local := by decide +kernel
theorem k_l_brims_l_goes : (defScope s_l_brims).names.lookup ("_law_goes" : Str) = some NameKind.local := by decide +kernel
theorem k_l_brims_enumerate : (defScope s_l_brims).names.lookup ("enumerate" : Str) = some NameKind.globalImplicit := by decide +kernel
theorem k_l_brims_l_product : (defScope s_l_brims).names.lookup ("_law_product" : Str) = some NameKind.globalImplicit := by decide +kernel
theorem k_l_brims_len : (defScope s_l_brims).names.lookup ("len" : Str) = some NameKind.globalImplicit := by decide +kernel
theorem k_l_brims_l_sum : (defScope s_l_brims).names.lookup ("_law_sum" : Str) = some NameKind.globalImplicit := by decide +kernel
theorem k_law_l_script : (defScope s_law).names.lookup ("_law_script" : Str) = some NameKind.local := by decide +kernel
theorem k_law_l_cells : (defScope s_law).names.lookup ("_law_cells" : Str) = some NameKind.local := by decide +kernel
theorem k_law_l_k : (defScope s_law).names.lookup ("_law_k" : Str) = some NameKind.local := by decide +kernel
theorem k_law_l_box_here : (defScope s_law).names.lookup ("_law_box_here" : Str) = some NameKind.local := by decide +kernel
theorem k_law_l_plan : (defScope s_law).names.lookup ("_law_plan" : Str) = some NameKind.local := by decide +kernel
theorem k_law_l_sending : (defScope s_law).names.lookup ("_law_sending" : Str) = some NameKind.local := by decide +kernel
theorem k_law_l_things : (defScope s_law).names.lookup ("_law_things" : Str) = some NameKind.local := by decide +kernel
theorem k_law_l_turn : (defScope s_law).names.lookup ("_law_turn" : Str) = some NameKind.local := by decide +kernel
theorem k_law_l_bent : (defScope s_law).names.lookup ("_law_bent" : Str) = some NameKind.local := by decide +kernel
theorem k_law_l_thing : (defScope s_law).names.lookup ("_law_thing" : Str) = some NameKind.local := by decide +kernel
theorem k_law_l_written : (defScope s_law).names.lookup ("_law_written" : Str) = some NameKind.local := by decide +kernel
theorem k_law_l_found : (defScope s_law).names.lookup ("_law_found" : Str) = some NameKind.local := by decide +kernel
theorem k_law_l_folded : (defScope s_law).names.lookup ("_law_folded" : Str) = some NameKind.globalImplicit := by decide +kernel
theorem k_law_range : (defScope s_law).names.lookup ("range" : Str) = some NameKind.globalImplicit := by decide +kernel
theorem k_law_max : (defScope s_law).names.lookup ("max" : Str) = some NameKind.globalImplicit := by decide +kernel
theorem k_law_len : (defScope s_law).names.lookup ("len" : Str) = some NameKind.globalImplicit := by decide +kernel
theorem k_law_l_box : (defScope s_law).names.lookup ("_law_box" : Str) = some NameKind.globalImplicit := by decide +kernel
theorem k_law_l_plan_by : (defScope s_law).names.lookup ("_law_plan_by" : Str) = some NameKind.globalImplicit := by decide +kernel
theorem k_law_l_any_sending : (defScope s_law).names.lookup ("_law_any_sending" : Str) = some NameKind.globalImplicit := by decide +kernel
theorem k_law_list : (defScope s_law).names.lookup ("list" : Str) = some NameKind.globalImplicit := by decide +kernel
theorem k_law_l_brims : (defScope s_law).names.lookup ("_law_brims" : Str) = some NameKind.globalImplicit := by decide +kernel
theorem k_law_l_spoilt : (defScope s_law).names.lookup ("_law_spoilt" : Str) = some NameKind.globalImplicit := by decide +kernel
theorem k_law_str : (defScope s_law).names.lookup ("str" : Str) = some NameKind.globalImplicit := by decide +kernel
theorem k_law_is_sending : (defScope s_law).names.lookup ("is_sending" : Str) = some NameKind.globalImplicit := by decide +kernel
theorem k_law_isinstance : (defScope s_law).names.lookup ("isinstance" : Str) = some NameKind.globalImplicit := by decide +kernel
theorem k_law_bool : (defScope s_law).names.lookup ("bool" : Str) = some NameKind.globalImplicit := by decide +kernel
theorem k_law_l_is_sending : (defScope s_law).names.lookup ("_law_is_sending" : Str) = some NameKind.globalImplicit := by decide +kernel
end K46
namespace K46
open PySem L2
section
variable {P : Program} {w : World} {K : PySem.W.Frag} {mg : Str → Option Value} {base : Heap}
inductive spNum_ (vs : List V) (H : Hp) (Q : VK) : Prop
  | mk (x : V) (d : PyData) (E : Addr → Prop) (h0 : vs = [x]) (h1 : IsD E H x d) (h2 : Q (.bl (isNum d)) H)
def spNum : Sp := fun vs H Q _ => spNum_  vs H Q
theorem ok_is_number (T : Txt K mg) : FnOk P w K mg base CX0 1 T.f_is_number T.d_is_number ["thing"] spNum := by
  refine T.F_is_number.ok sc_is_number (fun vs H Q E h => ?_) (fun cdv A outer s H vs Q E hr h => ?_)
  · obtain ⟨x, d, F, rfl, _⟩ := h
    rfl
  · obtain ⟨x, d, F, rfl, hx, k⟩ := h
    refine ⟨_, (pss_one (ps_ret (pe_and (pe_callB call_isinst (by rfl) T.b_isinstance boot_b_isinstance (pa_cons (pv 0) (pa_cons (pe_ty rfl T.b_int boot_ty_int) pa_nil))) (pe_one (pe_not (pe_callB call_isinst (by rfl) T.b_isinstance boot_b_isinstance (pa_cons (pv 0) (pa_cons (pe_ty rfl T.b_bool boot_ty_bool) pa_nil)))))))), ?_⟩
    refine ⟨_, rfl, _, _, _, _, rfl, hx.ty, kit_int d, _, rfl, ?_⟩
    have rest : ∀ b, isNum d = !b → isBoolB d = b → tNotV (tCB (fun xs H Q => Ex4 fun x T t b => xs = [x, .ty T] ∧ TyOf K H x t ∧ PySem.W.kitOne K t (.type T) = some b ∧ Q (.bl b) H) (tCons (tVar 0) (tCons (tC (.ty "bool")) tNil))) (start ["thing"] [x]) H Q := fun b e1 e2 => by
      refine ⟨_, rfl, _, _, _, _, rfl, hx.ty, kit_bool d, _, rfl, ?_⟩
      rw [e2, ← e1]
      exact k
    cases d with
    | int i => exact iteT (rest false rfl rfl)
    | bool b => exact iteT (rest true rfl rfl)
    | none => exact iteF k
    | str _ => exact iteF k
    | list _ => exact iteF k
    | tuple _ => exact iteF k
    | dict _ => exact iteF k
inductive spGcd_ (vs : List V) (H : Hp) (Q : VK) : Prop
  | mk (n d : Int) (h0 : vs = [.int n, .int d]) (h1 : Q (.int (Int.gcd n d : Nat)) H)
def spGcd : Sp := fun vs H Q _ => spGcd_  vs H Q
theorem ok_common_divisor (T : Txt K mg) : FnOk P w K mg base CX0 1 T.f_common_divisor T.d_common_divisor ["n", "d"] spGcd := by
  refine T.F_common_divisor.ok sc_common_divisor (fun vs H Q E h => ?_) (fun cdv A outer s H vs Q E hr h => ?_)
  · obtain ⟨n, d, rfl, _⟩ := h
    rfl
  · obtain ⟨n, d, rfl, k⟩ := h
    refine ⟨_, (pss_cons (ps_while PassesOwn.never (pt_cmpR op_ne (pv 1) pe_int (nomark _)) (pss_one (ps_par (i := 0) (j := 1) rfl sc_common_divisor.nd rfl rfl (by decide) rfl rfl (pa_cons (pv 1) (pa_cons (pe_op op_modN (pv 0) (pv 1)) pa_nil)) rfl)))
      (pss_one (ps_ret (pe_callB call_abs (by rfl) T.b_abs boot_b_abs (pa_cons (pv 0) pa_nil))))), ?_⟩
    refine ⟨fun m σ H' => ∃ a b : Int, σ = [some (.int a), some (.int b)] ∧ H' = H ∧ Int.gcd a b = Int.gcd n d ∧ m = b.natAbs, ⟨_, n, d, rfl, rfl, rfl, rfl⟩, ?_⟩
    rintro m σ H' ⟨a, b, rfl, rfl, hg, rfl⟩
    refine ⟨_, rfl, rfl, _, rfl, ?_⟩
    by_cases hb : b = 0
    · subst hb
      refine iteF ?_
      refine ⟨_, rfl, _, rfl, ?_⟩
      rw [← KM.gcd_zero_abs, hg]
      exact k
    · have e : (!decide (V.int b = V.int 0)) = true := by
        rw [decide_eq_false (fun z => hb (by injection z))]; rfl
      rw [e]
      refine iteT ⟨fun σ' H'' => ∃ a' b' : Int, σ' = [some (.int a'), some (.int b')] ∧ H'' = H' ∧ Int.gcd a' b' = Int.gcd n d ∧ b'.natAbs < b.natAbs, ?_, ?_⟩
      · rintro σ' H'' ⟨a', b', rfl, rfl, h1, h2⟩
        exact ⟨_, h2, a', b', rfl, rfl, h1, rfl⟩
      · refine ⟨_, rfl, _, rfl, _, rfl, _, _, rfl, rfl, hb, _, _, rfl, ?_⟩
        exact ⟨b, a.fmod b, rfl, rfl, (KM.gcd_fmod a b).trans hg, KM.fmod_natAbs_lt a b hb⟩
def isFr : PyData → Bool
  | .tuple [.int n, .int d] => decide (1 ≤ d) && decide (Int.gcd n d = 1)
  | _ => false
inductive spFr_ (vs : List V) (H : Hp) (Q : VK) : Prop
  | mk (x : V) (d : PyData) (E : Addr → Prop) (h0 : vs = [x]) (h1 : IsD E H x d) (h2 : Q (.bl (isFr d)) H)
def spFr : Sp := fun vs H Q _ => spFr_  vs H Q
theorem ok_is_fraction (T : Txt K mg) : FnOk P w K mg base CX0 2 T.f_is_fraction T.d_is_fraction ["thing"] spFr := by
  have G_is_number := ok_is_number (P := P) (w := w) (base := base) T
  have G_common_divisor := ok_common_divisor (P := P) (w := w) (base := base) T
  refine T.F_is_fraction.ok sc_is_fraction (fun vs H Q E h => ?_) (fun cdv A outer s H vs Q E hr h => ?_)
  · obtain ⟨x, d, F, rfl, _⟩ := h
    rfl
  · obtain ⟨x, d, F, rfl, hx, k⟩ := h
    refine ⟨_, (pss_cons (ps_if (PW.pt (pw_or (pt_not (pt_val (pe_callB call_isinst (by rfl) T.b_isinstance boot_b_isinstance (pa_cons (pv 0) (pa_cons (pe_ty rfl T.b_tuple boot_ty_tuple) pa_nil))))) (pw_or1 (pt_cmpR op_ne (pe_callB call_len_seq (by rfl) T.b_len boot_b_len (pa_cons (pv 0) pa_nil)) pe_int (nomark _))))) (pss_one (ps_ret pe_bl)) pss_nil)
      (pss_cons (ps_asg (pv 0) (pg_tup rfl (pgs_cons (pg_name (i := 1) sc_is_fraction.nd rfl (Or.inl rfl)) (pgs_cons (pg_name (i := 2) sc_is_fraction.nd rfl (Or.inl rfl)) pgs_nil))))
      (pss_cons (ps_if (PW.pt (pw_or (pt_not (pt_val (pe_call G_is_number (hr.mono (by decide)) rfl T.m_is_number T.F_is_number.kp T.B_is_number .nil pass0 (pa_cons (pv 1) pa_nil)))) (pw_or1 (pt_not (pt_val (pe_call G_is_number (hr.mono (by decide)) rfl T.m_is_number T.F_is_number.kp T.B_is_number .nil pass0 (pa_cons (pv 2) pa_nil))))))) (pss_one (ps_ret pe_bl)) pss_nil)
      (pss_one (ps_ret (pe_and (pe_cmpR op_ge (pv 2) pe_int (nomark _)) (pe_one (pe_cmpR op_eq (pe_call G_common_divisor (hr.mono (by decide)) rfl T.m_common_divisor T.F_common_divisor.kp T.B_common_divisor .nil pass0 (pa_cons (pv 1) (pa_cons (pv 2) pa_nil))) pe_int (nomark _))))))))), ?_⟩
    refine ⟨_, rfl, _, _, _, _, rfl, hx.ty, kit_tuple d, _, rfl, ?_⟩
    cases hx with
    | non => exact iteT (iteT k)
    | bl b => exact iteT (iteT k)
    | int i => exact iteT (iteT k)
    | str y => exact iteT (iteT k)
    | lst h ne r => exact iteT (iteT k)
    | @tup a xs ds h r =>
      refine iteF ?_
      refine ⟨_, rfl, _, xs, rfl, .inr (SqT.of h), rfl, _, rfl, ?_⟩
      have hl := r.length
      by_cases h2 : xs.length = 2
      · have e : (!decide (V.int (xs.length : Int) = V.int 2)) = false := by
          rw [h2]; rfl
        rw [e]
        refine iteF ?_
        obtain ⟨v1, v2, rfl⟩ : Ex2 fun v1 v2 => xs = [v1, v2] := len2 (P := fun l => Ex2 fun v1 v2 => l = [v1, v2]) (fun a b => ⟨a, b, rfl⟩) _ h2
        cases r with
        | @cons _ _ d1 _ r1 r =>
        cases r with
        | @cons _ _ d2 _ r2 r =>
        cases r
        refine ⟨_, rfl, a, [v1, v2], rfl, SqT.of h, rfl, v1, [v2], rfl, v2, [], rfl, rfl, ?_⟩
        refine ⟨_, rfl, v1, d1, F, rfl, r1, _, rfl, ?_⟩
        cases r1 with
        | non => exact iteT (iteT k)
        | bl b => exact iteT (iteT k)
        | str y => exact iteT (iteT k)
        | lst _ _ _ => exact iteT (iteT k)
        | tup _ _ => exact iteT (iteT k)
        | int n =>
          refine iteF ?_
          refine ⟨_, rfl, v2, d2, F, rfl, r2, _, rfl, ?_⟩
          cases r2 with
          | non => exact iteT k
          | bl b => exact iteT k
          | str y => exact iteT k
          | lst _ _ _ => exact iteT k
          | tup _ _ => exact iteT k
          | int de =>
            refine iteF ?_
            refine ⟨_, rfl, _, _, rfl, rfl, _, rfl, ?_⟩
            by_cases he : 1 ≤ de
            · rw [decide_eq_true he]
              refine iteT ?_
              refine ⟨_, rfl, _, rfl, n, de, rfl, rfl, ?_⟩
              have q : isFr (.tuple [.int n, .int de]) = decide (V.int ((Int.gcd n de : Nat) : Int) = V.int 1) := by
                show (decide (1 ≤ de) && decide (Int.gcd n de = 1)) = _
                rw [decide_eq_true he, Bool.true_and]
                by_cases g : Int.gcd n de = 1
                · rw [g]; rfl
                · rw [decide_eq_false g, decide_eq_false]
                  intro z
                  injection z with z
                  exact g (by trivial)
              rw [← q]
              exact k
            · rw [decide_eq_false he]
              refine iteF ?_
              have q : isFr (.tuple [.int n, .int de]) = false := by
                show (decide (1 ≤ de) && decide (Int.gcd n de = 1)) = _
                rw [decide_eq_false he, Bool.false_and]
              rw [← q]
              exact k
      · have e : (!decide (V.int (xs.length : Int) = V.int 2)) = true := by
          rw [decide_eq_false]
          · rfl
          · intro z
            injection z with z
            exact h2 (by trivial)
        rw [e]
        refine iteT ?_
        have q : isFr (.tuple ds) = false := by
          unfold isFr
          split
          · rename_i z
            injection z with z
            subst z
            simp at hl
            exact absurd hl h2
          · rfl
        rw [← q]
        exact k
end
end K46
namespace K46
open PySem L2
abbrev nts (r : List Nat) : List V := r.map fun i : Nat => V.int ((i : Nat) : Int)
section
variable {P : Program} {w : World} {K : PySem.W.Frag} {mg : Str → Option Value} {base : Heap}
end
end K46
namespace K46
open PySem L2
section
variable {P : Program} {w : World} {K : PySem.W.Frag} {mg : Str → Option Value} {base : Heap}
end
end K46
namespace K46
open PySem L2
section
variable {P : Program} {w : World} {K : PySem.W.Frag} {mg : Str → Option Value} {base : Heap}
theorem ok_box (T : Txt K mg) : FnOk P w K mg base CX0 1 T.f_l_box T.d_l_box ["_law_script", "_law_k"] (spBox K) := by
  refine T.F_l_box.ok sc_l_box (fun vs H Q E h => ?_) (fun cdv A outer s H vs Q E hr h => ?_)
  · obtain ⟨a, ms, k, rfl, _⟩ := h
    rfl
  · obtain ⟨a, ms, k, rfl, hS, hk0, hk1, kk⟩ := h
    refine ⟨_, (pss_cons (ps_set (i := 2) sc_l_box.nd rfl (Or.inl rfl) pe_int)
      (pss_cons (ps_if (pt_cmpR op_lt (pv 1) (pe_callB call_len_seq (by rfl) T.b_len boot_b_len (pa_cons (pv 0) pa_nil)) (nomark _)) (pss_one (ps_set (i := 2) sc_l_box.nd rfl (Or.inl rfl) (pe_ix ix_seq (pv 0) (pv 1) (fun _ _ => rfl)))) pss_nil)
      (pss_one (ps_ret (pe_lst (pa_cons (pe_op op_mul (pe_callB call_abs (by rfl) T.b_abs boot_b_abs (pa_cons (pv 2) pa_nil)) (pe_callTy call_int1 (by rfl) T.b_int boot_ty_int (pa_cons (pe_cmpR op_ge (pe_callB call_abs (by rfl) T.b_abs boot_b_abs (pa_cons (pv 2) pa_nil)) (pe_op op_pow pe_int pe_int) (nomark _)) pa_nil))) (pa_cons (pe_op op_mod (pe_op op_add (pv 2) (pe_op op_mul (pe_op op_mul pe_int (pv 1)) (pv 1))) pe_int) (pa_cons pe_int pa_nil)))))))), ?_⟩
    refine ⟨_, rfl, _, rfl, a, _, rfl, .inl hS, _, _, rfl, rfl, _, rfl, ?_⟩
    refine ite2 (fun h => ?_) (fun h => ?_)
    case' refine_1 =>
      have hlt : k.toNat < ms.length := by
        have h' := of_decide_eq_true h
        rw [List.length_map] at h'
        trivial
      refine ⟨_, rfl, _, rfl, .inl ⟨a, _, _, V.int ms[k.toNat], rfl, rfl, hS, ?_, ?_⟩⟩
      · exact atI_int hk0 hlt
    all_goals
      refine ⟨_, rfl, _, rfl, _, rfl, _, rfl, _, _, rfl, rfl, ⟨by decide, by decide, by decide⟩, _, _, rfl, rfl, .inr ⟨_, rfl, _, _, rfl, rfl, .inr ?_, _, rfl, _, rfl, _, _, rfl, rfl, .inr ⟨by trivial, by trivial⟩, _, rfl, _, _, rfl, rfl, .inr ⟨by trivial, by trivial⟩, _, _, rfl, rfl, _, _, rfl, rfl, ?_, ?_, fun p hp => kk p _ hp (Same.new hp) ⟨_, _, upd_same, ?_, ?_, ?_⟩⟩⟩
      · exact b01 _
      · show (0 : Int) < 2147483647; decide
      · show 3 ≤ sizeLine; decide
      · exact mul01 _ (abs_nn _)
      · exact Int.emod_nonneg _ (by decide)
      · exact Int.emod_lt_of_pos _ (by decide)
end
end K46
namespace K46
open PySem L2
section
variable {P : Program} {w : World} {K : PySem.W.Frag} {mg : Str → Option Value} {base : Heap}
theorem ok_take (T : Txt K mg) : FnOk P w K mg base CX0 1 T.f_l_take T.d_l_take ["_law_box_here", "_law_many"] spTake := by
  refine T.F_l_take.ok sc_l_take (fun vs H Q E h => ?_) (fun cdv A outer s H vs Q E hr h => ?_)
  · obtain ⟨b, many, t, rfl, _⟩ := h
    rfl
  · obtain ⟨b, many, t, rfl, ⟨c, x, hb, hc, hx0, hx1⟩, hm0, hm1, ht0, ht1, kk⟩ := h
    refine ⟨_, (pss_cons (ps_if (pt_cmpR op_gt (pe_ix ix_seq (pv 0) pe_int (fun _ _ => rfl)) pe_int (nomark _)) (pss_cons (ps_asg (pe_callB call_divmodB (by rfl) T.b_divmod boot_b_divmod (pa_cons (pe_ix ix_seq (pv 0) pe_int (fun _ _ => rfl)) (pa_cons (pv 1) pa_nil))) (pg_tup rfl (pgs_cons (pg_sub (pv 0) pe_int set_list) (pgs_cons (pg_name (i := 2) sc_l_take.nd rfl (Or.inl rfl)) pgs_nil))))
        (pss_one (ps_ret (pv 2)))) pss_nil)
      (pss_cons (ps_asg (pe_op op_add (pe_ix ix_seq (pv 0) pe_int (fun _ _ => rfl)) pe_int) (pg_sub (pv 0) pe_int set_list))
      (pss_cons (ps_set (i := 3) sc_l_take.nd rfl (Or.inl rfl) (pe_op op_mod (pe_op op_pow (pe_op op_add (pe_ix ix_seq (pv 0) pe_int (fun _ _ => rfl)) (pe_op op_mul pe_int (pe_ix ix_seq (pv 0) pe_int (fun _ _ => rfl)))) pe_int) pe_int))
      (pss_one (ps_ret (pe_op op_mod (pe_op op_fdiv (pe_op op_mod (pe_op op_add (pe_op op_mul (pv 3) pe_int) (pe_op op_mul (pe_op op_mul (pe_ix ix_seq (pv 0) pe_int (fun _ _ => rfl)) (pe_ix ix_seq (pv 0) pe_int (fun _ _ => rfl))) pe_int)) pe_int) pe_int) (pv 1))))))), ?_⟩
    refine ⟨_, rfl, .inl ⟨b, _, _, _, rfl, rfl, SqL.of hb, rfl, _, _, rfl, rfl, _, rfl, ?_⟩⟩
    refine ite2 (fun h => ?_) (fun h => ?_)
    · refine ⟨_, rfl, .inl ⟨b, _, _, _, rfl, rfl, SqL.of hb, rfl, _, rfl, _, _, rfl, ⟨hm0, hm1⟩, fun p hp => ⟨p, _, rfl, SqT.of upd_same, rfl, _, _, rfl, _, rfl, b, [.int c, .int x, .int t], _, 0, rfl, rfl, ?_, rfl, _, _, rfl, rfl, _, rfl, ?_⟩⟩⟩
      · rw [upd_ne (ne_of_none hb hp)]; exact hb
      · have hb' : upd H p (.tup [.int (c / many), .int (c % many)]) b = some (.lst [.int c, .int x, .int t]) := by rw [upd_ne (ne_of_none hb hp)]; exact hb
        exact kk _ t _ (Int.emod_nonneg _ (Int.ne_of_gt hm0)) (Int.emod_lt_of_pos _ hm0) (Int.le_refl _) (by trivial) (sameE_upd (Same.new hp) hb') ⟨_, _, upd_same, Int.ediv_nonneg hc (Int.le_of_lt hm0), hx0, hx1⟩
    · refine ⟨_, rfl, .inl ⟨b, _, _, _, rfl, rfl, SqL.of hb, rfl, _, _, rfl, rfl, _, rfl, b, _, _, 2, rfl, rfl, hb, rfl, ?_⟩⟩
      refine ⟨_, rfl, .inl ⟨b, _, _, _, rfl, rfl, SqL.of upd_same, rfl, _, rfl, .inl ⟨b, _, _, _, rfl, rfl, SqL.of upd_same, rfl, _, _, rfl, rfl, .inl ⟨by decide, by decide⟩, _, _, rfl, rfl, _, _, rfl, rfl, ⟨by decide, by decide, ?_⟩, _, _, rfl, rfl, ?_, ?_⟩⟩⟩
      · have : (x + 39373 * (t + 1)).natAbs < 2 ^ 64 := by trivial
        exact this
      · show (0 : Int) < 2147483647; decide
      have ho0 : 0 ≤ (x + 39373 * (t + 1)) ^ (5 : Int).toNat % 2147483647 := Int.emod_nonneg _ (by decide)
      have ho1 : (x + 39373 * (t + 1)) ^ (5 : Int).toNat % 2147483647 < 2147483647 := Int.emod_lt_of_pos _ (by decide)
      generalize (x + 39373 * (t + 1)) ^ (5 : Int).toNat % 2147483647 = on at ho0 ho1 ⊢
      refine ⟨_, rfl, _, _, rfl, rfl, .inr ⟨by decide, by decide⟩, _, rfl, .inl ⟨b, _, _, _, rfl, rfl, SqL.of upd_same, rfl, _, rfl, .inl ⟨b, _, _, _, rfl, rfl, SqL.of upd_same, rfl, _, _, rfl, rfl, .inl ⟨?_, ?_⟩, _, _, rfl, rfl, .inr ⟨by decide, by decide⟩, _, _, rfl, rfl, _, _, rfl, rfl, ?_, _, _, rfl, rfl, ⟨by decide, by decide⟩, _, rfl, _, _, rfl, rfl, hm0, ?_⟩⟩⟩
      · show -(2 ^ 64) < t + 1; trivial
      · show t + 1 < 2 ^ 64; trivial
      · show (0 : Int) < 2147483629; decide
      · exact kk _ (t + 1) _ (Int.emod_nonneg _ (Int.ne_of_gt hm0)) (Int.emod_lt_of_pos _ hm0) (by trivial) (Int.le_refl _) (sameE_upd (Same.refl H) hb) ⟨c, x, upd_same, hc, hx0, hx1⟩
end
end K46
namespace K46
open PySem L2
section
variable {P : Program} {w : World} {K : PySem.W.Frag} {mg : Str → Option Value} {base : Heap}
inductive spFoldN_ (K : PySem.W.Frag) (vs : List V) (H : Hp) (Q : VK) : Prop
  | mk (a : Addr) (ns : List Int) (many : Int) (h0 : vs = [.ref a, .int many]) (h1 : SqL K H a (ns.map V.int)) (h2 : ns.length ≤ 63) (h3 : 2 ≤ many) (h4 : many ≤ 63) (h5 : ∀ p ms H', H p = none → Same H H' → H' p = some (.lst ((ms : List Int).map V.int)) → (ms.length : Int) ≤ many → Q (.ref p) H')
def spFoldN (K : PySem.W.Frag) : Sp := fun vs H Q _ => spFoldN_ K vs H Q
theorem ok_folded (T : Txt K mg) : FnOk P w K mg base CX0 1 T.f_l_folded T.d_l_folded ["_law_script", "_law_many"] (spFoldN K) := by
  refine T.F_l_folded.ok sc_l_folded (fun vs H Q E h => ?_) (fun cdv A outer s H vs Q E hr h => ?_)
  · obtain ⟨a, ns, many, rfl, _⟩ := h
    rfl
  · obtain ⟨a, ns, many, rfl, hS, hn, hm0, hm1, kk⟩ := h
    refine ⟨_, (pss_cons (ps_set (i := 2) sc_l_folded.nd rfl (Or.inl rfl) (pe_callTy call_list_of (by rfl) T.b_list boot_ty_list (pa_cons (pe_slice sl_list (pv 0) po_none (po_some (pv 1))) pa_nil)))
      (pss_cons (ps_for PassesOwn.never rfl (pi_enum rfl T.b_enumerate (pa_cons (pe_slice sl_list (pv 0) (po_some (pv 1)) (po_some pe_int)) pa_nil)) (pg_tup rfl (pgs_cons (pg_name (i := 3) sc_l_folded.nd rfl (Or.inl rfl)) (pgs_cons (pg_name (i := 4) sc_l_folded.nd rfl (Or.inl rfl)) pgs_nil))) (pss_one (ps_asg (pe_op op_add (pe_ix ix_seq (pv 2) (pe_op op_mod (pv 3) (pv 1)) (fun _ _ => rfl)) (pe_op op_mul (pv 4) (pe_op op_add (pv 3) pe_int))) (pg_sub (pv 2) (pe_op op_mod (pv 3) (pv 1)) set_list))))
      (pss_one (ps_ret (pv 2))))), ?_⟩
    have cutE : ∀ (lo hi : Option Int), ∃ cs : List Int, cutV (ns.map V.int) lo hi = cs.map V.int ∧ cs.length ≤ ns.length ∧ cs = (ns.drop (HT.sIx ns.length 0 lo)).take (HT.sIx ns.length ns.length hi - HT.sIx ns.length 0 lo) := fun lo hi => by
      refine ⟨(ns.drop (HT.sIx ns.length 0 lo)).take (HT.sIx ns.length ns.length hi - HT.sIx ns.length 0 lo), ?_, ?_, rfl⟩
      · unfold cutV
        rw [List.length_map, List.map_take, List.map_drop]
      · rw [List.length_take, List.length_drop]; trivial
    obtain ⟨c1, e1, l1, q1⟩ := cutE none (some many)
    obtain ⟨c2, e2, l2, q2⟩ := cutE (some many) (some 63)
    have em : many = ((many.toNat : Nat) : Int) := by trivial
    have l1m : c1.length = min many.toNat ns.length := by
      rw [q1, em, HT.sIx_nat, HT.sIx_none, List.length_take, List.length_drop]
      simp only [Int.toNat_natCast]
      trivial
    have l2m : c2.length ≤ ns.length - many.toNat := by
      rw [q2, em, HT.sIx_nat, List.length_take, List.length_drop]
      simp only [Int.toNat_natCast]
      trivial
    refine ⟨_, rfl, _, rfl, _, rfl, a, _, rfl, hS, fun p1 hp1 => ⟨p1, _, rfl, .inl (SqL.of upd_same), fun p2 hp2 => ?_⟩⟩
    rw [e1] at hp2 ⊢
    have n12 : p2 ≠ p1 := fun z => by rw [z, upd_same] at hp2; cases hp2
    have s2 : Same H (upd (upd H p1 (.lst (c1.map V.int))) p2 (.lst (c1.map V.int))) := (Same.new hp1).trans (Same.new hp2)
    refine ⟨_, rfl, _, rfl, _, rfl, _, rfl, a, _, rfl, s2.seq hS, fun p3 hp3 => ⟨p3, rfl, ⟨_, SqL.of upd_same⟩, ?_⟩⟩
    rw [e2]
    have s3 := s2.trans (Same.new (o := .lst (c2.map V.int)) hp3)
    have n23 : p2 ≠ p3 := fun z => by rw [← z, upd_same] at hp3; cases hp3
    refine ⟨fun i m σ H' => m = c2.length - i ∧ i ≤ c2.length ∧ Ex3 fun (ms : List Int) (v3 v4 : Option V) => σ = [some (.ref a), some (.int many), some (.ref p2), v3, v4] ∧ ms.length = c1.length ∧ H' p2 = some (.lst (ms.map V.int)) ∧ H' p3 = some (.lst (c2.map V.int)) ∧ (∀ b o, b ≠ p2 → H b = some o → H' b = some o) , ⟨_, rfl, Nat.zero_le _, c1, none, none, rfl, rfl, ?_, upd_same, fun b o _ h => s3 b o h⟩, ?_⟩
    · rw [upd_ne n23]; exact upd_same
    rintro i m σ H' ⟨rfl, hi, ms, v3, v4, rfl, hms, h2, h3, hk⟩
    by_cases hlt : i < c2.length
    · refine .inr ⟨⟨c2.map V.int, V.int c2[i], SqL.of h3, by rw [List.getElem?_map]; simp [hlt]⟩, _, fun σ' H'' z => z, ?_⟩
      rintro x H'' ⟨t, y, ht, rfl, rfl, hy⟩
      have hy' := hy _ (SqL.of h3)
      rw [List.getElem?_map, List.getElem?_eq_getElem hlt] at hy'
      obtain rfl : V.int c2[i] = y := Option.some.inj hy'
      have nt2 : p2 ≠ t := ne_of_none h2 ht
      have nt3 : p3 ≠ t := ne_of_none h3 ht
      have hlen : many.toNat < ns.length := by trivial
      have hmod0 : 0 ≤ (i : Int) % many := Int.emod_nonneg _ (by trivial)
      have hmod1 : (i : Int) % many < many := Int.emod_lt_of_pos _ (by trivial)
      have hixlt : ((i : Int) % many).toNat < ms.length := by trivial
      refine ⟨t, _, rfl, SqT.of upd_same, rfl, _, _, rfl, _, _, rfl, rfl, _, rfl, _, rfl, _, rfl, _, _, rfl, rfl, (by show (0 : Int) < many; trivial), .inl ⟨p2, ms.map V.int, _, V.int ms[((i : Int) % many).toNat], rfl, rfl, SqL.of (by rw [upd_ne nt2]; exact h2), atI_int hmod0 hixlt, _, rfl, _, rfl, _, _, rfl, rfl, _, _, rfl, rfl, .inr ⟨?_, ?_⟩, _, _, rfl, rfl, _, rfl, _, rfl, _, rfl, _, _, rfl, rfl, (by show (0 : Int) < many; trivial), p2, ms.map V.int, _, ((i : Int) % many).toNat, rfl, rfl, (by rw [upd_ne nt2]; exact h2), ?_, ?_⟩⟩
      · trivial
      · trivial
      · unfold ixN
        rw [if_pos hmod0, List.length_map, if_pos (by trivial)]
      · refine ⟨c2.length - (i + 1), by trivial, rfl, hlt, ms.set ((i : Int) % many).toNat (ms[((i : Int) % many).toNat] + c2[i] * ((i : Int) + 2)), _, _, rfl, by rw [List.length_set]; exact hms, ?_, ?_, fun b o hb h => ?_⟩
        · rw [upd_same, List.map_set]
        · rw [upd_ne (Ne.symm n23), upd_ne nt3]; exact h3
        · have := hk b o hb h
          rw [upd_ne hb, upd_ne (ne_of_none this ht)]
          exact this
    · refine .inl ⟨⟨_, SqL.of h3, by rw [List.length_map]; trivial⟩, ?_⟩
      have hp2' : H p2 = none := by
        rw [upd_ne n12] at hp2
        exact hp2
      have sH : Same H H' := fun b o h => hk b o (ne_of_none h hp2') h
      exact ⟨_, rfl, kk p2 ms H' hp2' sH h2 (by trivial)⟩
end
end K46
namespace K46
open PySem L2
section
variable {P : Program} {w : World} {K : PySem.W.Frag} {mg : Str → Option Value} {base : Heap}
theorem ok_fraction (T : Txt K mg) : FnOk P w K mg base CX0 2 T.f_fraction T.d_fraction ["n", "d"] spLowA := by
  have G_common_divisor := ok_common_divisor (P := P) (w := w) (base := base) T
  refine T.F_fraction.ok sc_fraction (fun vs H Q E h => ?_) (fun cdv A outer s H vs Q E hr h => ?_)
  · obtain ⟨n, d, rfl, _⟩ := h
    rfl
  · obtain ⟨n, d, rfl, hd, hs, k⟩ := h
    refine ⟨_, (@pss_cons _ _ _ _ _ (@ps_set _ _ (2) _ _ _ _ sc_fraction.nd rfl (Or.inl k_fraction_divisor) (@pe_call _ _ _ _ _ _ _ _ _ _ _ _ _ _ _ _ G_common_divisor (hr.mono (by decide)) k_fraction_common_divisor T.m_common_divisor T.F_common_divisor.kp T.B_common_divisor .nil (@pass0 _) (@pa_c _ _ _ _ _ (@pw _ 0 _ _ (Or.inl k_fraction_n) (by rfl) (by decide) (by decide)) (@pa_c _ _ _ _ _ (@pw _ 1 _ _ (Or.inl k_fraction_d) (by rfl) (by decide) (by decide)) (@pa_nil _) rfl) rfl) (by decide) (by rfl) (by rfl)) (by rfl) (by first | exact .inl rfl | exact .inr rfl | assumption)) (@pss_cons _ _ _ _ _ (@ps_if _ _ _ _ _ _ _ _ (@pt_cmpR _ _ _ _ _ _ _ _ (@op_lt _) (@pw _ 1 _ _ (Or.inl k_fraction_d) (by rfl) (by decide) (by decide)) (@pe_int _ _ _ _) (@nomark _ _ (by decide) (by decide))) (@pss_one _ _ _ (@ps_set _ _ (2) _ _ _ _ sc_fraction.nd rfl (Or.inl k_fraction_divisor) (@pe_un _ _ _ _ _ _ (@un_neg _) (@pw _ 2 _ _ (Or.inl k_fraction_divisor) (by rfl) (by decide) (by decide))) (by rfl) (by first | exact .inl rfl | exact .inr rfl | assumption))) (@pss_nil _)) (@pss_one _ _ _ (@ps_ret _ _ _ _ (@pe_tupA _ _ _ _ _ (@pa_c _ _ _ _ _ (@pe_op _ _ _ _ _ _ _ _ (@op_fdivS _) (@pw _ 0 _ _ (Or.inl k_fraction_n) (by rfl) (by decide) (by decide)) (@pw _ 2 _ _ (Or.inl k_fraction_divisor) (by rfl) (by decide) (by decide))) (@pa_c _ _ _ _ _ (@pe_op _ _ _ _ _ _ _ _ (@op_fdivS _) (@pw _ 1 _ _ (Or.inl k_fraction_d) (by rfl) (by decide) (by decide)) (@pw _ 2 _ _ (Or.inl k_fraction_divisor) (by rfl) (by decide) (by decide))) (@pa_nil _) rfl) rfl)))))), ?_⟩
    refine ⟨_, rfl, _, rfl, n, d, rfl, _, rfl, _, _, rfl, rfl, _, rfl, ?_⟩
    have g0 := KM.gcd_pos (n := n) hd
    have gs := gcdS (n := n) hd hs
    have kl := KM.fdiv_low (n := n) hd
    by_cases h0 : d < 0
    · rw [decide_eq_true h0]
      rw [if_pos h0] at kl
      have c1 : ∀ x, CDivS x (-((Int.gcd n d : Nat) : Int)) := fun x => ⟨by trivial, gs.neg⟩
      refine iteT ⟨_, rfl, _, rfl, _, rfl, _, rfl, _, _, rfl, rfl, c1 n, _, rfl, _, rfl, _, _, rfl, rfl, c1 d, (by show 2 ≤ 10000; decide), fun p H1 nw => ?_⟩
      have q := k p H1
      rw [← kl] at q
      exact q nw
    · rw [decide_eq_false h0]
      rw [if_neg h0] at kl
      have c1 : ∀ x, CDivS x ((Int.gcd n d : Nat) : Int) := fun x => ⟨by trivial, gs⟩
      refine iteF ⟨_, rfl, _, rfl, _, _, rfl, rfl, c1 n, _, rfl, _, rfl, _, _, rfl, rfl, c1 d, (by show 2 ≤ 10000; decide), fun p H1 nw => ?_⟩
      have q := k p H1
      rw [← kl] at q
      exact q nw
theorem ok_added (T : Txt K mg) : FnOk P w K mg base CX0 3 T.f_added T.d_added ["one", "other"] (spBinA nAdd dAdd) := by
  have G_fraction := ok_fraction (P := P) (w := w) (base := base) T
  refine T.F_added.ok sc_added (fun vs H Q E h => ?_) (fun cdv A outer s H vs Q E hr h => ?_)
  · obtain ⟨a, b, n1, d1, n2, d2, rfl, _⟩ := h
    rfl
  · obtain ⟨a, b, n1, d1, n2, d2, rfl, ha, hb, ⟨z1, z2, z3, z4, hd⟩, k⟩ := h
    refine ⟨_, (@pss_one _ _ _ (@ps_ret _ _ _ _ (@pe_call _ _ _ _ _ _ _ _ _ _ _ _ _ _ _ _ G_fraction (hr.mono (by decide)) k_added_fraction T.m_fraction T.F_fraction.kp T.B_fraction .nil (@pass0 _) (@pa_c _ _ _ _ _ (@pe_op _ _ _ _ _ _ _ _ (@op_add _) (@pe_op _ _ _ _ _ _ _ _ (@op_mulB _) (@pe_ix _ _ _ _ _ _ _ (@ixT_k _ (K) (by rfl)) (@pw _ 0 _ _ (Or.inl k_added_one) (by rfl) (by decide) (by decide)) (@pe_int _ _ _ _) (fun _ _ => rfl)) (@pe_ix _ _ _ _ _ _ _ (@ixT_k _ (K) (by rfl)) (@pw _ 1 _ _ (Or.inl k_added_other) (by rfl) (by decide) (by decide)) (@pe_int _ _ _ _) (fun _ _ => rfl))) (@pe_op _ _ _ _ _ _ _ _ (@op_mulB _) (@pe_ix _ _ _ _ _ _ _ (@ixT_k _ (K) (by rfl)) (@pw _ 1 _ _ (Or.inl k_added_other) (by rfl) (by decide) (by decide)) (@pe_int _ _ _ _) (fun _ _ => rfl)) (@pe_ix _ _ _ _ _ _ _ (@ixT_k _ (K) (by rfl)) (@pw _ 0 _ _ (Or.inl k_added_one) (by rfl) (by decide) (by decide)) (@pe_int _ _ _ _) (fun _ _ => rfl)))) (@pa_c _ _ _ _ _ (@pe_op _ _ _ _ _ _ _ _ (@op_mulB _) (@pe_ix _ _ _ _ _ _ _ (@ixT_k _ (K) (by rfl)) (@pw _ 0 _ _ (Or.inl k_added_one) (by rfl) (by decide) (by decide)) (@pe_int _ _ _ _) (fun _ _ => rfl)) (@pe_ix _ _ _ _ _ _ _ (@ixT_k _ (K) (by rfl)) (@pw _ 1 _ _ (Or.inl k_added_other) (by rfl) (by decide) (by decide)) (@pe_int _ _ _ _) (fun _ _ => rfl))) (@pa_nil _) rfl) rfl) (by decide) (by rfl) (by rfl)))), ?_⟩
    exact ⟨_, rfl, a, _, _, _, rfl, rfl, SqT.of ha, rfl, _, rfl, b, _, _, _, rfl, rfl, SqT.of hb, rfl, _, _, rfl, rfl, mulS z1 z4, _, rfl, b, _, _, _, rfl, rfl, SqT.of hb, rfl, _, rfl, a, _, _, _, rfl, rfl, SqT.of ha, rfl, _, _, rfl, rfl, mulS z3 z2, _, _, rfl, rfl,
      _, rfl, a, _, _, _, rfl, rfl, SqT.of ha, rfl, _, rfl, b, _, _, _, rfl, rfl, SqT.of hb, rfl, _, _, rfl, rfl, mulS z2 z4, _, _, rfl, hd, mulS9 z2 z4, k⟩
theorem ok_compared (T : Txt K mg) : FnOk P w K mg base CX0 1 T.f_compared T.d_compared ["one", "other"] spCmp := by
  refine T.F_compared.ok sc_compared (fun vs H Q E h => ?_) (fun cdv A outer s H vs Q E hr h => ?_)
  · obtain ⟨a, b, n1, d1, n2, d2, rfl, _⟩ := h
    rfl
  · obtain ⟨a, b, n1, d1, n2, d2, rfl, ha, hb, z1, z2, z3, z4, k⟩ := h
    refine ⟨_, (@pss_cons _ _ _ _ _ (@ps_set _ _ (2) _ _ _ _ sc_compared.nd rfl (Or.inl k_compared_left) (@pe_op _ _ _ _ _ _ _ _ (@op_mulB _) (@pe_ix _ _ _ _ _ _ _ (@ixT_k _ (K) (by rfl)) (@pw _ 0 _ _ (Or.inl k_compared_one) (by rfl) (by decide) (by decide)) (@pe_int _ _ _ _) (fun _ _ => rfl)) (@pe_ix _ _ _ _ _ _ _ (@ixT_k _ (K) (by rfl)) (@pw _ 1 _ _ (Or.inl k_compared_other) (by rfl) (by decide) (by decide)) (@pe_int _ _ _ _) (fun _ _ => rfl))) (by rfl) (by first | exact .inl rfl | exact .inr rfl | assumption)) (@pss_cons _ _ _ _ _ (@ps_set _ _ (3) _ _ _ _ sc_compared.nd rfl (Or.inl k_compared_right) (@pe_op _ _ _ _ _ _ _ _ (@op_mulB _) (@pe_ix _ _ _ _ _ _ _ (@ixT_k _ (K) (by rfl)) (@pw _ 1 _ _ (Or.inl k_compared_other) (by rfl) (by decide) (by decide)) (@pe_int _ _ _ _) (fun _ _ => rfl)) (@pe_ix _ _ _ _ _ _ _ (@ixT_k _ (K) (by rfl)) (@pw _ 0 _ _ (Or.inl k_compared_one) (by rfl) (by decide) (by decide)) (@pe_int _ _ _ _) (fun _ _ => rfl))) (by rfl) (by first | exact .inl rfl | exact .inr rfl | assumption)) (@pss_cons _ _ _ _ _ (@ps_if _ _ _ _ _ _ _ _ (@pt_cmpR _ _ _ _ _ _ _ _ (@op_lt _) (@pw _ 2 _ _ (Or.inl k_compared_left) (by rfl) (by decide) (by decide)) (@pw _ 3 _ _ (Or.inl k_compared_right) (by rfl) (by decide) (by decide)) (@nomark _ _ (by decide) (by decide))) (@pss_one _ _ _ (@ps_ret _ _ _ _ (@pe_un _ _ _ _ _ _ (@un_neg _) (@pe_int _ _ _ _)))) (@pss_nil _)) (@pss_cons _ _ _ _ _ (@ps_if _ _ _ _ _ _ _ _ (@pt_cmpR _ _ _ _ _ _ _ _ (@op_gt _) (@pw _ 2 _ _ (Or.inl k_compared_left) (by rfl) (by decide) (by decide)) (@pw _ 3 _ _ (Or.inl k_compared_right) (by rfl) (by decide) (by decide)) (@nomark _ _ (by decide) (by decide))) (@pss_one _ _ _ (@ps_ret _ _ _ _ (@pe_int _ _ _ _))) (@pss_nil _)) (@pss_one _ _ _ (@ps_ret _ _ _ _ (@pe_int _ _ _ _))))))), ?_⟩
    refine ⟨_, rfl, a, _, _, _, rfl, rfl, SqT.of ha, rfl, _, rfl, b, _, _, _, rfl, rfl, SqT.of hb, rfl, _, _, rfl, rfl, mulS z1 z4, _, rfl, b, _, _, _, rfl, rfl, SqT.of hb, rfl, _, rfl, a, _, _, _, rfl, rfl, SqT.of ha, rfl, _, _, rfl, rfl, mulS z3 z2,
      _, rfl, _, rfl, _, _, rfl, rfl, _, rfl, ?_⟩
    unfold cmpI at k
    by_cases h1 : n1 * d2 < n2 * d1
    · rw [decide_eq_true h1]
      rw [if_pos h1] at k
      exact iteT ⟨_, rfl, k⟩
    · rw [decide_eq_false h1]
      rw [if_neg h1] at k
      refine iteF ⟨_, rfl, _, rfl, _, _, rfl, rfl, _, rfl, ?_⟩
      by_cases h2 : n2 * d1 < n1 * d2
      · rw [decide_eq_true h2]
        rw [if_pos h2] at k
        exact iteT k
      · rw [decide_eq_false h2]
        rw [if_neg h2] at k
        exact iteF k
end
end K46
namespace K46
open PySem L2
theorem nodup_map_iff {α β : Type} {f : α → β} (hf : ∀ a b, f a = f b → a = b) : ∀ {l : List α}, (l.map f).Nodup ↔ l.Nodup
  | [] => by simp
  | a :: r => by
    rw [List.map_cons, List.nodup_cons, List.nodup_cons, nodup_map_iff hf]
    constructor
    · rintro ⟨h1, h2⟩; exact ⟨fun z => h1 (List.mem_map.mpr ⟨a, z, rfl⟩), h2⟩
    · rintro ⟨h1, h2⟩
      refine ⟨fun z => ?_, h2⟩
      obtain ⟨b, hb, e⟩ := List.mem_map.mp z
      exact h1 (hf b a e ▸ hb)
theorem dec_congr {p q : Prop} [Decidable p] [Decidable q] (h : p ↔ q) : decide p = decide q := by
  by_cases hp : p
  · rw [decide_eq_true hp, decide_eq_true (h.mp hp)]
  · rw [decide_eq_false hp, decide_eq_false fun z => hp (h.mpr z)]
section
variable {P : Program} {w : World} {K : PySem.W.Frag} {mg : Str → Option Value} {base : Heap}
end
end K46
namespace K46
open PySem L2
def isFr0 (d : PyData) : Bool := match d with
  | .tuple [.int n, .int e] => isFr (.tuple [.int n, .int e]) && decide (0 ≤ n)
  | _ => false
def within (d : PyData) (p : KM.Fra) : Bool := match d with
  | .tuple [.int n, .int e] => (isFr (.tuple [.int n, .int e]) && decide (0 ≤ n)) && decide (n * p.2 ≤ p.1 * e)
  | _ => false
theorem isFr_inv {d : PyData} (h : isFr d = true) : Ex2 fun n e => d = .tuple [.int n, .int e] ∧ 1 ≤ e ∧ Int.gcd n e = 1 := by
  unfold isFr at h
  split at h
  · rename_i n e
    have h' : (decide (1 ≤ e) && decide (Int.gcd n e = 1)) = true := h
    rw [Bool.and_eq_true, decide_eq_true_iff, decide_eq_true_iff] at h'
    exact ⟨n, e, rfl, h'.1, h'.2⟩
  · cases h
theorem fr0_false {d : PyData} (h : isFr d = false) : isFr0 d = false ∧ ∀ p, within d p = false := by
  constructor
  · unfold isFr0
    split
    · rw [h]; rfl
    · rfl
  · intro p
    unfold within
    split
    · rw [h]; rfl
    · rfl
theorem within_false {d : PyData} (h : isFr0 d = false) : ∀ p, within d p = false := by
  intro p
  unfold isFr0 at h
  unfold within
  split
  · rename_i n e
    simp only at h
    rw [h]; rfl
  · rfl
theorem pair_inv {E : Addr → Prop} {H : Hp} {x : V} {n e : Int} (h : IsD E H x (.tuple [.int n, .int e])) : ∃ o, x = .ref o ∧ H o = some (.tup [.int n, .int e]) := isF_inv (p := (n, e)) h
section
variable {P : Program} {w : World} {K : PySem.W.Frag} {mg : Str → Option Value} {base : Heap}
inductive spFr0_ (vs : List V) (H : Hp) (Q : VK) : Prop
  | mk (x : V) (d : PyData) (E : Addr → Prop) (h0 : vs = [x]) (h1 : IsD E H x d) (h2 : Q (.bl (isFr0 d)) H)
def spFr0 : Sp := fun vs H Q _ => spFr0_  vs H Q
theorem ok_is_from_nought (T : Txt K mg) : FnOk P w K mg base CX0 3 T.f_is_from_nought T.d_is_from_nought ["thing"] spFr0 := by
  have G_is_fraction := ok_is_fraction (P := P) (w := w) (base := base) T
  refine T.F_is_from_nought.ok sc_is_from_nought (fun vs H Q E h => ?_) (fun cdv A outer s H vs Q E hr h => ?_)
  · obtain ⟨x, d, E', rfl, _⟩ := h
    rfl
  · obtain ⟨x, d, E', rfl, hx, k⟩ := h
    refine ⟨_, (@pss_one _ _ _ (@ps_ret _ _ _ _ (@pe_and _ _ _ _ _ _ _ (@pe_call _ _ _ _ _ _ _ _ _ _ _ _ _ _ _ _ G_is_fraction (hr.mono (by decide)) k_is_from_nought_is_fraction T.m_is_fraction T.F_is_fraction.kp T.B_is_fraction .nil (@pass0 _) (@pa_c _ _ _ _ _ (@pw _ 0 _ _ (Or.inl k_is_from_nought_thing) (by rfl) (by decide) (by decide)) (@pa_nil _) rfl) (by decide) (by rfl) (by rfl)) (@pe_one _ _ _ _ _ (@pe_cmpR _ _ _ _ _ _ _ _ (@op_ge _) (@pe_ix _ _ _ _ _ _ _ (@ixT_k _ (K) (by rfl)) (@pw _ 0 _ _ (Or.inl k_is_from_nought_thing) (by rfl) (by decide) (by decide)) (@pe_int _ _ _ _) (fun _ _ => rfl)) (@pe_int _ _ _ _) (@nomark _ _ (by decide) (by decide))))))), ?_⟩
    refine ⟨_, rfl, x, d, E', rfl, hx, _, rfl, ?_⟩
    cases hb : isFr d with
    | false =>
      rw [(fr0_false hb).1] at k
      exact iteF k
    | true =>
      obtain ⟨n, e, rfl, h1, h2⟩ := isFr_inv hb
      obtain ⟨o, rfl, ho⟩ := pair_inv hx
      refine iteT ⟨_, rfl, o, _, _, _, rfl, rfl, SqT.of ho, rfl, _, _, rfl, rfl, ?_⟩
      have e0 : isFr0 (.tuple [.int n, .int e]) = decide (0 ≤ n) := by
        show (isFr (.tuple [.int n, .int e]) && decide (0 ≤ n)) = _
        rw [hb]; rfl
      rw [e0] at k
      exact k
inductive spWithin_ (vs : List V) (H : Hp) (Q : VK) : Prop
  | mk (x m : V) (d : PyData) (E F : Addr → Prop) (p : KM.Fra) (wn wk : Nat) (h0 : vs = [x, m]) (h1 : IsD E H x d) (h2 : Wt d wn wk) (h3 : IsD F H m (frD p)) (h4 : Fb 40 p.1 p.2) (h5 : Q (.bl (within d p)) H)
def spWithin : Sp := fun vs H Q _ => spWithin_  vs H Q
theorem wt_pair {n e : Int} {wn wk : Nat} (h : Wt (.tuple [.int n, .int e]) wn wk) : Sz 1900 n ∧ Sz 1900 e := by
  cases h with
  | tuple r =>
    cases r with
    | cons h1 r =>
      cases r with
      | cons h2 r =>
        cases h1 with
        | int a =>
          cases h2 with
          | int b => exact ⟨a, b⟩
theorem ok_goes_within (T : Txt K mg) : FnOk P w K mg base CX0 4 T.f_goes_within T.d_goes_within ["thing", "most"] spWithin := by
  have G_is_from_nought := ok_is_from_nought (P := P) (w := w) (base := base) T
  have G_compared := ok_compared (P := P) (w := w) (base := base) T
  refine T.F_goes_within.ok sc_goes_within (fun vs H Q E h => ?_) (fun cdv A outer s H vs Q E hr h => ?_)
  · obtain ⟨x, m, d, E', F, p, wn, wk, rfl, _⟩ := h
    rfl
  · obtain ⟨x, m, d, E', F, p, wn, wk, rfl, hx, wd, hm, fm, k⟩ := h
    refine ⟨_, (@pss_one _ _ _ (@ps_ret _ _ _ _ (@pe_and _ _ _ _ _ _ _ (@pe_call _ _ _ _ _ _ _ _ _ _ _ _ _ _ _ _ G_is_from_nought (hr.mono (by decide)) k_goes_within_is_from_nought T.m_is_from_nought T.F_is_from_nought.kp T.B_is_from_nought .nil (@pass0 _) (@pa_c _ _ _ _ _ (@pw _ 0 _ _ (Or.inl k_goes_within_thing) (by rfl) (by decide) (by decide)) (@pa_nil _) rfl) (by decide) (by rfl) (by rfl)) (@pe_one _ _ _ _ _ (@pe_cmpR _ _ _ _ _ _ _ _ (@op_le _) (@pe_call _ _ _ _ _ _ _ _ _ _ _ _ _ _ _ _ G_compared (hr.mono (by decide)) k_goes_within_compared T.m_compared T.F_compared.kp T.B_compared .nil (@pass0 _) (@pa_c _ _ _ _ _ (@pw _ 0 _ _ (Or.inl k_goes_within_thing) (by rfl) (by decide) (by decide)) (@pa_c _ _ _ _ _ (@pw _ 1 _ _ (Or.inl k_goes_within_most) (by rfl) (by decide) (by decide)) (@pa_nil _) rfl) rfl) (by decide) (by rfl) (by rfl)) (@pe_int _ _ _ _) (@nomark _ _ (by decide) (by decide))))))), ?_⟩
    refine ⟨_, rfl, x, d, E', rfl, hx, _, rfl, ?_⟩
    cases hb : isFr0 d with
    | false =>
      rw [within_false hb] at k
      exact iteF k
    | true =>
      have hb' : isFr d = true := by
        cases hc : isFr d with
        | true => rfl
        | false => rw [(fr0_false hc).1] at hb; cases hb
      obtain ⟨n, e, rfl, h1, h2⟩ := isFr_inv hb'
      obtain ⟨o, rfl, ho⟩ := pair_inv hx
      obtain ⟨om, rfl, hom⟩ := isF_inv hm
      obtain ⟨z1, z2⟩ := wt_pair wd
      refine iteT ⟨_, rfl, _, rfl, o, om, _, _, _, _, rfl, ho, hom, z1.mono (by decide), z2.mono (by decide), fm.sn.mono (by decide), fm.sd.mono (by decide), _, _, rfl, rfl, ?_⟩
      have ec : decide (cmpI (n * p.2) (p.1 * e) ≤ 0) = decide (n * p.2 ≤ p.1 * e) := by
        unfold cmpI
        by_cases q1 : n * p.2 < p.1 * e
        · rw [if_pos q1, decide_eq_true (by trivial : n * p.2 ≤ p.1 * e)]; rfl
        · rw [if_neg q1]
          by_cases q2 : p.1 * e < n * p.2
          · rw [if_pos q2, decide_eq_false (by trivial : ¬ n * p.2 ≤ p.1 * e)]; rfl
          · rw [if_neg q2, decide_eq_true (by trivial : n * p.2 ≤ p.1 * e)]; rfl
      have e0 : within (.tuple [.int n, .int e]) p = decide (n * p.2 ≤ p.1 * e) := by
        have hb2 : (isFr (.tuple [.int n, .int e]) && decide (0 ≤ n)) = true := hb
        show ((isFr (.tuple [.int n, .int e]) && decide (0 ≤ n)) && decide (n * p.2 ≤ p.1 * e)) = _
        rw [hb2]; rfl
      rw [e0, ← ec] at k
      exact k
end
end K46
namespace K46
open PySem L2
theorem wtL_mem {ds : List PyData} {n k : Nat} {d : PyData} (h : WtL ds n k) (hd : d ∈ ds) : ∃ m, m ≤ n ∧ Wt d m k := by
  induction ds generalizing n with
  | nil => cases hd
  | cons x r ih =>
    cases h with
    | @cons _ _ m n' _ h1 h2 =>
    rcases List.mem_cons.mp hd with e | e
    · subst e; exact ⟨m, by trivial, h1⟩
    · obtain ⟨m', q, w⟩ := ih h2 e
      exact ⟨m', by trivial, w⟩
theorem ne_len {a b : Nat} (h : a ≠ b) : (!decide (V.int (a : Int) = V.int (b : Int))) = true := by
  rw [decide_eq_false]
  · rfl
  · intro z
    injection z with z
    exact h (by trivial)
theorem eq_len (a : Nat) : (!decide (V.int (a : Int) = V.int (a : Int))) = false := by
  rw [decide_eq_true rfl]; rfl
section
variable {P : Program} {w : World} {K : PySem.W.Frag} {mg : Str → Option Value} {base : Heap}
end
end K46
namespace K46
open PySem L2
theorem Fb.tim' {b c e : Nat} {n1 d1 n2 d2 : Int} (h1 : Fb b n1 d1) (h2 : Fb c n2 d2) (hc : b + c ≤ e) : Fb e (KM.low (n1 * n2) (d1 * d2)).1 (KM.low (n1 * n2) (d1 * d2)).2 :=
  .low ((h1.sn.mul h2.sn).mono hc) ((h1.sd.mul h2.sd).mono hc) (Int.mul_ne_zero (by have := h1.pos; trivial) (by have := h2.pos; trivial))
theorem rdF {c : Nat} {p : KM.Fra} (h : Fb c p.1 p.2) : KM.Rd p := ⟨h.pos, h.co⟩
section
variable {P : Program} {w : World} {K : PySem.W.Frag} {mg : Str → Option Value} {base : Heap}
inductive spSumW_ (K : PySem.W.Frag) (vs : List V) (H : Hp) (Q : VK) : Prop
  | mk (a : Addr) (xs : List V) (ps : List KM.Fra) (c m : Nat) (h0 : vs = [.ref a]) (h1 : SqL K H a xs) (h2 : FL c H xs ps) (h3 : (c + 1) * xs.length + 1 ≤ m) (h4 : c ≤ 4000) (h5 : m ≤ 4000) (h6 : ∀ o H', Same H H' → H' o = some (fr (KM.sumF ps)) → Fb m (KM.sumF ps).1 (KM.sumF ps).2 → Q (.ref o) H')
def spSumW (K : PySem.W.Frag) : Sp := fun vs H Q _ => spSumW_ K vs H Q
theorem ok_sumW (T : Txt K mg) : FnOk P w K mg base CX0 4 T.f_sum_of T.d_sum_of ["parts"] (spSumW K) := by
  have G_added := ok_added (P := P) (w := w) (base := base) T
  refine T.F_sum_of.ok sc_sum_of (fun vs H Q E h => ?_) (fun cdv A outer s H vs Q E hr h => ?_)
  · obtain ⟨a, xs, ps, c, m, rfl, _⟩ := h
    rfl
  · obtain ⟨a, xs, ps, c, m, rfl, hS, hF, hm, hc, hm4, k⟩ := h
    refine ⟨_, (@pss_cons _ _ _ _ _ (@ps_set _ _ (1) _ _ _ _ sc_sum_of.nd rfl (Or.inl k_sum_of_total) (@pe_tupA _ _ _ _ _ (@pa_c _ _ _ _ _ (@pe_int _ _ _ _) (@pa_c _ _ _ _ _ (@pe_int _ _ _ _) (@pa_nil _) rfl) rfl)) (by rfl) (by first | exact .inl rfl | exact .inr rfl | assumption)) (@pss_cons _ _ _ _ _ (@ps_for _ _ _ _ _ _ _ _ PassesOwn.never rfl (@pi_list_k _ (K) _ _ _ (@pw _ 0 _ _ (Or.inl k_sum_of_parts) (by rfl) (by decide) (by decide)) (by rfl)) (@pg_name _ _ (2) _ sc_sum_of.nd rfl (Or.inl k_sum_of_part) (by first | exact .inl rfl | exact .inr rfl | assumption)) (@pss_one _ _ _ (@ps_set _ _ (1) _ _ _ _ sc_sum_of.nd rfl (Or.inl k_sum_of_total) (@pe_call _ _ _ _ _ _ _ _ _ _ _ _ _ _ _ _ G_added (hr.mono (by decide)) k_sum_of_added T.m_added T.F_added.kp T.B_added .nil (@pass0 _) (@pa_c _ _ _ _ _ (@pw _ 1 _ _ (Or.inl k_sum_of_total) (by rfl) (by decide) (by decide)) (@pa_c _ _ _ _ _ (@pw _ 2 _ _ (Or.inl k_sum_of_part) (by rfl) (by decide) (by decide)) (@pa_nil _) rfl) rfl) (by decide) (by rfl) (by rfl)) (by rfl) (by first | exact .inl rfl | exact .inr rfl | assumption))) (by intro _; rfl)) (@pss_one _ _ _ (@ps_ret _ _ _ _ (@pw _ 1 _ _ (Or.inl k_sum_of_total) (by rfl) (by decide) (by decide)))))), ?_⟩
    refine ⟨(by show 2 ≤ 10000; decide), fun o0 H1 n1 => ?_⟩
    refine ⟨_, rfl, a, rfl, ⟨_, n1.sm.seq hS⟩, for_list (xs := xs) (fun i σ H' => Ex2 fun (o : Addr) (v2 : Option V) => σ = [some (.ref a), some (.ref o), v2] ∧ Same H H' ∧ H' o = some (fr (KM.sumF (ps.take i))) ∧ Fb ((c + 1) * i + 1) (KM.sumF (ps.take i)).1 (KM.sumF (ps.take i)).2) ⟨o0, _, rfl, n1.sm, n1.at', by rw [Nat.mul_zero]; exact fb01⟩ ?_ ?_ ?_⟩
    · rintro i σ H' _ ⟨_, _, _, s, _⟩
      exact s.seq hS
    · rintro i x σ H' hx ⟨o, v2, rfl, s, ho, hb⟩
      obtain ⟨ox, p, rfl, hp, hpx, fp⟩ := hF.get hx
      have hi : i < xs.length := (List.getElem?_eq_some_iff.mp hx).1
      have e1 : (c + 1) * (i + 1) = (c + 1) * i + (c + 1) := Nat.mul_succ _ _
      have e2 := Nat.mul_le_mul_left (c + 1) (show i + 1 ≤ xs.length by trivial)
      refine ⟨_, rfl, _, rfl, o, ox, _, _, _, _, rfl, ho, s _ _ hpx, s4' hb fp (by trivial) hc, fun o2 H2 n2 => ⟨o2, _, rfl, s.trans n2.sm, ?_, ?_⟩⟩
      · rw [ptake hp, sum_snoc]
        exact n2.at'
      · rw [ptake hp, sum_snoc]
        exact Fb.add' hb fp (by trivial)
    · rintro σ H' ⟨o, v2, rfl, s, ho, hb⟩
      rw [hF.length, List.take_length] at ho hb
      rw [hF.length] at hm
      exact ⟨_, rfl, k o H' s ho (hb.mono hm)⟩
end
end K46
namespace K46
open PySem L2
section
variable {P : Program} {w : World} {K : PySem.W.Frag} {mg : Str → Option Value} {base : Heap}
theorem gcd_log {n d : Int} (hd : d ≠ 0) (h : d.natAbs.log2 < 9000) : CDivB n ((Int.gcd n d : Nat) : Int) := by
  have g0 := KM.gcd_pos (n := n) hd
  refine ⟨by trivial, ?_⟩
  have h1 : Int.gcd n d ≤ d.natAbs := Nat.le_of_dvd (by trivial) (by
    have : ((Int.gcd n d : Nat) : Int) ∣ d := Int.gcd_dvd_right ..
    exact Int.ofNat_dvd_left.mp this)
  have h2 : d.natAbs < 2 ^ 9000 := (Nat.log2_lt (by trivial)).mp h
  rw [Int.natAbs_natCast]
  exact (Nat.log2_lt (by trivial)).mpr (Nat.lt_of_le_of_lt h1 h2)
inductive spFrac_ (vs : List V) (H : Hp) (Q : VK) : Prop
  | mk (n d : Int) (h0 : vs = [.int n, .int d]) (h1 : 0 < d) (h2 : Sz 9000 d) (h3 : ∀ p H', Nw H p (fr (KM.low n d)) H' → Q (.ref p) H')
def spFrac : Sp := fun vs H Q _ => spFrac_  vs H Q
theorem ok_frac (T : Txt K mg) : FnOk P w K mg base CX0 1 T.f_l_frac T.d_l_frac ["_law_n", "_law_d"] spFrac := by
  refine T.F_l_frac.ok sc_l_frac (fun vs H Q E h => ?_) (fun cdv A outer s H vs Q E hr h => ?_)
  · obtain ⟨n, d, rfl, _⟩ := h
    rfl
  · obtain ⟨n, d, rfl, hd, hs, k⟩ := h
    have hl := hs.log (Int.ne_of_gt hd)
    refine ⟨_, (@pss_cons _ _ _ _ _ (@ps_par _ _ (2) (3) _ _ _ _ _ _ _ _ _ _ _ rfl sc_l_frac.nd rfl rfl (by decide) k_l_frac_l_one k_l_frac_l_other (@pa_c _ _ _ _ _ (@pe_callB _ _ _ _ _ _ _ _ _ (@call_abs _) k_l_frac_abs T.b_abs (@boot_b_abs) (@pa_c _ _ _ _ _ (@pw _ 0 _ _ (Or.inl k_l_frac_l_n) (by rfl) (by decide) (by decide)) (@pa_nil _) rfl) (by decide) (by decide) (by rfl) (by rfl)) (@pa_c _ _ _ _ _ (@pe_callB _ _ _ _ _ _ _ _ _ (@call_abs _) k_l_frac_abs T.b_abs (@boot_b_abs) (@pa_c _ _ _ _ _ (@pw _ 1 _ _ (Or.inl k_l_frac_l_d) (by rfl) (by decide) (by decide)) (@pa_nil _) rfl) (by decide) (by decide) (by rfl) (by rfl)) (@pa_nil _) rfl) rfl) (by kernel_rfl) (by rfl)) (@pss_cons _ _ _ _ _ (@ps_while _ _ _ _ _ _ PassesOwn.never (@pt_cmpR _ _ _ _ _ _ _ _ (@op_gt _) (@pw _ 3 _ _ (Or.inl k_l_frac_l_other) (by rfl) (by decide) (by decide)) (@pe_int _ _ _ _) (@nomark _ _ (by decide) (by decide))) (@pss_one _ _ _ (@ps_par _ _ (2) (3) _ _ _ _ _ _ _ _ _ _ _ rfl sc_l_frac.nd rfl rfl (by decide) k_l_frac_l_one k_l_frac_l_other (@pa_c _ _ _ _ _ (@pw _ 3 _ _ (Or.inl k_l_frac_l_other) (by rfl) (by decide) (by decide)) (@pa_c _ _ _ _ _ (@pe_op _ _ _ _ _ _ _ _ (@op_mod _) (@pw _ 2 _ _ (Or.inl k_l_frac_l_one) (by rfl) (by decide) (by decide)) (@pw _ 3 _ _ (Or.inl k_l_frac_l_other) (by rfl) (by decide) (by decide))) (@pa_nil _) rfl) rfl) (by kernel_rfl) (by rfl)))) (@pss_cons _ _ _ _ _ (@ps_set _ _ (2) _ _ _ _ sc_l_frac.nd rfl (Or.inl k_l_frac_l_one) (@pe_op _ _ _ _ _ _ _ _ (@op_mul _) (@pw _ 2 _ _ (Or.inl k_l_frac_l_one) (by rfl) (by decide) (by decide)) (@pe_ifExp _ _ _ _ _ _ _ _ (@pt_cmpR _ _ _ _ _ _ _ _ (@op_gt _) (@pw _ 1 _ _ (Or.inl k_l_frac_l_d) (by rfl) (by decide) (by decide)) (@pe_int _ _ _ _) (@nomark _ _ (by decide) (by decide))) (@pe_int _ _ _ _) (@pe_un _ _ _ _ _ _ (@un_neg _) (@pe_int _ _ _ _)))) (by rfl) (by first | exact .inl rfl | exact .inr rfl | assumption)) (@pss_one _ _ _ (@ps_ret _ _ _ _ (@pe_tupA _ _ _ _ _ (@pa_c _ _ _ _ _ (@pe_op _ _ _ _ _ _ _ _ (@op_fdivB _) (@pw _ 0 _ _ (Or.inl k_l_frac_l_n) (by rfl) (by decide) (by decide)) (@pw _ 2 _ _ (Or.inl k_l_frac_l_one) (by rfl) (by decide) (by decide))) (@pa_c _ _ _ _ _ (@pe_op _ _ _ _ _ _ _ _ (@op_fdivB _) (@pw _ 1 _ _ (Or.inl k_l_frac_l_d) (by rfl) (by decide) (by decide)) (@pw _ 2 _ _ (Or.inl k_l_frac_l_one) (by rfl) (by decide) (by decide))) (@pa_nil _) rfl) rfl))))))), ?_⟩
    refine ⟨_, rfl, _, rfl, _, rfl, _, rfl, _, _, rfl, ?_⟩
    refine ⟨fun m σ H' => ∃ a b : Int, σ = [some (.int n), some (.int d), some (.int a), some (.int b)] ∧ H' = H ∧ 0 ≤ a ∧ 0 ≤ b ∧ Int.gcd a b = Int.gcd n d ∧ m = b.natAbs, ⟨_, _, _, rfl, rfl, abs_nn n, abs_nn d, KM.gcd_abs n d, rfl⟩, ?_⟩
    rintro m σ H' ⟨a, b, rfl, rfl, ha, hb, hg, rfl⟩
    refine ⟨_, rfl, _, _, rfl, rfl, _, rfl, ?_⟩
    by_cases hb0 : 0 < b
    · rw [decide_eq_true hb0]
      refine iteT ⟨fun σ' H'' => ∃ a' b' : Int, σ' = [some (.int n), some (.int d), some (.int a'), some (.int b')] ∧ H'' = H' ∧ 0 ≤ a' ∧ 0 ≤ b' ∧ Int.gcd a' b' = Int.gcd n d ∧ b'.natAbs < b.natAbs, ?_, ?_⟩
      · rintro σ' H'' ⟨a', b', rfl, rfl, h0, h1, h2, h3⟩
        exact ⟨_, h3, a', b', rfl, rfl, h0, h1, h2, rfl⟩
      · refine ⟨_, rfl, _, rfl, _, rfl, _, _, rfl, rfl, hb0, _, _, rfl, ?_⟩
        have q0 := Int.emod_nonneg a (Int.ne_of_gt hb0)
        have q1 := Int.emod_lt_of_pos a hb0
        exact ⟨b, a % b, rfl, rfl, hb, q0, (KM.gcd_emod a b).trans hg, by trivial⟩
    · have hb1 : b = 0 := by trivial
      subst hb1
      rw [decide_eq_false hb0]
      refine iteF ?_
      have eg : a = ((Int.gcd n d : Nat) : Int) := by
        rw [← hg, KM.gcd_zero_abs, if_neg (by trivial)]
      have c1 := gcd_log (n := n) (Int.ne_of_gt hd) hl
      have c2 := gcd_log (n := d) (d := d) (Int.ne_of_gt hd) hl
      rw [← eg] at c1
      refine ⟨_, rfl, _, rfl, _, _, rfl, rfl, _, rfl, ?_⟩
      rw [decide_eq_true hd]
      refine iteT ⟨_, _, rfl, rfl, .inr ⟨by decide, by decide⟩, ?_⟩
      show gName 2 (V.int (a * 1)) _ _ _
      rw [Int.mul_one]
      refine ⟨_, rfl, _, rfl, _, _, rfl, rfl, c1, _, rfl, _, rfl, _, _, rfl, rfl, ⟨c1.1, c1.2⟩, (by show 2 ≤ 10000; decide), fun p H2 n2 => k p H2 ?_⟩
      unfold KM.low
      rw [if_pos hd, ← eg]
      exact n2
theorem ok_any_gain (T : Txt K mg) : FnOk P w K mg base CX0 2 T.f_l_any_gain T.d_l_any_gain ["_law_box_here"] (spFrB 6 1) := by
  have G_l_take := ok_take (P := P) (w := w) (base := base) T
  have G_l_frac := ok_frac (P := P) (w := w) (base := base) T
  refine T.F_l_any_gain.ok sc_l_any_gain (fun vs H Q E h => ?_) (fun cdv A outer s H vs Q E hr h => ?_)
  · obtain ⟨b, t, rfl, _⟩ := h
    rfl
  · obtain ⟨b, t, rfl, B, ht0, ht1, k⟩ := h
    refine ⟨_, (@pss_cons _ _ _ _ _ (@ps_set _ _ (1) _ _ _ _ sc_l_any_gain.nd rfl (Or.inl k_l_any_gain_l_way) (@pe_call _ _ _ _ _ _ _ _ _ _ _ _ _ _ _ _ G_l_take (hr.mono (by decide)) k_l_any_gain_l_take T.m_l_take T.F_l_take.kp T.B_l_take .nil (@pass0 _) (@pa_c _ _ _ _ _ (@pw _ 0 _ _ (Or.inl k_l_any_gain_l_box_here) (by rfl) (by decide) (by decide)) (@pa_c _ _ _ _ _ (@pe_int _ _ _ _) (@pa_nil _) rfl) rfl) (by decide) (by rfl) (by rfl)) (by rfl) (by first | exact .inl rfl | exact .inr rfl | assumption)) (@pss_cons _ _ _ _ _ (@ps_if _ _ _ _ _ _ _ _ (@pt_cmpR _ _ _ _ _ _ _ _ (@op_lt _) (@pw _ 1 _ _ (Or.inl k_l_any_gain_l_way) (by rfl) (by decide) (by decide)) (@pe_int _ _ _ _) (@nomark _ _ (by decide) (by decide))) (@pss_one _ _ _ (@ps_ret _ _ _ _ (@pe_tupA _ _ _ _ _ (@pa_c _ _ _ _ _ (@pe_int _ _ _ _) (@pa_c _ _ _ _ _ (@pe_int _ _ _ _) (@pa_nil _) rfl) rfl)))) (@pss_nil _)) (@pss_cons _ _ _ _ _ (@ps_set _ _ (2) _ _ _ _ sc_l_any_gain.nd rfl (Or.inl k_l_any_gain_l_top) (@pe_op _ _ _ _ _ _ _ _ (@op_add _) (@pe_int _ _ _ _) (@pe_call _ _ _ _ _ _ _ _ _ _ _ _ _ _ _ _ G_l_take (hr.mono (by decide)) k_l_any_gain_l_take T.m_l_take T.F_l_take.kp T.B_l_take .nil (@pass0 _) (@pa_c _ _ _ _ _ (@pw _ 0 _ _ (Or.inl k_l_any_gain_l_box_here) (by rfl) (by decide) (by decide)) (@pa_c _ _ _ _ _ (@pe_ifExp _ _ _ _ _ _ _ _ (@pt_cmpR _ _ _ _ _ _ _ _ (@op_eq _) (@pw _ 1 _ _ (Or.inl k_l_any_gain_l_way) (by rfl) (by decide) (by decide)) (@pe_int _ _ _ _) (@nomark _ _ (by decide) (by decide))) (@pe_int _ _ _ _) (@pe_int _ _ _ _)) (@pa_nil _) rfl) rfl) (by decide) (by rfl) (by rfl))) (by rfl) (by first | exact .inl rfl | exact .inr rfl | assumption)) (@pss_one _ _ _ (@ps_ret _ _ _ _ (@pe_call _ _ _ _ _ _ _ _ _ _ _ _ _ _ _ _ G_l_frac (hr.mono (by decide)) k_l_any_gain_l_frac T.m_l_frac T.F_l_frac.kp T.B_l_frac .nil (@pass0 _) (@pa_c _ _ _ _ _ (@pw _ 2 _ _ (Or.inl k_l_any_gain_l_top) (by rfl) (by decide) (by decide)) (@pa_c _ _ _ _ _ (@pe_op _ _ _ _ _ _ _ _ (@op_add _) (@pe_int _ _ _ _) (@pe_call _ _ _ _ _ _ _ _ _ _ _ _ _ _ _ _ G_l_take (hr.mono (by decide)) k_l_any_gain_l_take T.m_l_take T.F_l_take.kp T.B_l_take .nil (@pass0 _) (@pa_c _ _ _ _ _ (@pw _ 0 _ _ (Or.inl k_l_any_gain_l_box_here) (by rfl) (by decide) (by decide)) (@pa_c _ _ _ _ _ (@pe_ifExp _ _ _ _ _ _ _ _ (@pt_cmpR _ _ _ _ _ _ _ _ (@op_eq _) (@pw _ 1 _ _ (Or.inl k_l_any_gain_l_way) (by rfl) (by decide) (by decide)) (@pe_int _ _ _ _) (@nomark _ _ (by decide) (by decide))) (@pe_int _ _ _ _) (@pe_int _ _ _ _)) (@pa_nil _) rfl) rfl) (by decide) (by rfl) (by rfl))) (@pa_nil _) rfl) rfl) (by decide) (by rfl) (by rfl))))))), ?_⟩
    refine ⟨_, rfl, b, 8, t, rfl, B, by decide, by decide, ht0, by trivial, fun wy t1 H1 w0 w1 h1a h1b s1 B1 => ?_⟩
    refine ⟨_, rfl, _, _, rfl, rfl, _, rfl, ite2 (fun c => ?_) (fun c => ?_)⟩
    · exact ⟨(by show 2 ≤ 10000; decide), fun o H2 n2 => k o _ _ t1 H2 (s1.trans n2.sm.toE) n2.at' (Fb.small (by decide) (by decide) (by decide) (by decide)) (by decide) (B1.same n2.sm) (by trivial) (by trivial)⟩
    have hw : 0 < (if decide (V.int wy = V.int 7) = true then (60 : Int) else 12) ∧ (if decide (V.int wy = V.int 7) = true then (60 : Int) else 12) ≤ 60 := by split <;> decide
    refine ⟨_, rfl, _, rfl, rfl, _, rfl, ifC ?_⟩
    refine ⟨b, _, t1, rfl, B1, hw.1, log9 hw.1 (by trivial), by trivial, by trivial, fun r2 t2 H2 a20 a21 _ _ s2 B2 => ⟨_, _, rfl, rfl, _, rfl, _, rfl, _, rfl, rfl, _, rfl, ifC ?_⟩⟩
    refine ⟨b, _, t2, rfl, B2, hw.1, log9 hw.1 (by trivial), by trivial, by trivial, fun r3 t3 H3 a30 a31 _ _ s3 B3 => ⟨_, _, rfl, rfl, ?_⟩⟩
    have f := low_fb6 (n := 1 + r2) (d := 1 + r3) (by trivial) (by trivial) (by trivial) (by trivial)
    exact ⟨_, _, rfl, by trivial, Sz.mono (m := 40) (by show (1 + r3).natAbs < 1099511627776; trivial) (by decide), fun o H4 n4 => k o _ _ t3 H4 (((s1.trans s2).trans s3).trans n4.sm.toE) n4.at' f.1 f.2 (B3.same n4.sm) (by trivial) (by trivial)⟩
theorem ok_any_much (T : Txt K mg) : FnOk P w K mg base CX0 2 T.f_l_any_much T.d_l_any_much ["_law_box_here"] (spFrB 24 0) := by
  have G_l_take := ok_take (P := P) (w := w) (base := base) T
  have G_l_frac := ok_frac (P := P) (w := w) (base := base) T
  refine T.F_l_any_much.ok sc_l_any_much (fun vs H Q E h => ?_) (fun cdv A outer s H vs Q E hr h => ?_)
  · obtain ⟨b, t, rfl, _⟩ := h
    rfl
  · obtain ⟨b, t, rfl, B, ht0, ht1, k⟩ := h
    refine ⟨_, (@pss_cons _ _ _ _ _ (@ps_set _ _ (1) _ _ _ _ sc_l_any_much.nd rfl (Or.inl k_l_any_much_l_way) (@pe_call _ _ _ _ _ _ _ _ _ _ _ _ _ _ _ _ G_l_take (hr.mono (by decide)) k_l_any_much_l_take T.m_l_take T.F_l_take.kp T.B_l_take .nil (@pass0 _) (@pa_c _ _ _ _ _ (@pw _ 0 _ _ (Or.inl k_l_any_much_l_box_here) (by rfl) (by decide) (by decide)) (@pa_c _ _ _ _ _ (@pe_int _ _ _ _) (@pa_nil _) rfl) rfl) (by decide) (by rfl) (by rfl)) (by rfl) (by first | exact .inl rfl | exact .inr rfl | assumption)) (@pss_cons _ _ _ _ _ (@ps_if _ _ _ _ _ _ _ _ (@pt_cmpR _ _ _ _ _ _ _ _ (@op_eq _) (@pw _ 1 _ _ (Or.inl k_l_any_much_l_way) (by rfl) (by decide) (by decide)) (@pe_int _ _ _ _) (@nomark _ _ (by decide) (by decide))) (@pss_one _ _ _ (@ps_ret _ _ _ _ (@pe_tupA _ _ _ _ _ (@pa_c _ _ _ _ _ (@pe_int _ _ _ _) (@pa_c _ _ _ _ _ (@pe_int _ _ _ _) (@pa_nil _) rfl) rfl)))) (@pss_nil _)) (@pss_cons _ _ _ _ _ (@ps_if _ _ _ _ _ _ _ _ (@pt_cmpR _ _ _ _ _ _ _ _ (@op_eq _) (@pw _ 1 _ _ (Or.inl k_l_any_much_l_way) (by rfl) (by decide) (by decide)) (@pe_int _ _ _ _) (@nomark _ _ (by decide) (by decide))) (@pss_one _ _ _ (@ps_ret _ _ _ _ (@pe_tupA _ _ _ _ _ (@pa_c _ _ _ _ _ (@pe_op _ _ _ _ _ _ _ _ (@op_pow _) (@pe_int _ _ _ _) (@pe_int _ _ _ _)) (@pa_c _ _ _ _ _ (@pe_int _ _ _ _) (@pa_nil _) rfl) rfl)))) (@pss_nil _)) (@pss_one _ _ _ (@ps_ret _ _ _ _ (@pe_call _ _ _ _ _ _ _ _ _ _ _ _ _ _ _ _ G_l_frac (hr.mono (by decide)) k_l_any_much_l_frac T.m_l_frac T.F_l_frac.kp T.B_l_frac .nil (@pass0 _) (@pa_c _ _ _ _ _ (@pe_op _ _ _ _ _ _ _ _ (@op_add _) (@pe_int _ _ _ _) (@pe_call _ _ _ _ _ _ _ _ _ _ _ _ _ _ _ _ G_l_take (hr.mono (by decide)) k_l_any_much_l_take T.m_l_take T.F_l_take.kp T.B_l_take .nil (@pass0 _) (@pa_c _ _ _ _ _ (@pw _ 0 _ _ (Or.inl k_l_any_much_l_box_here) (by rfl) (by decide) (by decide)) (@pa_c _ _ _ _ _ (@pe_int _ _ _ _) (@pa_nil _) rfl) rfl) (by decide) (by rfl) (by rfl))) (@pa_c _ _ _ _ _ (@pe_ix _ _ _ _ _ _ _ (@ixL_k _ (K) (by rfl)) (@pe_lstA _ _ _ _ (@pa_c _ _ _ _ _ (@pe_int _ _ _ _) (@pa_c _ _ _ _ _ (@pe_int _ _ _ _) (@pa_c _ _ _ _ _ (@pe_int _ _ _ _) (@pa_c _ _ _ _ _ (@pe_int _ _ _ _) (@pa_c _ _ _ _ _ (@pe_int _ _ _ _) (@pa_c _ _ _ _ _ (@pe_int _ _ _ _) (@pa_nil _) rfl) rfl) rfl) rfl) rfl) rfl)) (@pe_op _ _ _ _ _ _ _ _ (@op_sub _) (@pw _ 1 _ _ (Or.inl k_l_any_much_l_way) (by rfl) (by decide) (by decide)) (@pe_int _ _ _ _)) (fun _ _ => rfl)) (@pa_nil _) rfl) rfl) (by decide) (by rfl) (by rfl))))))), ?_⟩
    refine ⟨_, rfl, b, 8, t, rfl, B, by decide, by decide, ht0, by trivial, fun wy t1 H1 w0 w1 h1a h1b s1 B1 => ?_⟩
    refine ⟨_, rfl, rfl, _, rfl, ite2 (fun c => ?_) (fun c => ?_)⟩
    · exact ⟨(by show 2 ≤ 10000; decide), fun o H2 n2 => k o _ _ t1 H2 (s1.trans n2.sm.toE) n2.at' (fb_one24 (by decide) (by decide)) (by decide) (B1.same n2.sm) (by trivial) (by trivial)⟩
    refine ⟨_, rfl, rfl, _, rfl, ite2 (fun c' => ?_) (fun c' => ?_)⟩
    · have q6 : (10 : Int) ^ (6 : Int).toNat = 1000000 := by decide
      refine ⟨_, _, rfl, rfl, ⟨by decide, by decide, by decide⟩, (by show 2 ≤ 10000; decide), fun o H2 n2 => k o _ _ t1 H2 (s1.trans n2.sm.toE) n2.at' (fb_one24 (by rw [q6]; decide) (by rw [q6]; decide)) (by rw [q6]; decide) (B1.same n2.sm) (by trivial) (by trivial)⟩
    have hw : wy ≠ 0 := fun z => c (by rw [z]; decide)
    have hw' : wy ≠ 1 := fun z => c' (by rw [z]; decide)
    refine ⟨_, rfl, b, 12, t1, rfl, B1, by decide, by decide, by trivial, by trivial, fun r2 t2 H2 a20 a21 _ _ s2 B2 => ⟨_, _, rfl, rfl, (by show 6 ≤ 10000; decide), fun l5 H5 n5 => ?_⟩⟩
    obtain ⟨e, ee, he0, he1⟩ : ∃ e : Int, atI [V.int 1, V.int 1, V.int 1, V.int 2, V.int 3, V.int 7] (wy - 2) = some (V.int e) ∧ 1 ≤ e ∧ e ≤ 999 := by
      obtain rfl | rfl | rfl | rfl | rfl | rfl : wy = 2 ∨ wy = 3 ∨ wy = 4 ∨ wy = 5 ∨ wy = 6 ∨ wy = 7 := by trivial
      · exact ⟨1, rfl, by decide, by decide⟩
      · exact ⟨1, rfl, by decide, by decide⟩
      · exact ⟨1, rfl, by decide, by decide⟩
      · exact ⟨2, rfl, by decide, by decide⟩
      · exact ⟨3, rfl, by decide, by decide⟩
      · exact ⟨7, rfl, by decide, by decide⟩
    have f := low_fb24 (n := 1 + r2) (d := e) (by trivial) (by trivial) (by trivial) (by trivial)
    exact ⟨_, rfl, _, _, rfl, rfl, l5, _, _, _, rfl, rfl, SqL.of n5.at', ee, _, _, rfl, by trivial, Sz.mono (m := 40) (by show e.natAbs < 1099511627776; trivial) (by decide), fun o H6 n6 => k o _ _ t2 H6 (((s1.trans s2).trans n5.sm.toE).trans n6.sm.toE) n6.at' f.1 (by have := f.2; trivial) ((B2.same n5.sm).same n6.sm) (by trivial) (by trivial)⟩
theorem ok_amount_by (T : Txt K mg) : FnOk P w K mg base CX0 2 T.f_l_amount_by T.d_l_amount_by ["_law_box_here"] (spFrB 24 1) := by
  have G_l_take := ok_take (P := P) (w := w) (base := base) T
  have G_l_frac := ok_frac (P := P) (w := w) (base := base) T
  refine T.F_l_amount_by.ok sc_l_amount_by (fun vs H Q E h => ?_) (fun cdv A outer s H vs Q E hr h => ?_)
  · obtain ⟨b, t, rfl, _⟩ := h
    rfl
  · obtain ⟨b, t, rfl, B, ht0, ht1, k⟩ := h
    refine ⟨_, (@pss_one _ _ _ (@ps_ret _ _ _ _ (@pe_call _ _ _ _ _ _ _ _ _ _ _ _ _ _ _ _ G_l_frac (hr.mono (by decide)) k_l_amount_by_l_frac T.m_l_frac T.F_l_frac.kp T.B_l_frac .nil (@pass0 _) (@pa_c _ _ _ _ _ (@pe_op _ _ _ _ _ _ _ _ (@op_add _) (@pe_int _ _ _ _) (@pe_call _ _ _ _ _ _ _ _ _ _ _ _ _ _ _ _ G_l_take (hr.mono (by decide)) k_l_amount_by_l_take T.m_l_take T.F_l_take.kp T.B_l_take .nil (@pass0 _) (@pa_c _ _ _ _ _ (@pw _ 0 _ _ (Or.inl k_l_amount_by_l_box_here) (by rfl) (by decide) (by decide)) (@pa_c _ _ _ _ _ (@pe_int _ _ _ _) (@pa_nil _) rfl) rfl) (by decide) (by rfl) (by rfl))) (@pa_c _ _ _ _ _ (@pe_ix _ _ _ _ _ _ _ (@ixL_k _ (K) (by rfl)) (@pe_lstA _ _ _ _ (@pa_c _ _ _ _ _ (@pe_int _ _ _ _) (@pa_c _ _ _ _ _ (@pe_int _ _ _ _) (@pa_c _ _ _ _ _ (@pe_int _ _ _ _) (@pa_c _ _ _ _ _ (@pe_int _ _ _ _) (@pa_nil _) rfl) rfl) rfl) rfl)) (@pe_call _ _ _ _ _ _ _ _ _ _ _ _ _ _ _ _ G_l_take (hr.mono (by decide)) k_l_amount_by_l_take T.m_l_take T.F_l_take.kp T.B_l_take .nil (@pass0 _) (@pa_c _ _ _ _ _ (@pw _ 0 _ _ (Or.inl k_l_amount_by_l_box_here) (by rfl) (by decide) (by decide)) (@pa_c _ _ _ _ _ (@pe_int _ _ _ _) (@pa_nil _) rfl) rfl) (by decide) (by rfl) (by rfl)) (fun _ _ => rfl)) (@pa_nil _) rfl) rfl) (by decide) (by rfl) (by rfl)))), ?_⟩
    refine ⟨_, rfl, b, 12, t, rfl, B, by decide, by decide, by trivial, by trivial, fun r2 t2 H2 a20 a21 _ _ s2 B2 => ⟨_, _, rfl, rfl, (by show 4 ≤ 10000; decide), fun l5 H5 n5 => ?_⟩⟩
    have nl : ¬ l5 = b := fun z => B2.ne n5.fr z.symm
    refine ⟨_, rfl, b, 4, t2, rfl, B2.same n5.sm, by decide, by decide, by trivial, by trivial, fun wy t3 H3 w0 w1 _ _ s3 B3 => ?_⟩
    obtain ⟨e, ee, he0, he1⟩ : ∃ e : Int, atI [V.int 1, V.int 1, V.int 2, V.int 3] wy = some (V.int e) ∧ 1 ≤ e ∧ e ≤ 999 := by
      obtain rfl | rfl | rfl | rfl : wy = 0 ∨ wy = 1 ∨ wy = 2 ∨ wy = 3 := by trivial
      · exact ⟨1, rfl, by decide, by decide⟩
      · exact ⟨1, rfl, by decide, by decide⟩
      · exact ⟨2, rfl, by decide, by decide⟩
      · exact ⟨3, rfl, by decide, by decide⟩
    have f := low_fb24 (n := 1 + r2) (d := e) (by trivial) (by trivial) (by trivial) (by trivial)
    exact ⟨l5, _, _, _, rfl, rfl, SqL.of (s3.old l5 _ nl n5.at'), ee, _, _, rfl, by trivial, Sz.mono (m := 40) (by show e.natAbs < 1099511627776; trivial) (by decide), fun o H6 n6 => k o _ _ t3 H6 (((s2.trans n5.sm.toE).trans s3).trans n6.sm.toE) n6.at' f.1 f.2 (B3.same n6.sm) (by trivial) (by trivial)⟩
end
end K46
namespace K46
open PySem L2
theorem nm_nodup (d n : Nat) : ((List.range n).map (nm d)).Nodup := (nodup_map_iff (f := nm d) fun a b h => by
  have := congrArg List.length h
  simp [nm] at this
  trivial).mpr List.nodup_range
section
variable {P : Program} {w : World} {K : PySem.W.Frag} {mg : Str → Option Value} {base : Heap}
inductive spNamesT_ (vs : List V) (H : Hp) (Q : VK) : Prop
  | mk (b : Addr) (many t : Int) (h0 : vs = [.ref b, .int many]) (h1 : Bx H b t) (h2 : 0 ≤ t) (h3 : t ≤ 900000) (h4 : 1 ≤ many) (h5 : many ≤ 8) (h6 : ∀ q ls t' H', SameE (Eb b) H H' → H' q = some (.tup ((ls : List (List Nat)).map strV)) → ls.length = many.toNat → ls.Nodup → (∀ l ∈ ls, NameC l) → Bx H' b t' → t ≤ t' → t' ≤ t + 12 → Q (.ref q) H')
def spNamesT : Sp := fun vs H Q _ => spNamesT_  vs H Q
theorem ok_names_by (T : Txt K mg) : FnOk P w K mg base CX0 2 T.f_l_names_by T.d_l_names_by ["_law_box_here", "_law_many"] spNamesT := by
  have G_l_take := ok_take (P := P) (w := w) (base := base) T
  refine T.F_l_names_by.ok sc_l_names_by (fun vs H Q E h => ?_) (fun cdv A outer s H vs Q E hr h => ?_)
  · obtain ⟨b, many, t, rfl, _⟩ := h
    rfl
  · obtain ⟨b, many, t, rfl, B, ht0, ht1, hm1, hm2, k⟩ := h
    refine ⟨_, (@pss_cons _ _ _ _ _ (@ps_asg _ _ _ _ _ _ (@pe_tupA _ _ _ _ _ (@pa_c _ _ _ _ _ (@pe_str _ _ _ _) (@pa_c _ _ _ _ _ (@pe_call _ _ _ _ _ _ _ _ _ _ _ _ _ _ _ _ G_l_take (hr.mono (by decide)) k_l_names_by_l_take T.m_l_take T.F_l_take.kp T.B_l_take .nil (@pass0 _) (@pa_c _ _ _ _ _ (@pw _ 0 _ _ (Or.inr (Or.inl k_l_names_by_l_box_here)) (by rfl) (by decide) (by decide)) (@pa_c _ _ _ _ _ (@pe_int _ _ _ _) (@pa_nil _) rfl) rfl) (by decide) (by rfl) (by rfl)) (@pa_c _ _ _ _ _ (@pe_call _ _ _ _ _ _ _ _ _ _ _ _ _ _ _ _ G_l_take (hr.mono (by decide)) k_l_names_by_l_take T.m_l_take T.F_l_take.kp T.B_l_take .nil (@pass0 _) (@pa_c _ _ _ _ _ (@pw _ 0 _ _ (Or.inr (Or.inl k_l_names_by_l_box_here)) (by rfl) (by decide) (by decide)) (@pa_c _ _ _ _ _ (@pe_int _ _ _ _) (@pa_nil _) rfl) rfl) (by decide) (by rfl) (by rfl)) (@pa_nil _) rfl) rfl) rfl)) (@pg_tup_k _ (K) _ _ _ _ (3) rfl (@pgs_cons _ _ _ _ _ (@pg_name _ _ (2) _ sc_l_names_by.nd rfl (Or.inr k_l_names_by_l_letters) (by first | exact .inl rfl | exact .inr rfl | assumption)) (@pgs_cons _ _ _ _ _ (@pg_name _ _ (3) _ sc_l_names_by.nd rfl (Or.inr k_l_names_by_l_first) (by first | exact .inl rfl | exact .inr rfl | assumption)) (@pgs_cons _ _ _ _ _ (@pg_name _ _ (4) _ sc_l_names_by.nd rfl (Or.inl k_l_names_by_l_rest) (by first | exact .inl rfl | exact .inr rfl | assumption)) (@pgs_nil _) (by rfl)) (by rfl)) (by rfl)) (by rfl) (by rfl) (by rfl)) (by rfl) (by rfl) (by rfl)) (@pss_cons _ _ _ _ _ (@ps_set _ _ (5) _ _ _ _ sc_l_names_by.nd rfl (Or.inr k_l_names_by_l_behind) (@pe_bm_k _ (K) _ _ _ _ _ _ _ _ _ _ _ PySem.F.plainAttrs_str PySem.F.slot_str_join PySem.F.type_str_join (@mt_join _ (K) (by rfl)) (@pe_str _ _ _ _) (@pa_c _ _ _ _ _ (@pe_comp _ _ _ _ _ _ _ (["_law_k", "_law_box_here", "_law_letters"]) (1) ([0, 2]) _ _ _ _ rfl (by kernel_rfl) (@pi_range1 _ _ _ _ _ _ k_l_names_by_range T.b_range (@pa_c _ _ _ _ _ (@pw _ 4 _ _ (Or.inl k_l_names_by_l_rest) (by rfl) (by decide) (by decide)) (@pa_nil _) rfl) (by rfl)) (fun _ _ _ _ _ _ => (@pg_name _ _ (0) _ (@nodupS _ (by kernel_rfl)) rfl (Or.inl (by kernel_rfl)) (by first | exact .inl rfl | exact .inr rfl | assumption))) (fun _ _ _ _ _ _ => @pifs_nil _) (fun _ _ _ _ _ _ => (@pe_ix _ _ _ _ _ _ _ (@ix_str _) (@pw _ 2 _ _ (Or.inr (Or.inl (by kernel_rfl))) (by rfl) (by decide) (by decide)) (@pe_call _ _ _ _ _ _ _ _ _ _ _ _ _ _ _ _ G_l_take (hr.mono (by decide)) (by show _ = _; kernel_rfl) T.m_l_take T.F_l_take.kp T.B_l_take .nil (@pass0 _) (@pa_c _ _ _ _ _ (@pw _ 1 _ _ (Or.inr (Or.inl (by kernel_rfl))) (by rfl) (by decide) (by decide)) (@pa_c _ _ _ _ _ (@pe_int _ _ _ _) (@pa_nil _) rfl) rfl) (by decide) (by rfl) (by rfl)) (fun _ _ => rfl))) (by intro _; rfl)) (@pa_nil _) rfl) (by rfl) (by rfl) (by rfl) (by rfl) (by rfl) (by rfl)) (by rfl) (by first | exact .inl rfl | exact .inr rfl | assumption)) (@pss_cons _ _ _ _ _ (@ps_if _ _ _ _ _ _ _ _ (@pt_cmpR _ _ _ _ _ _ _ _ (@op_eq _) (@pe_call _ _ _ _ _ _ _ _ _ _ _ _ _ _ _ _ G_l_take (hr.mono (by decide)) k_l_names_by_l_take T.m_l_take T.F_l_take.kp T.B_l_take .nil (@pass0 _) (@pa_c _ _ _ _ _ (@pw _ 0 _ _ (Or.inr (Or.inl k_l_names_by_l_box_here)) (by rfl) (by decide) (by decide)) (@pa_c _ _ _ _ _ (@pe_int _ _ _ _) (@pa_nil _) rfl) rfl) (by decide) (by rfl) (by rfl)) (@pe_int _ _ _ _) (@nomark _ _ (by decide) (by decide))) (@pss_cons _ _ _ _ _ (@ps_asg _ _ _ _ _ _ (@pe_ix _ _ _ _ _ _ _ (@ixL_k _ (K) (by rfl)) (@pe_lstA _ _ _ _ (@pa_c _ _ _ _ _ (@pe_tupA _ _ _ _ _ (@pa_c _ _ _ _ _ (@pe_str _ _ _ _) (@pa_c _ _ _ _ _ (@pe_str _ _ _ _) (@pa_nil _) rfl) rfl)) (@pa_c _ _ _ _ _ (@pe_tupA _ _ _ _ _ (@pa_c _ _ _ _ _ (@pe_str _ _ _ _) (@pa_c _ _ _ _ _ (@pe_str _ _ _ _) (@pa_nil _) rfl) rfl)) (@pa_nil _) rfl) rfl)) (@pe_callTy _ _ _ _ _ _ _ _ _ (@call_int1 _) k_l_names_by_int T.b_int (@boot_ty_int) (@pa_c _ _ _ _ _ (@pe_cmpR _ _ _ _ _ _ _ _ (@op_eq _) (@pw _ 3 _ _ (Or.inr (Or.inl k_l_names_by_l_first)) (by rfl) (by decide) (by decide)) (@pe_int _ _ _ _) (@nomark _ _ (by decide) (by decide))) (@pa_nil _) rfl) (by decide) (by decide) (by rfl) (by rfl)) (fun _ _ => rfl)) (@pg_tup_k _ (K) _ _ _ _ (2) rfl (@pgs_cons _ _ _ _ _ (@pg_name _ _ (6) _ sc_l_names_by.nd rfl (Or.inr k_l_names_by_l_sign) (by first | exact .inl rfl | exact .inr rfl | assumption)) (@pgs_cons _ _ _ _ _ (@pg_name _ _ (7) _ sc_l_names_by.nd rfl (Or.inr k_l_names_by_l_other) (by first | exact .inl rfl | exact .inr rfl | assumption)) (@pgs_nil _) (by rfl)) (by rfl)) (by rfl) (by rfl) (by rfl)) (by rfl) (by rfl) (by rfl)) (@pss_one _ _ _ (@ps_ret _ _ _ _ (@pe_callTy _ _ _ _ _ _ _ _ _ (@call_tuple_ofA _ (K) (by rfl)) k_l_names_by_tuple T.b_tuple (@boot_ty_tuple) (@pa_c _ _ _ _ _ (@pe_comp _ _ _ _ _ _ _ (["_law_k", "_law_other", "_law_sign"]) (1) ([7, 6]) _ _ _ _ rfl (by kernel_rfl) (@pi_range1 _ _ _ _ _ _ k_l_names_by_range T.b_range (@pa_c _ _ _ _ _ (@pw _ 1 _ _ (Or.inl k_l_names_by_l_many) (by rfl) (by decide) (by decide)) (@pa_nil _) rfl) (by rfl)) (fun _ _ _ _ _ _ => (@pg_name _ _ (0) _ (@nodupS _ (by kernel_rfl)) rfl (Or.inl (by kernel_rfl)) (by first | exact .inl rfl | exact .inr rfl | assumption))) (fun _ _ _ _ _ _ => @pifs_nil _) (fun _ _ _ _ _ _ => (@pe_ifExp _ _ _ _ _ _ _ _ (@pt_cmpR _ _ _ _ _ _ _ _ (@op_lt _) (@pw _ 0 _ _ (Or.inl (by kernel_rfl)) (by rfl) (by decide) (by decide)) (@pe_int _ _ _ _) (@nomark _ _ (by decide) (by decide))) (@pe_op _ _ _ _ _ _ _ _ (@op_mulS _) (@pw _ 2 _ _ (Or.inr (Or.inl (by kernel_rfl))) (by rfl) (by decide) (by decide)) (@pe_op _ _ _ _ _ _ _ _ (@op_add _) (@pw _ 0 _ _ (Or.inl (by kernel_rfl)) (by rfl) (by decide) (by decide)) (@pe_int _ _ _ _))) (@pe_op _ _ _ _ _ _ _ _ (@op_addS _) (@pe_op _ _ _ _ _ _ _ _ (@op_mulS _) (@pw _ 1 _ _ (Or.inr (Or.inl (by kernel_rfl))) (by rfl) (by decide) (by decide)) (@pe_op _ _ _ _ _ _ _ _ (@op_sub _) (@pw _ 0 _ _ (Or.inl (by kernel_rfl)) (by rfl) (by decide) (by decide)) (@pe_int _ _ _ _))) (@pw _ 2 _ _ (Or.inr (Or.inl (by kernel_rfl))) (by rfl) (by decide) (by decide))))) (by intro _; rfl)) (@pa_nil _) rfl) (by decide) (by decide) (by rfl) (by rfl))))) (@pss_nil _)) (@pss_one _ _ _ (@ps_ret _ _ _ _ (@pe_callTy _ _ _ _ _ _ _ _ _ (@call_tuple_ofA _ (K) (by rfl)) k_l_names_by_tuple T.b_tuple (@boot_ty_tuple) (@pa_c _ _ _ _ _ (@pe_comp _ _ _ _ _ _ _ (["_law_k", "_law_behind", "_law_first", "_law_letters"]) (1) ([5, 3, 2]) _ _ _ _ rfl (by kernel_rfl) (@pi_range1 _ _ _ _ _ _ k_l_names_by_range T.b_range (@pa_c _ _ _ _ _ (@pw _ 1 _ _ (Or.inl k_l_names_by_l_many) (by rfl) (by decide) (by decide)) (@pa_nil _) rfl) (by rfl)) (fun _ _ _ _ _ _ => (@pg_name _ _ (0) _ (@nodupS _ (by kernel_rfl)) rfl (Or.inl (by kernel_rfl)) (by first | exact .inl rfl | exact .inr rfl | assumption))) (fun _ _ _ _ _ _ => @pifs_nil _) (fun _ _ _ _ _ _ => (@pe_op _ _ _ _ _ _ _ _ (@op_addS _) (@pe_ix _ _ _ _ _ _ _ (@ix_str _) (@pw _ 3 _ _ (Or.inr (Or.inl (by kernel_rfl))) (by rfl) (by decide) (by decide)) (@pe_op _ _ _ _ _ _ _ _ (@op_mod _) (@pe_op _ _ _ _ _ _ _ _ (@op_add _) (@pw _ 2 _ _ (Or.inr (Or.inl (by kernel_rfl))) (by rfl) (by decide) (by decide)) (@pe_op _ _ _ _ _ _ _ _ (@op_mul _) (@pe_int _ _ _ _) (@pw _ 0 _ _ (Or.inl (by kernel_rfl)) (by rfl) (by decide) (by decide)))) (@pe_int _ _ _ _)) (fun _ _ => rfl)) (@pw _ 1 _ _ (Or.inr (Or.inl (by kernel_rfl))) (by rfl) (by decide) (by decide)))) (by intro _; rfl)) (@pa_nil _) rfl) (by decide) (by decide) (by rfl) (by rfl))))))), ?_⟩
    have hz : (Str.ofString "abcdefghijklmnopqrstuvwxyz").length ≤ sizeLine := by decide +kernel
    refine ⟨_, rfl, b, 26, t, rfl, B, by decide, by decide, ht0, by trivial, fun f t1 H1 f0 f1 h1a h1b s1 B1 => ⟨_, rfl, b, 8, t1, rfl, B1, by decide, by decide, by trivial, by trivial, fun r t2 H2 r0 r1 h2a h2b s2 B2 => ⟨(by show 3 ≤ 10000; decide), fun q H3 n3 => ⟨q, _, rfl, SqT.of n3.at', rfl, _, _, rfl, _, _, rfl, _, _, rfl, rfl, ?_⟩⟩⟩⟩
    have B3 := B2.same n3.sm
    have s03 := (s1.trans s2).trans n3.sm.toE
    refine ⟨rfl, _, rfl, _, rfl, by trivial, by trivial, fun D2 hD2 => comp_each (n := r.toNat) (fun i H' ys => Ex2 fun (cs : List Nat) (t' : Int) => ys = cs.map (fun c => strV [c]) ∧ H' D2 = some (.lst ys) ∧ cs.length = i ∧ (∀ c ∈ cs, 97 ≤ c ∧ c ≤ 122) ∧ Bx H' b t' ∧ t2 ≤ t' ∧ t' ≤ t2 + i ∧ SameE (Eb b) H3 H') ?_ ?_ ?_ ?_ ?_ ?_ ?_⟩
    · rw [sizeLine_eq]; trivial
    · exact ⟨[], t2, rfl, upd_same, rfl, fun c h => (by cases h), B3.same (Same.new hD2), by trivial, by trivial, (Same.new hD2).toE⟩
    · rintro i' H'' ys ⟨cs, t7, rfl, e, rfl, _⟩
      exact ⟨e, by simp⟩
    · intro i' H'' ys hi' _
      exact hi'
    · intro H'' ys _
      exact Nat.le_refl _
    · have nD2 : ¬ D2 = b := fun z => B3.ne hD2 z.symm
      rintro i' Ha ys x Hb hi' ⟨cs, t7, rfl, g1, g2, g3, g4, g5, g6, g7⟩ ⟨rfl, rfl⟩
      refine ⟨back1, _, rfl, _, rfl, b, 26, t7, rfl, g4, by decide, by decide, by trivial, by trivial, fun r8 t8 Hc r80 r81 _ _ jc Cc => ⟨_, _, _, rfl, rfl, hz, letter_at (by trivial) (by trivial), ?_⟩⟩
      have eD := jc.old D2 _ nD2 g1
      refine ⟨eD, cs ++ [97 + (r8 % 26).toNat], t8, by rw [List.map_append]; rfl, upd_same, by rw [List.length_append, g2]; rfl, fun c hc => ?_, ?_, by trivial, by trivial, (g7.trans jc).up hD2⟩
      · rcases List.mem_append.mp hc with h | h
        · exact g3 c h
        · rw [List.mem_singleton.mp h]; trivial
      · have c' : Ch Hc D2 (cs.map (fun c => strV [c]) ++ [strV [97 + (r8 % 26).toNat]]) _ := Ch.mk'
        exact Cc.ch c' (Ne.symm nD2)
    rintro J4 ys ⟨cs, t7, rfl, g1, g2, g3, C4, g5, g6, j4⟩
    refine ⟨D2, cs.map (fun c => [c]), ?_, rfl, SqL.of (by rw [g1, List.map_map]; rfl), ?_, ?_⟩
    · rw [show (Str.ofString "") = S [] from empty_eq]
    · rw [List.map_map]
      have : (cs.map ((fun l : List Nat => l.length) ∘ fun c => [c])).sum = cs.length := by
        clear g1 g2 g3 j4
        induction cs with
        | nil => rfl
        | cons c r ih => simp at ih ⊢; trivial
      rw [this]; trivial
    have fl : (cs.map (fun c => [c])).flatten = cs := by
      clear g1 g2 g3 j4
      induction cs with
      | nil => rfl
      | cons c r ih => rw [List.map_cons, List.flatten_cons, ih]; rfl
    rw [fl]
    have s04 := s03.trans j4
    refine ⟨_, rfl, b, 4, t7, rfl, C4, by decide, by decide, by trivial, by trivial, fun r9 t9 H9 r90 r91 _ _ s9 B9 => ⟨rfl, _, rfl, ?_⟩⟩
    have s09 := s04.trans s9
    refine ite2 (fun c1 => ?_) (fun c1 => ?_)
    · -- rows of one letter
      refine ⟨(by show 2 ≤ 10000; decide), fun u1 J1 e1 => ⟨(by show 2 ≤ 10000; decide), fun u2 J2 e2 => ⟨(by show 2 ≤ 10000; decide), fun u3 J3 e3 => ⟨_, rfl, rfl, .inr ⟨_, rfl, ?_⟩⟩⟩⟩⟩
      have ea : Str.ofString "a" = S [97] := by decide +kernel
      have ez : Str.ofString "z" = S [122] := by decide +kernel
      generalize decide (V.int f = V.int 25) = cc
      obtain ⟨u, d1, d2, eu, hu, hd⟩ : Ex3 fun u d1 d2 => atI [V.ref u1, V.ref u2] (if cc = true then 1 else 0) = some (.ref u) ∧ J3 u = some (.tup [strV [d1], strV [d2]]) ∧ 97 ≤ d1 ∧ d1 ≤ 122 := by
        cases cc with
        | true => exact ⟨u2, 122, 97, rfl, by rw [e3.sm _ _ e2.at', ea, ez], by decide, by decide⟩
        | false => exact ⟨u1, 97, 122, rfl, by rw [e3.sm _ _ (e2.sm _ _ e1.at'), ea, ez], by decide, by decide⟩
      refine ⟨u3, _, _, _, rfl, rfl, SqL.of e3.at', eu, u, _, rfl, SqT.of hu, rfl, _, _, rfl, _, _, rfl, rfl, ?_⟩
      have sJ := ((e1.sm.trans e2.sm).trans e3.sm)
      have BJ := B9.same sJ
      refine ⟨_, rfl, _, rfl, by trivial, by trivial, fun D hD => comp_each (n := many.toNat) (fun i H' ys => ys = (List.range i).map (fun k => strV (nm d1 k)) ∧ H' D = some (.lst ys) ∧ Same J3 H') ?_ ⟨rfl, upd_same, same_lst hD (Same.refl _)⟩ ?_ ?_ ?_ ?_ ?_⟩
      · rw [sizeLine_eq]; trivial
      · rintro i H' ys ⟨rfl, e, _⟩
        exact ⟨e, by simp⟩
      · intro i H' ys hi _
        exact hi
      · intro H' ys _
        exact Nat.le_refl _
      · rintro i H' ys x H'' hi ⟨g1, g2, g3⟩ ⟨rfl, rfl⟩
        refine ⟨back1, _, rfl, _, _, rfl, rfl, _, rfl, ite2 (fun _ => ?_) (fun z => absurd (decide_eq_true (show (0 : Int) + (i : Int) < 8 by trivial)) z)⟩
        refine ⟨_, rfl, _, rfl, _, _, rfl, rfl, [d1], _, rfl, rfl, by trivial, by trivial, (by show 1 ≤ 100; decide), ?_⟩
        have en : (List.replicate (0 + (i : Int) + 1).toNat [d1]).flatten = nm d1 i := by
          rw [rep1]
          unfold nm
          congr 1
          trivial
        rw [en]
        refine ⟨g2, ?_, upd_same, same_lst hD g3⟩
        rw [g1, List.range_succ, List.map_append]; rfl
      rintro H4 ys1 ⟨ey1, eD1, s4⟩
      subst ey1
      refine ⟨D, _, rfl, SqL.of eD1, fun q5 H5 n5 => k q5 ((List.range many.toNat).map (nm d1)) t9 H5 (((s09.trans sJ.toE).trans s4.toE).trans n5.sm.toE) ?_ (by simp) (nm_nodup _ _) ?_ ((BJ.same s4).same n5.sm) (by trivial) (by trivial)⟩
      · rw [n5.at', List.map_map]; rfl
      · intro l hl
        obtain ⟨j, hj, rfl⟩ := List.mem_map.mp hl
        exact nm_ok (by have := List.mem_range.mp hj; trivial) hd.1 hd.2
    · -- letters of eleven steps
      refine ⟨_, rfl, _, rfl, by trivial, by trivial, fun D hD => comp_each (n := many.toNat) (fun i H' ys => ys = (List.range i).map (fun (k : Nat) => strV ((97 + ((f + 11 * (k : Int)) % 26).toNat) :: cs)) ∧ H' D = some (.lst ys) ∧ Same H9 H') ?_ ⟨rfl, upd_same, same_lst hD (Same.refl _)⟩ ?_ ?_ ?_ ?_ ?_⟩
      · rw [sizeLine_eq]; trivial
      · rintro i H' ys ⟨rfl, e, _⟩
        exact ⟨e, by simp⟩
      · intro i H' ys hi _
        exact hi
      · intro H' ys _
        exact Nat.le_refl _
      · rintro i H' ys x H'' hi ⟨g1', g2', g3'⟩ ⟨rfl, rfl⟩
        refine ⟨back1, _, rfl, _, rfl, _, rfl, _, _, rfl, rfl, .inl ⟨by decide, by decide⟩, _, _, rfl, rfl, _, _, rfl, rfl, (by show (0 : Int) < 26; decide), _, _, _, rfl, rfl, hz, letter_at (by trivial) (by trivial), _, rfl, [97 + (((f + 11 * (0 + (i : Int))) % 26) % 26).toNat], cs, rfl, rfl, ?_, ?_⟩
        · simp; trivial
        refine ⟨g2', ?_, upd_same, same_lst hD g3'⟩
        rw [g1', List.range_succ, List.map_append]
        congr 1
        show [strV ([97 + (((f + 11 * (0 + (i : Int))) % 26) % 26).toNat] ++ cs)] = [strV ((97 + ((f + 11 * (i : Int)) % 26).toNat) :: cs)]
        have : (((f + 11 * (0 + (i : Int))) % 26) % 26).toNat = ((f + 11 * (i : Int)) % 26).toNat := by trivial
        rw [this]; rfl
      rintro H4 ys1 ⟨ey1, eD1, s4⟩
      subst ey1
      refine ⟨D, _, rfl, SqL.of eD1, fun q5 H5 n5 => k q5 ((List.range many.toNat).map (fun (k : Nat) => (97 + ((f + 11 * (k : Int)) % 26).toNat) :: cs)) t9 H5 ((s09.trans s4.toE).trans n5.sm.toE) ?_ (by simp) (heads_nodup (f := f) (by simp; trivial) ?_) ?_ ((B9.same s4).same n5.sm) (by trivial) (by trivial)⟩
      · rw [n5.at', List.map_map]; rfl
      · intro j l hl
        rw [List.getElem?_map] at hl
        obtain ⟨j', hj', rfl⟩ := Option.map_eq_some_iff.mp hl
        obtain ⟨hlt, ej⟩ := List.getElem?_eq_some_iff.mp hj'
        rw [List.getElem_range] at ej
        subst ej
        rfl
      · intro l hl
        obtain ⟨j, hj, rfl⟩ := List.mem_map.mp hl
        refine ⟨by simp, by simp; trivial, fun c hc => ?_⟩
        rcases List.mem_cons.mp hc with h | h
        · rw [h]; trivial
        · exact g3 c h
end
end K46
namespace K46
open PySem L2
section
variable {P : Program} {w : World} {K : PySem.W.Frag} {mg : Str → Option Value} {base : Heap}
end
end K46
namespace K46
open PySem L2
theorem fr0_inv {d : PyData} (h : isFr0 d = true) : Ex2 fun n e => d = .tuple [.int n, .int e] := by
  have hb' : isFr d = true := by
    cases hc : isFr d with
    | true => rfl
    | false => rw [(fr0_false hc).1] at h; cases h
  obtain ⟨n, e, rfl, _⟩ := isFr_inv hb'
  exact ⟨n, e, rfl⟩
section
variable {P : Program} {w : World} {K : PySem.W.Frag} {mg : Str → Option Value} {base : Heap}
end
end K46
namespace K46
open PySem L2
structure PT where
  bg : List Nat
  en : List Nat
  most : KM.Fra
  gain : KM.Fra
structure TU where
  pl : List Nat
  st : List Nat
  ot : List Nat
  most : KM.Fra
  gain : KM.Fra
structure WE where
  pl : List Nat
  st : List Nat
  most : KM.Fra
abbrev strsD (ls : List (List Nat)) : List PyData := ls.map fun l => PyData.str (S l)
def ptD (t : PT) : PyData := .tuple [.str (S t.bg), .str (S t.en), frD t.most, frD t.gain]
def tuD (t : TU) : PyData := .tuple [.str (S t.pl), .str (S t.st), .str (S t.ot), frD t.most, frD t.gain]
def weD (t : WE) : PyData := .tuple [.str (S t.pl), .str (S t.st), frD t.most]
structure PTC (ls : List (List Nat)) (t : PT) : Prop where
  b : t.bg ∈ ls
  e : t.en ∈ ls
  ne : t.bg ≠ t.en
  fm : Fb 24 t.most.1 t.most.2
  m0 : 0 ≤ t.most.1
  fg : Fb 6 t.gain.1 t.gain.2
  g1 : 1 ≤ t.gain.1
structure TUC (ls ss : List (List Nat)) (t : TU) : Prop where
  p : t.pl ∈ ls
  s : t.st ∈ ss
  o : t.ot ∈ ss
  ne : t.st ≠ t.ot
  fm : Fb 24 t.most.1 t.most.2
  m0 : 0 ≤ t.most.1
  fg : Fb 6 t.gain.1 t.gain.2
  g1 : 1 ≤ t.gain.1
structure WEC (lo : Int) (ls ss : List (List Nat)) (t : WE) : Prop where
  p : t.pl ∈ ls
  s : t.st ∈ ss
  fm : Fb 24 t.most.1 t.most.2
  m0 : lo ≤ t.most.1
def planD (ls ss : List (List Nat)) (ts : List PT) (us : List TU) (ws qs : List WE) : PyData :=
  .tuple [.tuple (strsD ls), .tuple (strsD ss), .tuple (ts.map ptD), .tuple (us.map tuD), .tuple (ws.map weD), .tuple (qs.map weD)]
structure PlC (ls ss : List (List Nat)) (ts : List PT) (us : List TU) (ws qs : List WE) : Prop where
  l1 : 1 ≤ ls.length
  l6 : ls.length ≤ 6
  s1 : 1 ≤ ss.length
  s4 : ss.length ≤ 4
  ln : ls.Nodup
  sn : ss.Nodup
  lc : ∀ l ∈ ls, NameC l
  sc : ∀ l ∈ ss, NameC l
  t12 : ts.length ≤ 12
  u12 : us.length ≤ 12
  w7 : ws.length ≤ 7
  q6 : qs.length ≤ 6
  tc : ∀ x ∈ ts, PTC ls x
  uc : ∀ x ∈ us, TUC ls ss x
  wc : ∀ x ∈ ws, WEC 0 ls ss x
  qc : ∀ x ∈ qs, WEC 1 ls ss x
theorem wt_pt {ls : List (List Nat)} {t : PT} (hl : ∀ l ∈ ls, NameC l) (h : PTC ls t) : Wt (ptD t) 9 2 :=
  .tuple (.cons (.str (strT_name (hl _ h.b))) (.cons (.str (strT_name (hl _ h.e))) (.cons (wt_fr h.fm (by decide)) (.cons (wt_fr h.fg (by decide)) .nil))))
theorem wt_tu {ls ss : List (List Nat)} {t : TU} (hl : ∀ l ∈ ls, NameC l) (hs : ∀ l ∈ ss, NameC l) (h : TUC ls ss t) : Wt (tuD t) 10 2 :=
  .tuple (.cons (.str (strT_name (hl _ h.p))) (.cons (.str (strT_name (hs _ h.s))) (.cons (.str (strT_name (hs _ h.o))) (.cons (wt_fr h.fm (by decide)) (.cons (wt_fr h.fg (by decide)) .nil)))))
theorem wt_we {lo : Int} {ls ss : List (List Nat)} {t : WE} (hl : ∀ l ∈ ls, NameC l) (hs : ∀ l ∈ ss, NameC l) (h : WEC lo ls ss t) : Wt (weD t) 6 2 :=
  .tuple (.cons (.str (strT_name (hl _ h.p))) (.cons (.str (strT_name (hs _ h.s))) (.cons (wt_fr h.fm (by decide)) .nil)))
section
variable {P : Program} {w : World} {K : PySem.W.Frag} {mg : Str → Option Value} {base : Heap}
inductive spOneOf_ (vs : List V) (H : Hp) (Q : VK) : Prop
  | mk (b p : Addr) (ls : List (List Nat)) (t : Int) (h0 : vs = [.ref b, .ref p]) (h1 : Bx H b t) (h2 : 0 ≤ t) (h3 : t ≤ 900000) (h4 : H p = some (.tup (ls.map strV))) (h5 : 1 ≤ ls.length) (h6 : ls.length ≤ 100) (h7 : ∀ l t' H', l ∈ ls → SameE (Eb b) H H' → Bx H' b t' → t ≤ t' → t' ≤ t + 1 → Q (strV l) H')
def spOneOf : Sp := fun vs H Q _ => spOneOf_  vs H Q
theorem ok_one_of (T : Txt K mg) : FnOk P w K mg base CX0 2 T.f_l_one_of T.d_l_one_of ["_law_box_here", "_law_things"] spOneOf := by
  have G_l_take := ok_take (P := P) (w := w) (base := base) T
  refine T.F_l_one_of.ok sc_l_one_of (fun vs H Q E h => ?_) (fun cdv A outer s H vs Q E hr h => ?_)
  · obtain ⟨b, p, ls, t, rfl, _⟩ := h
    rfl
  · obtain ⟨b, p, ls, t, rfl, B, ht0, ht1, hp, hl1, hl2, k⟩ := h
    refine ⟨_, (@pss_one _ _ _ (@ps_ret _ _ _ _ (@pe_ix _ _ _ _ _ _ _ (@ixT_k _ (K) (by rfl)) (@pw _ 1 _ _ (Or.inl k_l_one_of_l_things) (by rfl) (by decide) (by decide)) (@pe_call _ _ _ _ _ _ _ _ _ _ _ _ _ _ _ _ G_l_take (hr.mono (by decide)) k_l_one_of_l_take T.m_l_take T.F_l_take.kp T.B_l_take .nil (@pass0 _) (@pa_c _ _ _ _ _ (@pw _ 0 _ _ (Or.inl k_l_one_of_l_box_here) (by rfl) (by decide) (by decide)) (@pa_c _ _ _ _ _ (@pe_callB _ _ _ _ _ _ _ _ _ (@len_k _ (K) (by rfl)) k_l_one_of_len T.b_len (@boot_b_len) (@pa_c _ _ _ _ _ (@pw _ 1 _ _ (Or.inl k_l_one_of_l_things) (by rfl) (by decide) (by decide)) (@pa_nil _) rfl) (by decide) (by decide) (by rfl) (by rfl)) (@pa_nil _) rfl) rfl) (by decide) (by rfl) (by rfl)) (fun _ _ => rfl)))), ?_⟩
    have en : ((ls.map strV).length : Int) = (ls.length : Int) := by rw [List.length_map]
    refine ⟨_, rfl, _, rfl, _, rfl, p, _, rfl, .inr (SqT.of hp), b, _, t, rfl, B, by trivial, log9 (by trivial) (by trivial), ht0, by trivial, fun r t1 H1 r0 r1 h1a h1b s1 B1 => ?_⟩
    exact ⟨p, _, _, _, rfl, rfl, SqT.of (s1.tup _ _ hp), atI_map r0 (by trivial), k _ t1 H1 (List.getElem_mem _) s1 B1 h1a h1b⟩
inductive spTwice_ (vs : List V) (H : Hp) (Q : VK) : Prop
  | mk (b r : Addr) (ys : List V) (ds : List PyData) (m t : Int) (wn wk : Nat) (h0 : vs = [.ref b, .ref r, .int m]) (h1 : Bx H b t) (h2 : 0 ≤ t) (h3 : t ≤ 900000) (h4 : r ≠ b) (h5 : H r = some (.lst ys)) (h6 : IsAll ED H ys ds) (h7 : WtL ds wn wk) (h8 : wk ≤ 30) (h9 : ys.length ≤ 100) (h10 : ∀ q (j : Nat) t' H', SameE (Eb b) H H' → j ≤ 1 → (j = 1 → (ys.length : Int) < m) → H' q = some (.tup (ys ++ ys.take j)) → Bx H' b t' → t ≤ t' → t' ≤ t + 1 → Q (.ref q) H')
def spTwice : Sp := fun vs H Q _ => spTwice_  vs H Q
theorem ok_twice (T : Txt K mg) : FnOk P w K mg base CX0 2 T.f_l_twice T.d_l_twice ["_law_box_here", "_law_rows", "_law_most_rows"] spTwice := by
  have G_l_take := ok_take (P := P) (w := w) (base := base) T
  refine T.F_l_twice.ok sc_l_twice (fun vs H Q E h => ?_) (fun cdv A outer s H vs Q E hr h => ?_)
  · obtain ⟨b, r, ys, ds, m, t, wn, wk, rfl, _⟩ := h
    rfl
  · obtain ⟨b, r, ys, ds, m, t, wn, wk, rfl, B, ht0, ht1, hrb, hr', iy, wd, hwk, hl, k⟩ := h
    refine ⟨_, (@pss_cons _ _ _ _ _ (@ps_if _ _ _ _ _ _ _ _ (@PW.pt _ _ _ (@pw_and _ _ _ _ _ _ _ (@pt_cmpR _ _ _ _ _ _ _ _ (@op_neD _ hr.units) (@pw _ 1 _ _ (Or.inl k_l_twice_l_rows) (by rfl) (by decide) (by decide)) (@pe_lstA _ _ _ _ (@pa_nil _)) (@nomark _ _ (by decide) (by decide))) (@pw_and _ _ _ _ _ _ _ (@pt_cmpR _ _ _ _ _ _ _ _ (@op_lt _) (@pe_callB _ _ _ _ _ _ _ _ _ (@len_k _ (K) (by rfl)) k_l_twice_len T.b_len (@boot_b_len) (@pa_c _ _ _ _ _ (@pw _ 1 _ _ (Or.inl k_l_twice_l_rows) (by rfl) (by decide) (by decide)) (@pa_nil _) rfl) (by decide) (by decide) (by rfl) (by rfl)) (@pw _ 2 _ _ (Or.inl k_l_twice_l_most_rows) (by rfl) (by decide) (by decide)) (@nomark _ _ (by decide) (by decide))) (@pw_and1 _ _ _ _ (@pt_cmpR _ _ _ _ _ _ _ _ (@op_eq _) (@pe_call _ _ _ _ _ _ _ _ _ _ _ _ _ _ _ _ G_l_take (hr.mono (by decide)) k_l_twice_l_take T.m_l_take T.F_l_take.kp T.B_l_take .nil (@pass0 _) (@pa_c _ _ _ _ _ (@pw _ 0 _ _ (Or.inl k_l_twice_l_box_here) (by rfl) (by decide) (by decide)) (@pa_c _ _ _ _ _ (@pe_int _ _ _ _) (@pa_nil _) rfl) rfl) (by decide) (by rfl) (by rfl)) (@pe_int _ _ _ _) (@nomark _ _ (by decide) (by decide))))))) (@pss_one _ _ _ (@ps_ret _ _ _ _ (@pe_callTy _ _ _ _ _ _ _ _ _ (@call_tuple_ofA _ (K) (by rfl)) k_l_twice_tuple T.b_tuple (@boot_ty_tuple) (@pa_c _ _ _ _ _ (@pe_op _ _ _ _ _ _ _ _ (@op_catA _) (@pw _ 1 _ _ (Or.inl k_l_twice_l_rows) (by rfl) (by decide) (by decide)) (@pe_slice _ _ _ _ _ _ _ _ _ _ (@sl_listA _ (K) (by rfl)) (@pw _ 1 _ _ (Or.inl k_l_twice_l_rows) (by rfl) (by decide) (by decide)) (@po_none _) (@po_some _ _ _ (@pe_int _ _ _ _)))) (@pa_nil _) rfl) (by decide) (by decide) (by rfl) (by rfl)))) (@pss_nil _)) (@pss_one _ _ _ (@ps_ret _ _ _ _ (@pe_callTy _ _ _ _ _ _ _ _ _ (@call_tuple_ofA _ (K) (by rfl)) k_l_twice_tuple T.b_tuple (@boot_ty_tuple) (@pa_c _ _ _ _ _ (@pw _ 1 _ _ (Or.inl k_l_twice_l_rows) (by rfl) (by decide) (by decide)) (@pa_nil _) rfl) (by decide) (by decide) (by rfl) (by rfl))))), ?_⟩
    have fin : ∀ t' H', SameE (Eb b) H H' → Bx H' b t' → t ≤ t' → t' ≤ t + 1 → tRet (tCB (rTupleA K) (tCons (tVar 1) tNil)) { nx := fun x H' => Q .non H', rt := Q } [some (.ref b), some (.ref r), some (.int m)] H' := fun t' H' s' B' h1 h2 =>
      ⟨_, rfl, r, ys, rfl, SqL.of (s'.old r _ hrb hr'), fun q H2 n2 => k q 0 t' H2 (s'.trans n2.sm.toE) (by decide) (by intro z; cases z) (by rw [n2.at']; simp) (B'.same n2.sm) h1 h2⟩
    refine ⟨_, rfl, (by show 0 ≤ 10000; decide), fun o1 H1 n1 => ⟨.list ds, .list [], fun _ => False, fun _ => False, _, _, _, 1, .lst (n1.sm _ _ hr') id ((iy.mono n1.sm.toE).narrow fun _ _ => trivial), .lst n1.at' id .nil, .list wd, .list .nil, by trivial, _, rfl, ?_⟩⟩
    refine ite2 (fun c1 => ?_) (fun c1 => ?_)
    · have hr1 := n1.sm _ _ hr'
      refine ⟨_, rfl, r, _, rfl, .inl (SqL.of hr1), _, rfl, _, _, rfl, rfl, _, rfl, ite2 (fun c2 => ?_) (fun c2 => ?_)⟩
      · have hlt := of_decide_eq_true c2
        refine ⟨_, rfl, b, 4, t, rfl, B.same n1.sm, by decide, by decide, ht0, by trivial, fun rr t2 H2 _ _ h2a h2b s2 B2 => ⟨rfl, _, rfl, ite2 (fun c3 => ?_) (fun c3 => ?_)⟩⟩
        · have s02 := n1.sm.toE.trans s2
          have hr2 := s02.old r _ hrb hr'
          refine ⟨_, rfl, _, rfl, _, rfl, r, _, rfl, SqL.of hr2, fun o3 H3 n3 => ⟨r, o3, _, _, rfl, rfl, n3.sm _ _ hr2, n3.at', by have := cutV_length ys none (some 1); trivial, fun o4 H4 n4 => ⟨o4, _, rfl, SqL.of n4.at', fun q H5 n5 => k q 1 t2 H5 (((s02.trans n3.sm.toE).trans n4.sm.toE).trans n5.sm.toE) (Nat.le_refl _) (fun _ => hlt) ?_ (((B2.same n3.sm).same n4.sm).same n5.sm) h2a h2b⟩⟩⟩
          rw [n5.at', cutV_take (by decide)]; rfl
        · exact fin t2 H2 (n1.sm.toE.trans s2) B2 h2a h2b
      · exact fin t H1 n1.sm.toE (B.same n1.sm) (by trivial) (by trivial)
    · exact fin t H1 n1.sm.toE (B.same n1.sm) (by trivial) (by trivial)
end
end K46
namespace K46
open PySem L2
def isTupN (n : Nat) : PyData → Bool
  | .tuple ds => decide (ds.length = n)
  | _ => false
theorem tupN_inv {n : Nat} {d : PyData} (h : isTupN n d = true) : ∃ ds : List PyData, d = .tuple ds ∧ ds.length = n := by
  cases d with
  | tuple ds => exact ⟨ds, rfl, of_decide_eq_true h⟩
  | _ => cases h
theorem tup3 {d : PyData} (h : isTupN 3 d = true) : Ex3 fun a b c => d = .tuple [a, b, c] := by
  obtain ⟨ds, rfl, hl⟩ := tupN_inv h
  rcases ds with _ | ⟨a, _ | ⟨b, _ | ⟨c, _ | ⟨z, r⟩⟩⟩⟩ <;> first | exact ⟨_, _, _, rfl⟩ | cases hl
theorem tup_all {E : Addr → Prop} {H : Hp} {x : V} {ds : List PyData} (h : IsD E H x (.tuple ds)) : Ex2 fun a xs => x = .ref a ∧ H a = some (.tup xs) ∧ IsAll E H xs ds := by
  cases h with
  | @tup a xs _ h r => exact ⟨a, xs, rfl, h, r⟩
theorem all_id (ds : List PyData) (f : PyData → Bool) : (ds.map f).all id = ds.all f := by rw [List.all_map]; rfl
theorem all_tup {K : PySem.W.Frag} {E : Addr → Prop} {q : Addr} {zs : List V} {ds : List PyData} {H1 : Hp} {σc : St} {g : TG} {te : TE} {Q : VK} (f : PyData → Bool) (hq : H1 q = some (.tup zs)) (r : IsAll E H1 zs ds) (hl : zs.length ≤ 10000)
    (step : ∀ x dx H' (R : VK), dx ∈ ds → IsD E H' x dx → Same H1 H' → (∀ H4, Same H' H4 → R (.bl (f dx)) H4) → g x σc H' fun σ2 H2 => Back σc σ2 ∧ te σ2 H2 R)
    (fin : ∀ D H', Same H1 H' → H' D = some (.lst ((ds.map f).map V.bl)) → Q (.ref D) H') : ∀ D, H1 D = none → CompW (Itt K q) σc g tT te D H1 Q := fun D hD => by
  refine comp_mapT (xs := zs) (fun i => .bl (f ((ds[i]?).getD .none))) hl hD hq ?_ ?_
  · intro i x H' R hxi sm kk
    obtain ⟨dx, e1, g1⟩ := r.get hxi
    rw [e1] at kk
    exact step x dx H' R (List.mem_of_getElem? e1) (g1.mono sm.toE) sm kk
  · intro H2 s2 hD2
    have e3 : (List.range zs.length).map (fun i => V.bl (f ((ds[i]?).getD .none))) = (ds.map f).map V.bl := by
      rw [r.length, map_range_get (fun i => V.bl (f ((ds[i]?).getD .none))) (fun d => V.bl (f d)) ds (fun i x e => by rw [e]; rfl), List.map_map]
      rfl
    rw [e3] at hD2
    exact fin D H2 s2 hD2
section
variable {P : Program} {w : World} {K : PySem.W.Frag} {mg : Str → Option Value} {base : Heap}
inductive spTupOf_ (vs : List V) (H : Hp) (Q : VK) : Prop
  | mk (x : V) (n : Nat) (d : PyData) (E : Addr → Prop) (h0 : vs = [x, .int (n : Int)]) (h1 : IsD E H x d) (h2 : Q (.bl (isTupN n d)) H)
def spTupOf : Sp := fun vs H Q _ => spTupOf_  vs H Q
theorem ok_is_tuple_of (T : Txt K mg) : FnOk P w K mg base CX0 1 T.f_is_tuple_of T.d_is_tuple_of ["thing", "size"] spTupOf := by
  refine T.F_is_tuple_of.ok sc_is_tuple_of (fun vs H Q E h => ?_) (fun cdv A outer s H vs Q E hr h => ?_)
  · obtain ⟨x, n, d, E', rfl, _⟩ := h
    rfl
  · obtain ⟨x, n, d, E', rfl, hx, k⟩ := h
    refine ⟨_, (@pss_one _ _ _ (@ps_ret _ _ _ _ (@pe_and _ _ _ _ _ _ _ (@pe_callB _ _ _ _ _ _ _ _ _ (@isinst_k _ (K) (by rfl)) k_is_tuple_of_isinstance T.b_isinstance (@boot_b_isinstance) (@pa_c _ _ _ _ _ (@pw _ 0 _ _ (Or.inl k_is_tuple_of_thing) (by rfl) (by decide) (by decide)) (@pa_c _ _ _ _ _ (@pe_ty _ _ _ _ k_is_tuple_of_tuple T.b_tuple (@boot_ty_tuple) (by decide) (by decide)) (@pa_nil _) rfl) rfl) (by decide) (by decide) (by rfl) (by rfl)) (@pe_one _ _ _ _ _ (@pe_cmpR _ _ _ _ _ _ _ _ (@op_eq _) (@pe_callB _ _ _ _ _ _ _ _ _ (@len_k _ (K) (by rfl)) k_is_tuple_of_len T.b_len (@boot_b_len) (@pa_c _ _ _ _ _ (@pw _ 0 _ _ (Or.inl k_is_tuple_of_thing) (by rfl) (by decide) (by decide)) (@pa_nil _) rfl) (by decide) (by decide) (by rfl) (by rfl)) (@pw _ 1 _ _ (Or.inl k_is_tuple_of_size) (by rfl) (by decide) (by decide)) (@nomark _ _ (by decide) (by decide))))))), ?_⟩
    refine ⟨_, rfl, _, _, _, _, rfl, hx.ty, kit_tuple d, _, rfl, ?_⟩
    cases hx with
    | non => exact iteF k
    | bl b => exact iteF k
    | int i => exact iteF k
    | str y => exact iteF k
    | lst h ne r => exact iteF k
    | @tup a xs ds h r =>
      refine iteT ⟨_, rfl, a, xs, rfl, .inr (SqT.of h), _, rfl, rfl, ?_⟩
      have e : decide (V.int (xs.length : Int) = V.int (n : Int)) = isTupN n (.tuple ds) := by
        show _ = decide (ds.length = n)
        rw [r.length]
        by_cases c : ds.length = n
        · rw [decide_eq_true c, c, decide_eq_true rfl]
        · rw [decide_eq_false c, decide_eq_false]
          intro z
          injection z with z
          exact c (by trivial)
      rw [e]
      exact k
end
end K46
namespace K46
open PySem L2
theorem eqv_low {n e : Int} (h : 1 ≤ e) : PyData.eqv (frD (KM.low n e)) (.tuple [.int n, .int e]) = decide (Int.gcd n e = 1) := by
  have e1 : PyData.eqv (frD (KM.low n e)) (.tuple [.int n, .int e]) = ((KM.low n e).1 == n && ((KM.low n e).2 == e && true)) := by
    simp [PyData.eqv, PyData.eqvAll]
  rw [e1]
  obtain ⟨_, _, c, _⟩ := KM.low_spec n e (by trivial)
  by_cases g : Int.gcd n e = 1
  · rw [KM.low_self h g, g]; simp
  · rw [decide_eq_false g]
    by_cases q1 : (KM.low n e).1 = n
    · by_cases q2 : (KM.low n e).2 = e
      · rw [q1, q2] at c; exact absurd c g
      · simp [q2]
    · simp [q1]
theorem isFr_no {d : PyData} (h : isTupN 2 d = false) : isFr d = false := by
  cases d with
  | tuple ds => rcases ds with _ | ⟨a, _ | ⟨b, _ | ⟨z, r⟩⟩⟩ <;> first | rfl | (cases a <;> rfl) | (cases a <;> first | rfl | (cases b <;> rfl)) | cases h
  | _ => rfl
theorem tup2 {d : PyData} (h : isTupN 2 d = true) : Ex2 fun a b => d = .tuple [a, b] := by
  obtain ⟨ds, rfl, hl⟩ := tupN_inv h
  exact len2 (P := fun l => Ex2 fun a b => PyData.tuple l = .tuple [a, b]) (fun a b => ⟨a, b, rfl⟩) _ hl
theorem isFr_num {a b : PyData} (h : (isNum a && isNum b) = false) : isFr (.tuple [a, b]) = false := by
  cases a with
  | int n =>
    cases b with
    | int m => cases h
    | _ => rfl
  | _ => rfl
section
variable {P : Program} {w : World} {K : PySem.W.Frag} {mg : Str → Option Value} {base : Heap}
inductive spFrS_ (vs : List V) (H : Hp) (Q : VK) : Prop
  | mk (x : V) (d : PyData) (E : Addr → Prop) (wn wk : Nat) (h0 : vs = [x]) (h1 : IsD E H x d) (h2 : Wt d wn wk) (h3 : ∀ H', Same H H' → Q (.bl (isFr d)) H')
def spFrS : Sp := fun vs H Q _ => spFrS_  vs H Q
theorem ok_l_is_fraction (T : Txt K mg) : FnOk P w K mg base CX0 2 T.f_l_is_fraction T.d_l_is_fraction ["_law_thing"] spFrS := by
  have G_l_frac := ok_frac (P := P) (w := w) (base := base) T
  refine T.F_l_is_fraction.ok sc_l_is_fraction (fun vs H Q E h => ?_) (fun cdv A outer s H vs Q E hr h => ?_)
  · obtain ⟨x, d, F, wn, wk, rfl, _⟩ := h
    rfl
  · obtain ⟨x, d, F, wn, wk, rfl, hx, wd, k⟩ := h
    refine ⟨_, (@pss_cons _ _ _ _ _ (@ps_if _ _ _ _ _ _ _ _ (@PW.pt _ _ _ (@pw_or _ _ _ _ _ _ _ (@pt_not _ _ _ _ (@pt_val _ _ _ (@pe_callB _ _ _ _ _ _ _ _ _ (@isinst_k _ (K) (by rfl)) k_l_is_fraction_isinstance T.b_isinstance (@boot_b_isinstance) (@pa_c _ _ _ _ _ (@pw _ 0 _ _ (Or.inl k_l_is_fraction_l_thing) (by rfl) (by decide) (by decide)) (@pa_c _ _ _ _ _ (@pe_ty _ _ _ _ k_l_is_fraction_tuple T.b_tuple (@boot_ty_tuple) (by decide) (by decide)) (@pa_nil _) rfl) rfl) (by decide) (by decide) (by rfl) (by rfl)) (by intro _; rfl))) (@pw_or1 _ _ _ _ (@pt_cmpR _ _ _ _ _ _ _ _ (@op_ne _) (@pe_callB _ _ _ _ _ _ _ _ _ (@len_k _ (K) (by rfl)) k_l_is_fraction_len T.b_len (@boot_b_len) (@pa_c _ _ _ _ _ (@pw _ 0 _ _ (Or.inl k_l_is_fraction_l_thing) (by rfl) (by decide) (by decide)) (@pa_nil _) rfl) (by decide) (by decide) (by rfl) (by rfl)) (@pe_int _ _ _ _) (@nomark _ _ (by decide) (by decide)))))) (@pss_one _ _ _ (@ps_ret _ _ _ _ (@pe_bl _ _ _ _))) (@pss_nil _)) (@pss_cons _ _ _ _ _ (@ps_if _ _ _ _ _ _ _ _ (@pt_not _ _ _ _ (@pt_val _ _ _ (@pe_callB _ _ _ _ _ _ _ _ _ (@all_k _ (K) rfl (by rfl)) k_l_is_fraction_all T.b_all (@boot_b_all) (@pa_c _ _ _ _ _ (@pe_comp _ _ _ _ _ _ _ (["_law_part"]) (1) ([]) _ _ _ _ rfl (by kernel_rfl) (@pi_tup_k _ (K) _ _ _ (@pw _ 0 _ _ (Or.inl k_l_is_fraction_l_thing) (by rfl) (by decide) (by decide)) (by rfl)) (fun _ _ _ _ _ _ => (@pg_name _ _ (0) _ (@nodupS _ (by kernel_rfl)) rfl (Or.inl (by kernel_rfl)) (by first | exact .inl rfl | exact .inr rfl | assumption))) (fun _ _ _ _ _ _ => @pifs_nil _) (fun _ _ _ _ _ _ => (@pe_and _ _ _ _ _ _ _ (@pe_callB _ _ _ _ _ _ _ _ _ (@isinst_k _ (K) (by rfl)) (by show _ = _; kernel_rfl) T.b_isinstance (@boot_b_isinstance) (@pa_c _ _ _ _ _ (@pw _ 0 _ _ (Or.inl (by kernel_rfl)) (by rfl) (by decide) (by decide)) (@pa_c _ _ _ _ _ (@pe_ty _ _ _ _ (by show _ = _; kernel_rfl) T.b_int (@boot_ty_int) (by decide) (by decide)) (@pa_nil _) rfl) rfl) (by decide) (by decide) (by rfl) (by rfl)) (@pe_one _ _ _ _ _ (@pe_not _ _ _ _ (@pe_callB _ _ _ _ _ _ _ _ _ (@isinst_k _ (K) (by rfl)) (by show _ = _; kernel_rfl) T.b_isinstance (@boot_b_isinstance) (@pa_c _ _ _ _ _ (@pw _ 0 _ _ (Or.inl (by kernel_rfl)) (by rfl) (by decide) (by decide)) (@pa_c _ _ _ _ _ (@pe_ty _ _ _ _ (by show _ = _; kernel_rfl) T.b_bool (@boot_ty_bool) (by decide) (by decide)) (@pa_nil _) rfl) rfl) (by decide) (by decide) (by rfl) (by rfl)))))) (by intro _; rfl)) (@pa_nil _) rfl) (by decide) (by decide) (by rfl) (by rfl)) (by intro _; rfl))) (@pss_one _ _ _ (@ps_ret _ _ _ _ (@pe_bl _ _ _ _))) (@pss_nil _)) (@pss_one _ _ _ (@ps_ret _ _ _ _ (@pe_and _ _ _ _ _ _ _ (@pe_cmpR _ _ _ _ _ _ _ _ (@op_gt _) (@pe_ix _ _ _ _ _ _ _ (@ixT_k _ (K) (by rfl)) (@pw _ 0 _ _ (Or.inl k_l_is_fraction_l_thing) (by rfl) (by decide) (by decide)) (@pe_int _ _ _ _) (fun _ _ => rfl)) (@pe_int _ _ _ _) (@nomark _ _ (by decide) (by decide))) (@pe_one _ _ _ _ _ (@pe_cmpR _ _ _ _ _ _ _ _ (@op_eqD _ hr.units) (@pe_call _ _ _ _ _ _ _ _ _ _ _ _ _ _ _ _ G_l_frac (hr.mono (by decide)) k_l_is_fraction_l_frac T.m_l_frac T.F_l_frac.kp T.B_l_frac .nil (@pass0 _) (@pa_c _ _ _ _ _ (@pe_ix _ _ _ _ _ _ _ (@ixT_k _ (K) (by rfl)) (@pw _ 0 _ _ (Or.inl k_l_is_fraction_l_thing) (by rfl) (by decide) (by decide)) (@pe_int _ _ _ _) (fun _ _ => rfl)) (@pa_c _ _ _ _ _ (@pe_ix _ _ _ _ _ _ _ (@ixT_k _ (K) (by rfl)) (@pw _ 0 _ _ (Or.inl k_l_is_fraction_l_thing) (by rfl) (by decide) (by decide)) (@pe_int _ _ _ _) (fun _ _ => rfl)) (@pa_nil _) rfl) rfl) (by decide) (by rfl) (by rfl)) (@pw _ 0 _ _ (Or.inl k_l_is_fraction_l_thing) (by rfl) (by decide) (by decide)) (@nomark _ _ (by decide) (by decide))))))))), ?_⟩
    refine ⟨_, rfl, _, _, _, _, rfl, hx.ty, kit_tuple d, _, rfl, ?_⟩
    have k0 := k H (Same.refl _)
    cases hx with
    | non => exact iteT (iteT k0)
    | bl b => exact iteT (iteT k0)
    | int i => exact iteT (iteT k0)
    | str y => exact iteT (iteT k0)
    | lst h ne r => exact iteT (iteT k0)
    | @tup a xs ds h r =>
      have hl := r.length
      refine iteF ⟨_, rfl, a, xs, rfl, .inr (SqT.of h), rfl, _, rfl, ?_⟩
      by_cases h2 : ds.length = 2
      · obtain ⟨d1, d2, rfl⟩ := tup2 (d := .tuple ds) (decide_eq_true h2) |> fun ⟨a, b, e⟩ => (⟨a, b, by injection e⟩ : Ex2 fun a b => ds = [a, b])
        have r0 := r
        cases r with
        | @cons v1 _ _ _ r1 r =>
        cases r with
        | @cons v2 _ _ _ r2 r =>
        cases r
        have l2 : (!decide (V.int (([v1, v2] : List V).length : Int) = V.int 2)) = false := rfl
        rw [l2]
        refine iteF ⟨_, rfl, a, rfl, ⟨_, SqT.of h⟩, all_tup (E := F) isNum h r0 (by show 2 ≤ 10000; decide) ?_ ?_⟩
        · intro x dx H' R hm g1 sm kk
          refine ⟨back1, _, rfl, _, _, _, _, rfl, g1.ty, kit_int dx, _, rfl, ?_⟩
          have kk0 := kk H' (Same.refl _)
          cases dx with
          | int i => exact iteT ⟨_, rfl, _, _, _, _, rfl, g1.ty, kit_bool (.int i), _, rfl, kk0⟩
          | bool b => exact iteT ⟨_, rfl, _, _, _, _, rfl, g1.ty, kit_bool (.bool b), _, rfl, kk0⟩
          | none => exact iteF kk0
          | str _ => exact iteF kk0
          | list _ => exact iteF kk0
          | tuple _ => exact iteF kk0
          | dict _ => exact iteF kk0
        · intro D H1 s1 hD1
          refine ⟨D, _, rfl, SqL.of hD1, _, rfl, ?_⟩
          rw [all_id]
          have ka := k H1 s1
          have e2 : [d1, d2].all isNum = (isNum d1 && isNum d2) := by simp
          rw [e2]
          cases hn : (isNum d1 && isNum d2) with
          | false =>
            rw [isFr_num hn] at ka
            exact iteT ka
          | true =>
            rw [Bool.and_eq_true] at hn
            cases r1 with
            | non => cases hn.1
            | bl b => cases hn.1
            | str y => cases hn.1
            | lst _ _ _ => cases hn.1
            | tup _ _ => cases hn.1
            | int n =>
            cases r2 with
            | non => cases hn.2
            | bl b => cases hn.2
            | str y => cases hn.2
            | lst _ _ _ => cases hn.2
            | tup _ _ => cases hn.2
            | int e =>
              have ha := s1 _ _ h
              obtain ⟨z1, z2⟩ := wt_pair wd
              refine iteF ⟨_, rfl, a, _, _, _, rfl, rfl, SqT.of ha, rfl, _, _, rfl, rfl, _, rfl, ite2 (fun c1 => ?_) (fun c1 => ?_)⟩
              · have h1 : 0 < e := of_decide_eq_true c1
                refine ⟨_, rfl, a, _, _, _, rfl, rfl, SqT.of ha, rfl, _, rfl, a, _, _, _, rfl, rfl, SqT.of ha, rfl, n, e, rfl, h1, z2.mono (by decide), fun p H2 n2 => ?_⟩
                have f := Fb.low z1 z2 (show e ≠ 0 by trivial)
                refine ⟨_, rfl, frD (KM.low n e), .tuple [.int n, .int e], ED, ED, 3, 3, 1, 1, isF n2.at', isF (p := (n, e)) (n2.sm _ _ ha), wt_fr f (by decide), .tuple (.cons (.int z1) (.cons (.int z2) .nil)), by decide, ?_⟩
                have kb := k H2 (s1.trans n2.sm)
                have e0 : isFr (.tuple [.int n, .int e]) = decide (Int.gcd n e = 1) := by
                  show (decide (1 ≤ e) && decide (Int.gcd n e = 1)) = _
                  rw [decide_eq_true (show 1 ≤ e by trivial), Bool.true_and]
                rw [e0, ← eqv_low (show 1 ≤ e by trivial)] at kb
                exact kb
              · have h1 : ¬ 1 ≤ e := fun z => c1 (decide_eq_true (by trivial))
                have e0 : isFr (.tuple [.int n, .int e]) = false := by
                  show (decide (1 ≤ e) && decide (Int.gcd n e = 1)) = _
                  rw [decide_eq_false h1, Bool.false_and]
                rw [e0] at ka
                exact ka
      · have hq : isTupN 2 (.tuple ds) = false := decide_eq_false h2
        rw [isFr_no hq] at k0
        have : (!decide (V.int (xs.length : Int) = V.int 2)) = true := ne_len (b := 2) (by trivial)
        rw [this]
        exact iteT k0
end
end K46
namespace K46
open PySem L2
set_option maxHeartbeats 4000000
section
variable {P : Program} {w : World} {K : PySem.W.Frag} {mg : Str → Option Value} {base : Heap}
theorem max_len {n : Int} (h : 1 < n) : (if n - 1 > 1 then n - 1 else 1) = n - 1 := by split <;> trivial
theorem all_snoc {H H' : Hp} {D : Addr} {ys zs : List V} {ds : List PyData} {v : V} {d : PyData} (c : Ch H D zs H') (hD : H D = some (.lst ys)) (i : IsAll ED H ys ds) (iv : IsD ED H v d) : IsAll ED H' (ys ++ [v]) (ds ++ [d]) :=
  (i.mono ⟨fun _ _ n _ => absurd trivial n, fun _ _ e => c.tup e hD⟩).append (.cons (iv.tupC c hD) .nil)
inductive spPlan_ (vs : List V) (H : Hp) (Q : VK) : Prop
  | mk (b : Addr) (t : Int) (h0 : vs = [.ref b, .int 6]) (h1 : Bx H b t) (h2 : 0 ≤ t) (h3 : t ≤ 800000) (h4 : ∀ v ls ss ts us ws qs t' H', SameE (Eb b) H H' → IsD ED H' v (planD ls ss ts us ws qs) → PlC ls ss ts us ws qs → Bx H' b t' → t ≤ t' → t' ≤ t + 700 → Q v H')
def spPlan : Sp := fun vs H Q _ => spPlan_  vs H Q
theorem ok_plan_by (T : Txt K mg) : FnOk P w K mg base CX0 3 T.f_l_plan_by T.d_l_plan_by ["_law_box_here", "_law_most_ties"] spPlan := by
  have G_l_take := ok_take (P := P) (w := w) (base := base) T
  have G_l_names_by := ok_names_by (P := P) (w := w) (base := base) T
  have G_l_any_much := ok_any_much (P := P) (w := w) (base := base) T
  have G_l_any_gain := ok_any_gain (P := P) (w := w) (base := base) T
  have G_l_amount_by := ok_amount_by (P := P) (w := w) (base := base) T
  have G_l_one_of := ok_one_of (P := P) (w := w) (base := base) T
  have G_l_twice := ok_twice (P := P) (w := w) (base := base) T
  refine T.F_l_plan_by.ok sc_l_plan_by (fun vs H Q E h => ?_) (fun cdv A outer s H vs Q E hr h => ?_)
  · obtain ⟨b, t, rfl, _⟩ := h
    rfl
  · obtain ⟨b, t, rfl, B, ht0, ht1, k⟩ := h
    refine ⟨_, (@pss_cons _ _ _ _ _ (@ps_set _ _ (2) _ _ _ _ sc_l_plan_by.nd rfl (Or.inl k_l_plan_by_l_great) (@pe_cmpR _ _ _ _ _ _ _ _ (@op_eq _) (@pe_call _ _ _ _ _ _ _ _ _ _ _ _ _ _ _ _ G_l_take (hr.mono (by decide)) k_l_plan_by_l_take T.m_l_take T.F_l_take.kp T.B_l_take .nil (@pass0 _) (@pa_c _ _ _ _ _ (@pw _ 0 _ _ (Or.inr (Or.inl k_l_plan_by_l_box_here)) (by rfl) (by decide) (by decide)) (@pa_c _ _ _ _ _ (@pe_int _ _ _ _) (@pa_nil _) rfl) rfl) (by decide) (by rfl) (by rfl)) (@pe_int _ _ _ _) (@nomark _ _ (by decide) (by decide))) (by rfl) (by first | exact .inl rfl | exact .inr rfl | assumption)) (@pss_cons _ _ _ _ _ (@ps_set _ _ (3) _ _ _ _ sc_l_plan_by.nd rfl (Or.inr k_l_plan_by_l_places) (@pe_call _ _ _ _ _ _ _ _ _ _ _ _ _ _ _ _ G_l_names_by (hr.mono (by decide)) k_l_plan_by_l_names_by T.m_l_names_by T.F_l_names_by.kp T.B_l_names_by .nil (@pass0 _) (@pa_c _ _ _ _ _ (@pw _ 0 _ _ (Or.inr (Or.inl k_l_plan_by_l_box_here)) (by rfl) (by decide) (by decide)) (@pa_c _ _ _ _ _ (@pe_ifExp _ _ _ _ _ _ _ _ (@pt_val _ _ _ (@pw _ 2 _ _ (Or.inl k_l_plan_by_l_great) (by rfl) (by decide) (by decide)) (by intro _; rfl)) (@pe_op _ _ _ _ _ _ _ _ (@op_add _) (@pe_int _ _ _ _) (@pe_call _ _ _ _ _ _ _ _ _ _ _ _ _ _ _ _ G_l_take (hr.mono (by decide)) k_l_plan_by_l_take T.m_l_take T.F_l_take.kp T.B_l_take .nil (@pass0 _) (@pa_c _ _ _ _ _ (@pw _ 0 _ _ (Or.inr (Or.inl k_l_plan_by_l_box_here)) (by rfl) (by decide) (by decide)) (@pa_c _ _ _ _ _ (@pe_int _ _ _ _) (@pa_nil _) rfl) rfl) (by decide) (by rfl) (by rfl))) (@pe_op _ _ _ _ _ _ _ _ (@op_add _) (@pe_int _ _ _ _) (@pe_call _ _ _ _ _ _ _ _ _ _ _ _ _ _ _ _ G_l_take (hr.mono (by decide)) k_l_plan_by_l_take T.m_l_take T.F_l_take.kp T.B_l_take .nil (@pass0 _) (@pa_c _ _ _ _ _ (@pw _ 0 _ _ (Or.inr (Or.inl k_l_plan_by_l_box_here)) (by rfl) (by decide) (by decide)) (@pa_c _ _ _ _ _ (@pe_int _ _ _ _) (@pa_nil _) rfl) rfl) (by decide) (by rfl) (by rfl)))) (@pa_nil _) rfl) rfl) (by decide) (by rfl) (by rfl)) (by rfl) (by first | exact .inl rfl | exact .inr rfl | assumption)) (@pss_cons _ _ _ _ _ (@ps_set _ _ (4) _ _ _ _ sc_l_plan_by.nd rfl (Or.inr k_l_plan_by_l_stuffs) (@pe_call _ _ _ _ _ _ _ _ _ _ _ _ _ _ _ _ G_l_names_by (hr.mono (by decide)) k_l_plan_by_l_names_by T.m_l_names_by T.F_l_names_by.kp T.B_l_names_by .nil (@pass0 _) (@pa_c _ _ _ _ _ (@pw _ 0 _ _ (Or.inr (Or.inl k_l_plan_by_l_box_here)) (by rfl) (by decide) (by decide)) (@pa_c _ _ _ _ _ (@pe_ifExp _ _ _ _ _ _ _ _ (@pt_val _ _ _ (@pw _ 2 _ _ (Or.inl k_l_plan_by_l_great) (by rfl) (by decide) (by decide)) (by intro _; rfl)) (@pe_op _ _ _ _ _ _ _ _ (@op_add _) (@pe_int _ _ _ _) (@pe_call _ _ _ _ _ _ _ _ _ _ _ _ _ _ _ _ G_l_take (hr.mono (by decide)) k_l_plan_by_l_take T.m_l_take T.F_l_take.kp T.B_l_take .nil (@pass0 _) (@pa_c _ _ _ _ _ (@pw _ 0 _ _ (Or.inr (Or.inl k_l_plan_by_l_box_here)) (by rfl) (by decide) (by decide)) (@pa_c _ _ _ _ _ (@pe_int _ _ _ _) (@pa_nil _) rfl) rfl) (by decide) (by rfl) (by rfl))) (@pe_op _ _ _ _ _ _ _ _ (@op_add _) (@pe_int _ _ _ _) (@pe_call _ _ _ _ _ _ _ _ _ _ _ _ _ _ _ _ G_l_take (hr.mono (by decide)) k_l_plan_by_l_take T.m_l_take T.F_l_take.kp T.B_l_take .nil (@pass0 _) (@pa_c _ _ _ _ _ (@pw _ 0 _ _ (Or.inr (Or.inl k_l_plan_by_l_box_here)) (by rfl) (by decide) (by decide)) (@pa_c _ _ _ _ _ (@pe_int _ _ _ _) (@pa_nil _) rfl) rfl) (by decide) (by rfl) (by rfl)))) (@pa_nil _) rfl) rfl) (by decide) (by rfl) (by rfl)) (by rfl) (by first | exact .inl rfl | exact .inr rfl | assumption)) (@pss_cons _ _ _ _ _ (@ps_if _ _ _ _ _ _ _ _ (@pt_cmpR _ _ _ _ _ _ _ _ (@op_eq _) (@pe_call _ _ _ _ _ _ _ _ _ _ _ _ _ _ _ _ G_l_take (hr.mono (by decide)) k_l_plan_by_l_take T.m_l_take T.F_l_take.kp T.B_l_take .nil (@pass0 _) (@pa_c _ _ _ _ _ (@pw _ 0 _ _ (Or.inr (Or.inl k_l_plan_by_l_box_here)) (by rfl) (by decide) (by decide)) (@pa_c _ _ _ _ _ (@pe_int _ _ _ _) (@pa_nil _) rfl) rfl) (by decide) (by rfl) (by rfl)) (@pe_int _ _ _ _) (@nomark _ _ (by decide) (by decide))) (@pss_cons _ _ _ _ _ (@ps_set _ _ (3) _ _ _ _ sc_l_plan_by.nd rfl (Or.inr k_l_plan_by_l_places) (@pe_callTy _ _ _ _ _ _ _ _ _ (@call_tuple_ofA _ (K) (by rfl)) k_l_plan_by_tuple T.b_tuple (@boot_ty_tuple) (@pa_c _ _ _ _ _ (@pe_comp _ _ _ _ _ _ _ (["_law_k"]) (1) ([]) _ _ _ _ rfl (by kernel_rfl) (@pi_range1 _ _ _ _ _ _ k_l_plan_by_range T.b_range (@pa_c _ _ _ _ _ (@pe_callB _ _ _ _ _ _ _ _ _ (@len_k _ (K) (by rfl)) k_l_plan_by_len T.b_len (@boot_b_len) (@pa_c _ _ _ _ _ (@pw _ 3 _ _ (Or.inr (Or.inl k_l_plan_by_l_places)) (by rfl) (by decide) (by decide)) (@pa_nil _) rfl) (by decide) (by decide) (by rfl) (by rfl)) (@pa_nil _) rfl) (by rfl)) (fun _ _ _ _ _ _ => (@pg_name _ _ (0) _ (@nodupS _ (by kernel_rfl)) rfl (Or.inl (by kernel_rfl)) (by first | exact .inl rfl | exact .inr rfl | assumption))) (fun _ _ _ _ _ _ => @pifs_nil _) (fun _ _ _ _ _ _ => (@pe_op _ _ _ _ _ _ _ _ (@op_mulS _) (@pe_str _ _ _ _) (@pe_op _ _ _ _ _ _ _ _ (@op_add _) (@pw _ 0 _ _ (Or.inl (by kernel_rfl)) (by rfl) (by decide) (by decide)) (@pe_int _ _ _ _)))) (by intro _; rfl)) (@pa_nil _) rfl) (by decide) (by decide) (by rfl) (by rfl)) (by rfl) (by first | exact .inl rfl | exact .inr rfl | assumption)) (@pss_one _ _ _ (@ps_set _ _ (4) _ _ _ _ sc_l_plan_by.nd rfl (Or.inr k_l_plan_by_l_stuffs) (@pe_callTy _ _ _ _ _ _ _ _ _ (@call_tuple_ofA _ (K) (by rfl)) k_l_plan_by_tuple T.b_tuple (@boot_ty_tuple) (@pa_c _ _ _ _ _ (@pe_comp _ _ _ _ _ _ _ (["_law_k"]) (1) ([]) _ _ _ _ rfl (by kernel_rfl) (@pi_range1 _ _ _ _ _ _ k_l_plan_by_range T.b_range (@pa_c _ _ _ _ _ (@pe_callB _ _ _ _ _ _ _ _ _ (@len_k _ (K) (by rfl)) k_l_plan_by_len T.b_len (@boot_b_len) (@pa_c _ _ _ _ _ (@pw _ 4 _ _ (Or.inr (Or.inl k_l_plan_by_l_stuffs)) (by rfl) (by decide) (by decide)) (@pa_nil _) rfl) (by decide) (by decide) (by rfl) (by rfl)) (@pa_nil _) rfl) (by rfl)) (fun _ _ _ _ _ _ => (@pg_name _ _ (0) _ (@nodupS _ (by kernel_rfl)) rfl (Or.inl (by kernel_rfl)) (by first | exact .inl rfl | exact .inr rfl | assumption))) (fun _ _ _ _ _ _ => @pifs_nil _) (fun _ _ _ _ _ _ => (@pe_op _ _ _ _ _ _ _ _ (@op_mulS _) (@pe_str _ _ _ _) (@pe_op _ _ _ _ _ _ _ _ (@op_add _) (@pw _ 0 _ _ (Or.inl (by kernel_rfl)) (by rfl) (by decide) (by decide)) (@pe_int _ _ _ _)))) (by intro _; rfl)) (@pa_nil _) rfl) (by decide) (by decide) (by rfl) (by rfl)) (by rfl) (by first | exact .inl rfl | exact .inr rfl | assumption)))) (@pss_nil _)) (@pss_cons _ _ _ _ _ (@ps_set _ _ (5) _ _ _ _ sc_l_plan_by.nd rfl (Or.inl k_l_plan_by_l_many) (@pe_lstA _ _ _ _ (@pa_c _ _ _ _ _ (@pe_call _ _ _ _ _ _ _ _ _ _ _ _ _ _ _ _ G_l_take (hr.mono (by decide)) k_l_plan_by_l_take T.m_l_take T.F_l_take.kp T.B_l_take .nil (@pass0 _) (@pa_c _ _ _ _ _ (@pw _ 0 _ _ (Or.inr (Or.inl k_l_plan_by_l_box_here)) (by rfl) (by decide) (by decide)) (@pa_c _ _ _ _ _ (@pe_op _ _ _ _ _ _ _ _ (@op_add _) (@pw _ 1 _ _ (Or.inl k_l_plan_by_l_most_ties) (by rfl) (by decide) (by decide)) (@pe_int _ _ _ _)) (@pa_nil _) rfl) rfl) (by decide) (by rfl) (by rfl)) (@pa_c _ _ _ _ _ (@pe_call _ _ _ _ _ _ _ _ _ _ _ _ _ _ _ _ G_l_take (hr.mono (by decide)) k_l_plan_by_l_take T.m_l_take T.F_l_take.kp T.B_l_take .nil (@pass0 _) (@pa_c _ _ _ _ _ (@pw _ 0 _ _ (Or.inr (Or.inl k_l_plan_by_l_box_here)) (by rfl) (by decide) (by decide)) (@pa_c _ _ _ _ _ (@pe_int _ _ _ _) (@pa_nil _) rfl) rfl) (by decide) (by rfl) (by rfl)) (@pa_c _ _ _ _ _ (@pe_op _ _ _ _ _ _ _ _ (@op_add _) (@pe_int _ _ _ _) (@pe_call _ _ _ _ _ _ _ _ _ _ _ _ _ _ _ _ G_l_take (hr.mono (by decide)) k_l_plan_by_l_take T.m_l_take T.F_l_take.kp T.B_l_take .nil (@pass0 _) (@pa_c _ _ _ _ _ (@pw _ 0 _ _ (Or.inr (Or.inl k_l_plan_by_l_box_here)) (by rfl) (by decide) (by decide)) (@pa_c _ _ _ _ _ (@pe_int _ _ _ _) (@pa_nil _) rfl) rfl) (by decide) (by rfl) (by rfl))) (@pa_c _ _ _ _ _ (@pe_call _ _ _ _ _ _ _ _ _ _ _ _ _ _ _ _ G_l_take (hr.mono (by decide)) k_l_plan_by_l_take T.m_l_take T.F_l_take.kp T.B_l_take .nil (@pass0 _) (@pa_c _ _ _ _ _ (@pw _ 0 _ _ (Or.inr (Or.inl k_l_plan_by_l_box_here)) (by rfl) (by decide) (by decide)) (@pa_c _ _ _ _ _ (@pe_int _ _ _ _) (@pa_nil _) rfl) rfl) (by decide) (by rfl) (by rfl)) (@pa_nil _) rfl) rfl) rfl) rfl)) (by rfl) (by first | exact .inl rfl | exact .inr rfl | assumption)) (@pss_cons _ _ _ _ _ (@ps_if _ _ _ _ _ _ _ _ (@pt_val _ _ _ (@pw _ 2 _ _ (Or.inl k_l_plan_by_l_great) (by rfl) (by decide) (by decide)) (by intro _; rfl)) (@pss_one _ _ _ (@ps_set _ _ (5) _ _ _ _ sc_l_plan_by.nd rfl (Or.inl k_l_plan_by_l_many) (@pe_lstA _ _ _ _ (@pa_c _ _ _ _ _ (@pe_op _ _ _ _ _ _ _ _ (@op_add _) (@pe_ix _ _ _ _ _ _ _ (@ixL_k _ (K) (by rfl)) (@pw _ 5 _ _ (Or.inl k_l_plan_by_l_many) (by rfl) (by decide) (by decide)) (@pe_int _ _ _ _) (fun _ _ => rfl)) (@pe_call _ _ _ _ _ _ _ _ _ _ _ _ _ _ _ _ G_l_take (hr.mono (by decide)) k_l_plan_by_l_take T.m_l_take T.F_l_take.kp T.B_l_take .nil (@pass0 _) (@pa_c _ _ _ _ _ (@pw _ 0 _ _ (Or.inr (Or.inl k_l_plan_by_l_box_here)) (by rfl) (by decide) (by decide)) (@pa_c _ _ _ _ _ (@pe_op _ _ _ _ _ _ _ _ (@op_sub _) (@pe_int _ _ _ _) (@pw _ 1 _ _ (Or.inl k_l_plan_by_l_most_ties) (by rfl) (by decide) (by decide))) (@pa_nil _) rfl) rfl) (by decide) (by rfl) (by rfl))) (@pa_c _ _ _ _ _ (@pe_op _ _ _ _ _ _ _ _ (@op_add _) (@pe_op _ _ _ _ _ _ _ _ (@op_add _) (@pe_ix _ _ _ _ _ _ _ (@ixL_k _ (K) (by rfl)) (@pw _ 5 _ _ (Or.inl k_l_plan_by_l_many) (by rfl) (by decide) (by decide)) (@pe_int _ _ _ _) (fun _ _ => rfl)) (@pe_int _ _ _ _)) (@pe_call _ _ _ _ _ _ _ _ _ _ _ _ _ _ _ _ G_l_take (hr.mono (by decide)) k_l_plan_by_l_take T.m_l_take T.F_l_take.kp T.B_l_take .nil (@pass0 _) (@pa_c _ _ _ _ _ (@pw _ 0 _ _ (Or.inr (Or.inl k_l_plan_by_l_box_here)) (by rfl) (by decide) (by decide)) (@pa_c _ _ _ _ _ (@pe_int _ _ _ _) (@pa_nil _) rfl) rfl) (by decide) (by rfl) (by rfl))) (@pa_c _ _ _ _ _ (@pe_op _ _ _ _ _ _ _ _ (@op_add _) (@pe_ix _ _ _ _ _ _ _ (@ixL_k _ (K) (by rfl)) (@pw _ 5 _ _ (Or.inl k_l_plan_by_l_many) (by rfl) (by decide) (by decide)) (@pe_int _ _ _ _) (fun _ _ => rfl)) (@pe_int _ _ _ _)) (@pa_c _ _ _ _ _ (@pe_op _ _ _ _ _ _ _ _ (@op_add _) (@pe_ix _ _ _ _ _ _ _ (@ixL_k _ (K) (by rfl)) (@pw _ 5 _ _ (Or.inl k_l_plan_by_l_many) (by rfl) (by decide) (by decide)) (@pe_int _ _ _ _) (fun _ _ => rfl)) (@pe_int _ _ _ _)) (@pa_nil _) rfl) rfl) rfl) rfl)) (by rfl) (by first | exact .inl rfl | exact .inr rfl | assumption))) (@pss_nil _)) (@pss_cons _ _ _ _ _ (@ps_par _ _ (6) (7) _ _ _ _ _ _ _ _ _ _ _ rfl sc_l_plan_by.nd rfl rfl (by decide) k_l_plan_by_l_ties k_l_plan_by_l_turners (@pa_c _ _ _ _ _ (@pe_lstA _ _ _ _ (@pa_nil _)) (@pa_c _ _ _ _ _ (@pe_lstA _ _ _ _ (@pa_nil _)) (@pa_nil _) rfl) rfl) (by kernel_rfl) (by rfl)) (@pss_cons _ _ _ _ _ (@ps_for _ _ _ _ _ _ _ _ PassesOwn.never rfl (@pi_range1 _ _ _ _ _ _ k_l_plan_by_range T.b_range (@pa_c _ _ _ _ _ (@pe_op _ _ _ _ _ _ _ _ (@op_mul _) (@pe_ix _ _ _ _ _ _ _ (@ixL_k _ (K) (by rfl)) (@pw _ 5 _ _ (Or.inl k_l_plan_by_l_many) (by rfl) (by decide) (by decide)) (@pe_int _ _ _ _) (fun _ _ => rfl)) (@pe_callTy _ _ _ _ _ _ _ _ _ (@call_int1 _) k_l_plan_by_int T.b_int (@boot_ty_int) (@pa_c _ _ _ _ _ (@pe_cmpR _ _ _ _ _ _ _ _ (@op_gt _) (@pe_callB _ _ _ _ _ _ _ _ _ (@len_k _ (K) (by rfl)) k_l_plan_by_len T.b_len (@boot_b_len) (@pa_c _ _ _ _ _ (@pw _ 3 _ _ (Or.inr (Or.inl k_l_plan_by_l_places)) (by rfl) (by decide) (by decide)) (@pa_nil _) rfl) (by decide) (by decide) (by rfl) (by rfl)) (@pe_int _ _ _ _) (@nomark _ _ (by decide) (by decide))) (@pa_nil _) rfl) (by decide) (by decide) (by rfl) (by rfl))) (@pa_nil _) rfl) (by rfl)) (@pg_name _ _ (8) _ sc_l_plan_by.nd rfl (Or.inl k_l_plan_by_l_turn) (by first | exact .inl rfl | exact .inr rfl | assumption)) (@pss_cons _ _ _ _ _ (@ps_set _ _ (9) _ _ _ _ sc_l_plan_by.nd rfl (Or.inl k_l_plan_by_l_at) (@pe_call _ _ _ _ _ _ _ _ _ _ _ _ _ _ _ _ G_l_take (hr.mono (by decide)) k_l_plan_by_l_take T.m_l_take T.F_l_take.kp T.B_l_take .nil (@pass0 _) (@pa_c _ _ _ _ _ (@pw _ 0 _ _ (Or.inr (Or.inl k_l_plan_by_l_box_here)) (by rfl) (by decide) (by decide)) (@pa_c _ _ _ _ _ (@pe_callB _ _ _ _ _ _ _ _ _ (@len_k _ (K) (by rfl)) k_l_plan_by_len T.b_len (@boot_b_len) (@pa_c _ _ _ _ _ (@pw _ 3 _ _ (Or.inr (Or.inl k_l_plan_by_l_places)) (by rfl) (by decide) (by decide)) (@pa_nil _) rfl) (by decide) (by decide) (by rfl) (by rfl)) (@pa_nil _) rfl) rfl) (by decide) (by rfl) (by rfl)) (by rfl) (by first | exact .inl rfl | exact .inr rfl | assumption)) (@pss_cons _ _ _ _ _ (@ps_set _ _ (10) _ _ _ _ sc_l_plan_by.nd rfl (Or.inl k_l_plan_by_l_end) (@pe_ix _ _ _ _ _ _ _ (@ixT_k _ (K) (by rfl)) (@pw _ 3 _ _ (Or.inr (Or.inl k_l_plan_by_l_places)) (by rfl) (by decide) (by decide)) (@pe_op _ _ _ _ _ _ _ _ (@op_mod _) (@pe_op _ _ _ _ _ _ _ _ (@op_add _) (@pe_op _ _ _ _ _ _ _ _ (@op_add _) (@pw _ 9 _ _ (Or.inl k_l_plan_by_l_at) (by rfl) (by decide) (by decide)) (@pe_int _ _ _ _)) (@pe_call _ _ _ _ _ _ _ _ _ _ _ _ _ _ _ _ G_l_take (hr.mono (by decide)) k_l_plan_by_l_take T.m_l_take T.F_l_take.kp T.B_l_take .nil (@pass0 _) (@pa_c _ _ _ _ _ (@pw _ 0 _ _ (Or.inr (Or.inl k_l_plan_by_l_box_here)) (by rfl) (by decide) (by decide)) (@pa_c _ _ _ _ _ (@pe_callB _ _ _ _ _ _ _ _ _ (@call_max2 _ rfl) k_l_plan_by_max T.b_max (@boot_b_max) (@pa_c _ _ _ _ _ (@pe_int _ _ _ _) (@pa_c _ _ _ _ _ (@pe_op _ _ _ _ _ _ _ _ (@op_sub _) (@pe_callB _ _ _ _ _ _ _ _ _ (@len_k _ (K) (by rfl)) k_l_plan_by_len T.b_len (@boot_b_len) (@pa_c _ _ _ _ _ (@pw _ 3 _ _ (Or.inr (Or.inl k_l_plan_by_l_places)) (by rfl) (by decide) (by decide)) (@pa_nil _) rfl) (by decide) (by decide) (by rfl) (by rfl)) (@pe_int _ _ _ _)) (@pa_nil _) rfl) rfl) (by decide) (by decide) (by rfl) (by rfl)) (@pa_nil _) rfl) rfl) (by decide) (by rfl) (by rfl))) (@pe_callB _ _ _ _ _ _ _ _ _ (@len_k _ (K) (by rfl)) k_l_plan_by_len T.b_len (@boot_b_len) (@pa_c _ _ _ _ _ (@pw _ 3 _ _ (Or.inr (Or.inl k_l_plan_by_l_places)) (by rfl) (by decide) (by decide)) (@pa_nil _) rfl) (by decide) (by decide) (by rfl) (by rfl))) (fun _ _ => rfl)) (by rfl) (by first | exact .inl rfl | exact .inr rfl | assumption)) (@pss_one _ _ _ (@ps_expr _ _ _ _ (@pe_bm_k _ (K) _ _ _ _ _ _ _ _ _ _ _ PySem.F.plainAttrs_list PySem.F.slot_list_append PySem.F.type_list_append (@mt_appendA _) (@pw _ 6 _ _ (Or.inl k_l_plan_by_l_ties) (by rfl) (by decide) (by decide)) (@pa_c _ _ _ _ _ (@pe_tupA _ _ _ _ _ (@pa_c _ _ _ _ _ (@pe_ix _ _ _ _ _ _ _ (@ixT_k _ (K) (by rfl)) (@pw _ 3 _ _ (Or.inr (Or.inl k_l_plan_by_l_places)) (by rfl) (by decide) (by decide)) (@pw _ 9 _ _ (Or.inl k_l_plan_by_l_at) (by rfl) (by decide) (by decide)) (fun _ _ => rfl)) (@pa_c _ _ _ _ _ (@pw _ 10 _ _ (Or.inl k_l_plan_by_l_end) (by rfl) (by decide) (by decide)) (@pa_c _ _ _ _ _ (@pe_call _ _ _ _ _ _ _ _ _ _ _ _ _ _ _ _ G_l_any_much (hr.mono (by decide)) k_l_plan_by_l_any_much T.m_l_any_much T.F_l_any_much.kp T.B_l_any_much .nil (@pass0 _) (@pa_c _ _ _ _ _ (@pw _ 0 _ _ (Or.inr (Or.inl k_l_plan_by_l_box_here)) (by rfl) (by decide) (by decide)) (@pa_nil _) rfl) (by decide) (by rfl) (by rfl)) (@pa_c _ _ _ _ _ (@pe_call _ _ _ _ _ _ _ _ _ _ _ _ _ _ _ _ G_l_any_gain (hr.mono (by decide)) k_l_plan_by_l_any_gain T.m_l_any_gain T.F_l_any_gain.kp T.B_l_any_gain .nil (@pass0 _) (@pa_c _ _ _ _ _ (@pw _ 0 _ _ (Or.inr (Or.inl k_l_plan_by_l_box_here)) (by rfl) (by decide) (by decide)) (@pa_nil _) rfl) (by decide) (by rfl) (by rfl)) (@pa_nil _) rfl) rfl) rfl) rfl)) (@pa_nil _) rfl) (by rfl) (by rfl) (by rfl) (by rfl) (by rfl) (by rfl)) (by rfl))))) (by intro _; rfl)) (@pss_cons _ _ _ _ _ (@ps_for _ _ _ _ _ _ _ _ PassesOwn.never rfl (@pi_range1 _ _ _ _ _ _ k_l_plan_by_range T.b_range (@pa_c _ _ _ _ _ (@pe_op _ _ _ _ _ _ _ _ (@op_mul _) (@pe_ix _ _ _ _ _ _ _ (@ixL_k _ (K) (by rfl)) (@pw _ 5 _ _ (Or.inl k_l_plan_by_l_many) (by rfl) (by decide) (by decide)) (@pe_int _ _ _ _) (fun _ _ => rfl)) (@pe_callTy _ _ _ _ _ _ _ _ _ (@call_int1 _) k_l_plan_by_int T.b_int (@boot_ty_int) (@pa_c _ _ _ _ _ (@pe_cmpR _ _ _ _ _ _ _ _ (@op_gt _) (@pe_callB _ _ _ _ _ _ _ _ _ (@len_k _ (K) (by rfl)) k_l_plan_by_len T.b_len (@boot_b_len) (@pa_c _ _ _ _ _ (@pw _ 4 _ _ (Or.inr (Or.inl k_l_plan_by_l_stuffs)) (by rfl) (by decide) (by decide)) (@pa_nil _) rfl) (by decide) (by decide) (by rfl) (by rfl)) (@pe_int _ _ _ _) (@nomark _ _ (by decide) (by decide))) (@pa_nil _) rfl) (by decide) (by decide) (by rfl) (by rfl))) (@pa_nil _) rfl) (by rfl)) (@pg_name _ _ (8) _ sc_l_plan_by.nd rfl (Or.inl k_l_plan_by_l_turn) (by first | exact .inl rfl | exact .inr rfl | assumption)) (@pss_cons _ _ _ _ _ (@ps_par _ _ (9) (11) _ _ _ _ _ _ _ _ _ _ _ rfl sc_l_plan_by.nd rfl rfl (by decide) k_l_plan_by_l_at k_l_plan_by_l_place (@pa_c _ _ _ _ _ (@pe_call _ _ _ _ _ _ _ _ _ _ _ _ _ _ _ _ G_l_take (hr.mono (by decide)) k_l_plan_by_l_take T.m_l_take T.F_l_take.kp T.B_l_take .nil (@pass0 _) (@pa_c _ _ _ _ _ (@pw _ 0 _ _ (Or.inr (Or.inl k_l_plan_by_l_box_here)) (by rfl) (by decide) (by decide)) (@pa_c _ _ _ _ _ (@pe_callB _ _ _ _ _ _ _ _ _ (@len_k _ (K) (by rfl)) k_l_plan_by_len T.b_len (@boot_b_len) (@pa_c _ _ _ _ _ (@pw _ 4 _ _ (Or.inr (Or.inl k_l_plan_by_l_stuffs)) (by rfl) (by decide) (by decide)) (@pa_nil _) rfl) (by decide) (by decide) (by rfl) (by rfl)) (@pa_nil _) rfl) rfl) (by decide) (by rfl) (by rfl)) (@pa_c _ _ _ _ _ (@pe_ix _ _ _ _ _ _ _ (@ixT_k _ (K) (by rfl)) (@pw _ 3 _ _ (Or.inr (Or.inl k_l_plan_by_l_places)) (by rfl) (by decide) (by decide)) (@pe_call _ _ _ _ _ _ _ _ _ _ _ _ _ _ _ _ G_l_take (hr.mono (by decide)) k_l_plan_by_l_take T.m_l_take T.F_l_take.kp T.B_l_take .nil (@pass0 _) (@pa_c _ _ _ _ _ (@pw _ 0 _ _ (Or.inr (Or.inl k_l_plan_by_l_box_here)) (by rfl) (by decide) (by decide)) (@pa_c _ _ _ _ _ (@pe_callB _ _ _ _ _ _ _ _ _ (@len_k _ (K) (by rfl)) k_l_plan_by_len T.b_len (@boot_b_len) (@pa_c _ _ _ _ _ (@pw _ 3 _ _ (Or.inr (Or.inl k_l_plan_by_l_places)) (by rfl) (by decide) (by decide)) (@pa_nil _) rfl) (by decide) (by decide) (by rfl) (by rfl)) (@pa_nil _) rfl) rfl) (by decide) (by rfl) (by rfl)) (fun _ _ => rfl)) (@pa_nil _) rfl) rfl) (by kernel_rfl) (by rfl)) (@pss_cons _ _ _ _ _ (@ps_set _ _ (12) _ _ _ _ sc_l_plan_by.nd rfl (Or.inl k_l_plan_by_l_other) (@pe_ix _ _ _ _ _ _ _ (@ixT_k _ (K) (by rfl)) (@pw _ 4 _ _ (Or.inr (Or.inl k_l_plan_by_l_stuffs)) (by rfl) (by decide) (by decide)) (@pe_op _ _ _ _ _ _ _ _ (@op_mod _) (@pe_op _ _ _ _ _ _ _ _ (@op_add _) (@pe_op _ _ _ _ _ _ _ _ (@op_add _) (@pw _ 9 _ _ (Or.inl k_l_plan_by_l_at) (by rfl) (by decide) (by decide)) (@pe_int _ _ _ _)) (@pe_call _ _ _ _ _ _ _ _ _ _ _ _ _ _ _ _ G_l_take (hr.mono (by decide)) k_l_plan_by_l_take T.m_l_take T.F_l_take.kp T.B_l_take .nil (@pass0 _) (@pa_c _ _ _ _ _ (@pw _ 0 _ _ (Or.inr (Or.inl k_l_plan_by_l_box_here)) (by rfl) (by decide) (by decide)) (@pa_c _ _ _ _ _ (@pe_callB _ _ _ _ _ _ _ _ _ (@call_max2 _ rfl) k_l_plan_by_max T.b_max (@boot_b_max) (@pa_c _ _ _ _ _ (@pe_int _ _ _ _) (@pa_c _ _ _ _ _ (@pe_op _ _ _ _ _ _ _ _ (@op_sub _) (@pe_callB _ _ _ _ _ _ _ _ _ (@len_k _ (K) (by rfl)) k_l_plan_by_len T.b_len (@boot_b_len) (@pa_c _ _ _ _ _ (@pw _ 4 _ _ (Or.inr (Or.inl k_l_plan_by_l_stuffs)) (by rfl) (by decide) (by decide)) (@pa_nil _) rfl) (by decide) (by decide) (by rfl) (by rfl)) (@pe_int _ _ _ _)) (@pa_nil _) rfl) rfl) (by decide) (by decide) (by rfl) (by rfl)) (@pa_nil _) rfl) rfl) (by decide) (by rfl) (by rfl))) (@pe_callB _ _ _ _ _ _ _ _ _ (@len_k _ (K) (by rfl)) k_l_plan_by_len T.b_len (@boot_b_len) (@pa_c _ _ _ _ _ (@pw _ 4 _ _ (Or.inr (Or.inl k_l_plan_by_l_stuffs)) (by rfl) (by decide) (by decide)) (@pa_nil _) rfl) (by decide) (by decide) (by rfl) (by rfl))) (fun _ _ => rfl)) (by rfl) (by first | exact .inl rfl | exact .inr rfl | assumption)) (@pss_one _ _ _ (@ps_expr _ _ _ _ (@pe_bm_k _ (K) _ _ _ _ _ _ _ _ _ _ _ PySem.F.plainAttrs_list PySem.F.slot_list_append PySem.F.type_list_append (@mt_appendA _) (@pw _ 7 _ _ (Or.inl k_l_plan_by_l_turners) (by rfl) (by decide) (by decide)) (@pa_c _ _ _ _ _ (@pe_tupA _ _ _ _ _ (@pa_c _ _ _ _ _ (@pw _ 11 _ _ (Or.inl k_l_plan_by_l_place) (by rfl) (by decide) (by decide)) (@pa_c _ _ _ _ _ (@pe_ix _ _ _ _ _ _ _ (@ixT_k _ (K) (by rfl)) (@pw _ 4 _ _ (Or.inr (Or.inl k_l_plan_by_l_stuffs)) (by rfl) (by decide) (by decide)) (@pw _ 9 _ _ (Or.inl k_l_plan_by_l_at) (by rfl) (by decide) (by decide)) (fun _ _ => rfl)) (@pa_c _ _ _ _ _ (@pw _ 12 _ _ (Or.inl k_l_plan_by_l_other) (by rfl) (by decide) (by decide)) (@pa_c _ _ _ _ _ (@pe_call _ _ _ _ _ _ _ _ _ _ _ _ _ _ _ _ G_l_any_much (hr.mono (by decide)) k_l_plan_by_l_any_much T.m_l_any_much T.F_l_any_much.kp T.B_l_any_much .nil (@pass0 _) (@pa_c _ _ _ _ _ (@pw _ 0 _ _ (Or.inr (Or.inl k_l_plan_by_l_box_here)) (by rfl) (by decide) (by decide)) (@pa_nil _) rfl) (by decide) (by rfl) (by rfl)) (@pa_c _ _ _ _ _ (@pe_call _ _ _ _ _ _ _ _ _ _ _ _ _ _ _ _ G_l_any_gain (hr.mono (by decide)) k_l_plan_by_l_any_gain T.m_l_any_gain T.F_l_any_gain.kp T.B_l_any_gain .nil (@pass0 _) (@pa_c _ _ _ _ _ (@pw _ 0 _ _ (Or.inr (Or.inl k_l_plan_by_l_box_here)) (by rfl) (by decide) (by decide)) (@pa_nil _) rfl) (by decide) (by rfl) (by rfl)) (@pa_nil _) rfl) rfl) rfl) rfl) rfl)) (@pa_nil _) rfl) (by rfl) (by rfl) (by rfl) (by rfl) (by rfl) (by rfl)) (by rfl))))) (by intro _; rfl)) (@pss_cons _ _ _ _ _ (@ps_setComp _ _ _ _ _ _ _ (["_law_turn", "_law_box_here", "_law_places", "_law_stuffs"]) (1) ([0, 3, 4]) _ _ _ _ (13) _ _ _ sc_l_plan_by.nd rfl k_l_plan_by_l_wells (by kernel_rfl) rfl (by kernel_rfl) (@pi_range1 _ _ _ _ _ _ k_l_plan_by_range T.b_range (@pa_c _ _ _ _ _ (@pe_ix _ _ _ _ _ _ _ (@ixL_k _ (K) (by rfl)) (@pw _ 5 _ _ (Or.inl k_l_plan_by_l_many) (by rfl) (by decide) (by decide)) (@pe_int _ _ _ _) (fun _ _ => rfl)) (@pa_nil _) rfl) (by rfl)) (fun _ _ _ _ _ _ => (@pg_name _ _ (0) _ (@nodupS _ (by kernel_rfl)) rfl (Or.inl (by kernel_rfl)) (by first | exact .inl rfl | exact .inr rfl | assumption))) (fun _ _ _ _ _ _ => @pifs_nil _) (fun _ _ _ _ _ _ => (@pe_tupA _ _ _ _ _ (@pa_c _ _ _ _ _ (@pe_call _ _ _ _ _ _ _ _ _ _ _ _ _ _ _ _ G_l_one_of (hr.mono (by decide)) (by show _ = _; kernel_rfl) T.m_l_one_of T.F_l_one_of.kp T.B_l_one_of .nil (@pass0 _) (@pa_c _ _ _ _ _ (@pw _ 1 _ _ (Or.inr (Or.inl (by kernel_rfl))) (by rfl) (by decide) (by decide)) (@pa_c _ _ _ _ _ (@pw _ 2 _ _ (Or.inr (Or.inl (by kernel_rfl))) (by rfl) (by decide) (by decide)) (@pa_nil _) rfl) rfl) (by decide) (by rfl) (by rfl)) (@pa_c _ _ _ _ _ (@pe_call _ _ _ _ _ _ _ _ _ _ _ _ _ _ _ _ G_l_one_of (hr.mono (by decide)) (by show _ = _; kernel_rfl) T.m_l_one_of T.F_l_one_of.kp T.B_l_one_of .nil (@pass0 _) (@pa_c _ _ _ _ _ (@pw _ 1 _ _ (Or.inr (Or.inl (by kernel_rfl))) (by rfl) (by decide) (by decide)) (@pa_c _ _ _ _ _ (@pw _ 3 _ _ (Or.inr (Or.inl (by kernel_rfl))) (by rfl) (by decide) (by decide)) (@pa_nil _) rfl) rfl) (by decide) (by rfl) (by rfl)) (@pa_c _ _ _ _ _ (@pe_call _ _ _ _ _ _ _ _ _ _ _ _ _ _ _ _ G_l_any_much (hr.mono (by decide)) (by show _ = _; kernel_rfl) T.m_l_any_much T.F_l_any_much.kp T.B_l_any_much .nil (@pass0 _) (@pa_c _ _ _ _ _ (@pw _ 1 _ _ (Or.inr (Or.inl (by kernel_rfl))) (by rfl) (by decide) (by decide)) (@pa_nil _) rfl) (by decide) (by rfl) (by rfl)) (@pa_nil _) rfl) rfl) rfl))) (by intro _; rfl)) (@pss_cons _ _ _ _ _ (@ps_setComp _ _ _ _ _ _ _ (["_law_turn", "_law_box_here", "_law_places", "_law_stuffs"]) (1) ([0, 3, 4]) _ _ _ _ (14) _ _ _ sc_l_plan_by.nd rfl k_l_plan_by_l_wishes (by kernel_rfl) rfl (by kernel_rfl) (@pi_range1 _ _ _ _ _ _ k_l_plan_by_range T.b_range (@pa_c _ _ _ _ _ (@pe_ix _ _ _ _ _ _ _ (@ixL_k _ (K) (by rfl)) (@pw _ 5 _ _ (Or.inl k_l_plan_by_l_many) (by rfl) (by decide) (by decide)) (@pe_int _ _ _ _) (fun _ _ => rfl)) (@pa_nil _) rfl) (by rfl)) (fun _ _ _ _ _ _ => (@pg_name _ _ (0) _ (@nodupS _ (by kernel_rfl)) rfl (Or.inl (by kernel_rfl)) (by first | exact .inl rfl | exact .inr rfl | assumption))) (fun _ _ _ _ _ _ => @pifs_nil _) (fun _ _ _ _ _ _ => (@pe_tupA _ _ _ _ _ (@pa_c _ _ _ _ _ (@pe_call _ _ _ _ _ _ _ _ _ _ _ _ _ _ _ _ G_l_one_of (hr.mono (by decide)) (by show _ = _; kernel_rfl) T.m_l_one_of T.F_l_one_of.kp T.B_l_one_of .nil (@pass0 _) (@pa_c _ _ _ _ _ (@pw _ 1 _ _ (Or.inr (Or.inl (by kernel_rfl))) (by rfl) (by decide) (by decide)) (@pa_c _ _ _ _ _ (@pw _ 2 _ _ (Or.inr (Or.inl (by kernel_rfl))) (by rfl) (by decide) (by decide)) (@pa_nil _) rfl) rfl) (by decide) (by rfl) (by rfl)) (@pa_c _ _ _ _ _ (@pe_call _ _ _ _ _ _ _ _ _ _ _ _ _ _ _ _ G_l_one_of (hr.mono (by decide)) (by show _ = _; kernel_rfl) T.m_l_one_of T.F_l_one_of.kp T.B_l_one_of .nil (@pass0 _) (@pa_c _ _ _ _ _ (@pw _ 1 _ _ (Or.inr (Or.inl (by kernel_rfl))) (by rfl) (by decide) (by decide)) (@pa_c _ _ _ _ _ (@pw _ 3 _ _ (Or.inr (Or.inl (by kernel_rfl))) (by rfl) (by decide) (by decide)) (@pa_nil _) rfl) rfl) (by decide) (by rfl) (by rfl)) (@pa_c _ _ _ _ _ (@pe_call _ _ _ _ _ _ _ _ _ _ _ _ _ _ _ _ G_l_amount_by (hr.mono (by decide)) (by show _ = _; kernel_rfl) T.m_l_amount_by T.F_l_amount_by.kp T.B_l_amount_by .nil (@pass0 _) (@pa_c _ _ _ _ _ (@pw _ 1 _ _ (Or.inr (Or.inl (by kernel_rfl))) (by rfl) (by decide) (by decide)) (@pa_nil _) rfl) (by decide) (by rfl) (by rfl)) (@pa_nil _) rfl) rfl) rfl))) (by intro _; rfl)) (@pss_cons _ _ _ _ _ (@ps_par _ _ (6) (7) _ _ _ _ _ _ _ _ _ _ _ rfl sc_l_plan_by.nd rfl rfl (by decide) k_l_plan_by_l_ties k_l_plan_by_l_turners (@pa_c _ _ _ _ _ (@pe_call _ _ _ _ _ _ _ _ _ _ _ _ _ _ _ _ G_l_twice (hr.mono (by decide)) k_l_plan_by_l_twice T.m_l_twice T.F_l_twice.kp T.B_l_twice .nil (@pass0 _) (@pa_c _ _ _ _ _ (@pw _ 0 _ _ (Or.inr (Or.inl k_l_plan_by_l_box_here)) (by rfl) (by decide) (by decide)) (@pa_c _ _ _ _ _ (@pw _ 6 _ _ (Or.inl k_l_plan_by_l_ties) (by rfl) (by decide) (by decide)) (@pa_c _ _ _ _ _ (@pe_int _ _ _ _) (@pa_nil _) rfl) rfl) rfl) (by decide) (by rfl) (by rfl)) (@pa_c _ _ _ _ _ (@pe_call _ _ _ _ _ _ _ _ _ _ _ _ _ _ _ _ G_l_twice (hr.mono (by decide)) k_l_plan_by_l_twice T.m_l_twice T.F_l_twice.kp T.B_l_twice .nil (@pass0 _) (@pa_c _ _ _ _ _ (@pw _ 0 _ _ (Or.inr (Or.inl k_l_plan_by_l_box_here)) (by rfl) (by decide) (by decide)) (@pa_c _ _ _ _ _ (@pw _ 7 _ _ (Or.inl k_l_plan_by_l_turners) (by rfl) (by decide) (by decide)) (@pa_c _ _ _ _ _ (@pe_int _ _ _ _) (@pa_nil _) rfl) rfl) rfl) (by decide) (by rfl) (by rfl)) (@pa_nil _) rfl) rfl) (by kernel_rfl) (by rfl)) (@pss_cons _ _ _ _ _ (@ps_par _ _ (13) (14) _ _ _ _ _ _ _ _ _ _ _ rfl sc_l_plan_by.nd rfl rfl (by decide) k_l_plan_by_l_wells k_l_plan_by_l_wishes (@pa_c _ _ _ _ _ (@pe_call _ _ _ _ _ _ _ _ _ _ _ _ _ _ _ _ G_l_twice (hr.mono (by decide)) k_l_plan_by_l_twice T.m_l_twice T.F_l_twice.kp T.B_l_twice .nil (@pass0 _) (@pa_c _ _ _ _ _ (@pw _ 0 _ _ (Or.inr (Or.inl k_l_plan_by_l_box_here)) (by rfl) (by decide) (by decide)) (@pa_c _ _ _ _ _ (@pw _ 13 _ _ (Or.inl k_l_plan_by_l_wells) (by rfl) (by decide) (by decide)) (@pa_c _ _ _ _ _ (@pe_int _ _ _ _) (@pa_nil _) rfl) rfl) rfl) (by decide) (by rfl) (by rfl)) (@pa_c _ _ _ _ _ (@pe_call _ _ _ _ _ _ _ _ _ _ _ _ _ _ _ _ G_l_twice (hr.mono (by decide)) k_l_plan_by_l_twice T.m_l_twice T.F_l_twice.kp T.B_l_twice .nil (@pass0 _) (@pa_c _ _ _ _ _ (@pw _ 0 _ _ (Or.inr (Or.inl k_l_plan_by_l_box_here)) (by rfl) (by decide) (by decide)) (@pa_c _ _ _ _ _ (@pw _ 14 _ _ (Or.inl k_l_plan_by_l_wishes) (by rfl) (by decide) (by decide)) (@pa_c _ _ _ _ _ (@pe_int _ _ _ _) (@pa_nil _) rfl) rfl) rfl) (by decide) (by rfl) (by rfl)) (@pa_nil _) rfl) rfl) (by kernel_rfl) (by rfl)) (@pss_one _ _ _ (@ps_ret _ _ _ _ (@pe_tupA _ _ _ _ _ (@pa_c _ _ _ _ _ (@pw _ 3 _ _ (Or.inr (Or.inl k_l_plan_by_l_places)) (by rfl) (by decide) (by decide)) (@pa_c _ _ _ _ _ (@pw _ 4 _ _ (Or.inr (Or.inl k_l_plan_by_l_stuffs)) (by rfl) (by decide) (by decide)) (@pa_c _ _ _ _ _ (@pw _ 6 _ _ (Or.inl k_l_plan_by_l_ties) (by rfl) (by decide) (by decide)) (@pa_c _ _ _ _ _ (@pw _ 7 _ _ (Or.inl k_l_plan_by_l_turners) (by rfl) (by decide) (by decide)) (@pa_c _ _ _ _ _ (@pw _ 13 _ _ (Or.inl k_l_plan_by_l_wells) (by rfl) (by decide) (by decide)) (@pa_c _ _ _ _ _ (@pw _ 14 _ _ (Or.inl k_l_plan_by_l_wishes) (by rfl) (by decide) (by decide)) (@pa_nil _) rfl) rfl) rfl) rfl) rfl) rfl))))))))))))))))), ?_⟩
    refine seqA fun DA nA => ?_
    refine ⟨_, rfl, b, 8, t, rfl, B, by decide, by decide, ht0, by trivial, fun r1 t1 H1 a10 a11 h1a h1b s1 B1 => ⟨rfl, ?_⟩⟩
    refine nA _ _ ?_
    generalize decide (V.int r1 = V.int 0) = great
    refine seqA fun DB nB => ?_
    refine ⟨_, rfl, _, rfl, _, rfl, ifE (fun v H' => Ex2 fun m t' => v = .int m ∧ 1 ≤ m ∧ m ≤ 6 ∧ SameE (Eb b) H H' ∧ Bx H' b t' ∧ t ≤ t' ∧ t' ≤ t + 2) ?rest1 ?h11 ?h12⟩
    case h11 => exact fun _ rest => ⟨_, rfl, b, 2, t1, rfl, B1, by decide, by decide, by trivial, by trivial, fun r2 t2 H2 a20 a21 _ _ s2 B2 => ⟨_, _, rfl, rfl, rest _ _ ⟨_, t2, rfl, by trivial, by trivial, s1.trans s2, B2, by trivial, by trivial⟩⟩⟩
    case h12 => exact fun _ rest => ⟨_, rfl, b, 4, t1, rfl, B1, by decide, by decide, by trivial, by trivial, fun r2 t2 H2 a20 a21 _ _ s2 B2 => ⟨_, _, rfl, rfl, rest _ _ ⟨_, t2, rfl, by trivial, by trivial, s1.trans s2, B2, by trivial, by trivial⟩⟩⟩
    case rest1 =>
    rintro v H2 ⟨m, t2, rfl, m1, m6, s2, B2, h2a, h2b⟩
    refine ⟨b, m, t2, rfl, B2, by trivial, by trivial, by trivial, by trivial, fun pl ls t3 H3 s3 hpl ll lnd lnc B3 h3a h3b => ?_⟩
    refine nB _ _ ?_
    have s03 := s2.trans s3
    refine seqA fun DC nC => ?_
    refine ⟨_, rfl, _, rfl, _, rfl, ifE (fun v H' => Ex2 fun m t' => v = .int m ∧ 1 ≤ m ∧ m ≤ 4 ∧ SameE (Eb b) H3 H' ∧ Bx H' b t' ∧ t3 ≤ t' ∧ t' ≤ t3 + 1) ?rest2 ?h21 ?h22⟩
    case h21 => exact fun _ rest => ⟨_, rfl, b, 2, t3, rfl, B3, by decide, by decide, by trivial, by trivial, fun r2 t2 H2 a20 a21 _ _ s2 B2 => ⟨_, _, rfl, rfl, rest _ _ ⟨_, t2, rfl, by trivial, by trivial, s2, B2, by trivial, by trivial⟩⟩⟩
    case h22 => exact fun _ rest => ⟨_, rfl, b, 3, t3, rfl, B3, by decide, by decide, by trivial, by trivial, fun r2 t2 H2 a20 a21 _ _ s2 B2 => ⟨_, _, rfl, rfl, rest _ _ ⟨_, t2, rfl, by trivial, by trivial, s2, B2, by trivial, by trivial⟩⟩⟩
    case rest2 =>
    rintro v H4 ⟨m', t4, rfl, m1', m4', s4, B4, h4a, h4b⟩
    refine ⟨b, m', t4, rfl, B4, by trivial, by trivial, by trivial, by trivial, fun st ss t5 H5 s5 hst sl snd snc B5 h5a h5b => ?_⟩
    refine nC _ _ ?_
    have s35 := s4.trans s5
    have s05 := s03.trans s35
    have hpl5 := s35.tup _ _ hpl
    have lets : ∀ (n : Nat) (G : Hp) (D : Addr), G D = none → (fun (i : Nat) (H' : Hp) (ys : List V) => ys = (List.range i).map (fun k => strV (nm 97 k)) ∧ H' D = some (.lst ys) ∧ Same G H') 0 (upd G D (.lst [])) [] := fun n G D hD => ⟨rfl, upd_same, same_lst hD (Same.refl _)⟩
    have ea : Str.ofString "a" = S [97] := by decide +kernel
    have nmc : ∀ n, n ≤ 8 → ∀ l ∈ (List.range n).map (nm 97), NameC l := fun n hn l hl => by
      obtain ⟨j, hj, rfl⟩ := List.mem_map.mp hl
      exact nm_ok (by have := List.mem_range.mp hj; trivial) (by decide) (by decide)
    refine joinS (fun σ H' => Ex5 fun pl st ls ss t' => σ = [some (.ref b), some (.int 6), some (.bl great), some (.ref pl), some (.ref st), none, none, none, none, none, none, none, none, none, none] ∧ H' pl = some (.tup ((ls : List (List Nat)).map strV)) ∧ H' st = some (.tup ((ss : List (List Nat)).map strV)) ∧ 1 ≤ ls.length ∧ ls.length ≤ 6 ∧ 1 ≤ ss.length ∧ ss.length ≤ 4 ∧ ls.Nodup ∧ ss.Nodup ∧ (∀ l ∈ ls, NameC l) ∧ (∀ l ∈ ss, NameC l) ∧ SameE (Eb b) H H' ∧ Bx H' b t' ∧ t ≤ t' ∧ t' ≤ t + 40) ?rest3 ?h3
    case h3 =>
      intro rest
      refine ⟨_, rfl, b, 4, t5, rfl, B5, by decide, by decide, by trivial, by trivial, fun r6 t6 H6 _ _ _ _ s6 B6 => ⟨rfl, _, rfl, ite2 (fun c => ?_) (fun c => ?_)⟩⟩
      · have hpl6 := s6.tup _ _ hpl5
        have hst6 := s6.tup _ _ hst
        refine ⟨_, rfl, pl, _, rfl, .inr (SqT.of hpl6), _, rfl, by trivial, by rw [List.length_map]; trivial, fun D hD => comp_each (n := ls.length) (fun (i : Nat) (H' : Hp) (ys : List V) => ys = (List.range i).map (fun k => strV (nm 97 k)) ∧ H' D = some (.lst ys) ∧ Same H6 H') ?_ (lets 0 H6 D hD) ?_ ?_ ?_ ?_ ?_⟩
        · rw [sizeLine_eq]; trivial
        · rintro i H' ys ⟨rfl, e, _⟩
          exact ⟨e, by simp⟩
        · intro i H' ys hi _
          show i < ((((ls.map strV).length : Nat) : Int)).toNat
          rw [List.length_map]; trivial
        · intro H' ys _
          show _ ≤ _
          rw [List.length_map]; trivial
        · rintro i H' ys x H'' hi ⟨g1, g2, g3⟩ ⟨rfl, rfl⟩
          refine ⟨back1, _, rfl, _, _, rfl, rfl, [97], _, by rw [ea], rfl, by trivial, by trivial, (by show 1 ≤ 100; decide), ?_⟩
          have en : (List.replicate (0 + (i : Int) + 1).toNat [97]).flatten = nm 97 i := by
            rw [rep1]
            unfold nm
            congr 1
            trivial
          rw [en]
          refine ⟨g2, ?_, upd_same, same_lst hD g3⟩
          rw [g1, List.range_succ, List.map_append]; rfl
        rintro H7 ys1 ⟨ey1, eD1, s7⟩
        subst ey1
        refine ⟨D, _, rfl, SqL.of eD1, fun q1 H8 n8 => ?_⟩
        have s68 := s7.trans n8.sm
        have hst8 := s68 _ _ hst6
        refine ⟨_, rfl, st, _, rfl, .inr (SqT.of hst8), _, rfl, by trivial, by rw [List.length_map]; trivial, fun D hD => comp_each (n := ss.length) (fun (i : Nat) (H' : Hp) (ys : List V) => ys = (List.range i).map (fun k => strV (nm 97 k)) ∧ H' D = some (.lst ys) ∧ Same H8 H') ?_ (lets 0 H8 D hD) ?_ ?_ ?_ ?_ ?_⟩
        · rw [sizeLine_eq]; trivial
        · rintro i H' ys ⟨rfl, e, _⟩
          exact ⟨e, by simp⟩
        · intro i H' ys hi _
          show i < ((((ss.map strV).length : Nat) : Int)).toNat
          rw [List.length_map]; trivial
        · intro H' ys _
          show _ ≤ _
          rw [List.length_map]; trivial
        · rintro i H' ys x H'' hi ⟨g1, g2, g3⟩ ⟨rfl, rfl⟩
          refine ⟨back1, _, rfl, _, _, rfl, rfl, [97], _, by rw [ea], rfl, by trivial, by trivial, (by show 1 ≤ 100; decide), ?_⟩
          have en : (List.replicate (0 + (i : Int) + 1).toNat [97]).flatten = nm 97 i := by
            rw [rep1]
            unfold nm
            congr 1
            trivial
          rw [en]
          refine ⟨g2, ?_, upd_same, same_lst hD g3⟩
          rw [g1, List.range_succ, List.map_append]; rfl
        rintro H9 ys2 ⟨ey2, eD2, s9⟩
        subst ey2
        refine ⟨D, _, rfl, SqL.of eD2, fun q2 H10 n10 => rest _ _ ⟨q1, q2, (List.range ls.length).map (nm 97), (List.range ss.length).map (nm 97), t6, rfl, ?_, ?_, by simp; trivial, by simp; trivial, by simp; trivial, by simp; trivial, nm_nodup _ _, nm_nodup _ _, nmc _ (by trivial), nmc _ (by trivial), (s05.trans s6).trans (s68.trans (s9.trans n10.sm)).toE, B6.same (s68.trans (s9.trans n10.sm)), by trivial, by trivial⟩⟩
        · rw [(s9.trans n10.sm) _ _ n8.at', List.map_map]; rfl
        · rw [n10.at', List.map_map]; rfl
      · exact rest _ _ ⟨pl, st, ls, ss, t6, rfl, s6.tup _ _ hpl5, s6.tup _ _ hst, by trivial, by trivial, by trivial, by trivial, lnd, snd, lnc, snc, s05.trans s6, B6, by trivial, by trivial⟩
    case rest3 =>
    clear lets nmc hpl5 hpl hst lnd lnc snd snc ll sl s35 s03 s4 s5 s05 s2 s3 s1
    clear h1a h1b h2a h2b h3a h3b h4a h4b h5a h5b a10 a11 m1 m6 m1' m4' B1 B2 B3 B4 B5
    rintro σ H6 ⟨pl, st, ls, ss, t6, rfl, hpl, hst, l1, l6, q1, q4, lnd, snd, lnc, snc, s06, B6, h6a, h6b⟩
    refine seqA fun DE nE => ?_
    refine ⟨_, rfl, _, rfl, _, _, rfl, rfl, b, _, t6, rfl, B6, (by decide), (by decide), by trivial, by trivial, fun x0 t7 H7 x00 x01 k7a k7b s7 B7 => ?_⟩
    refine ⟨_, rfl, b, 4, t7, rfl, B7, by decide, by decide, by trivial, by trivial, fun x1 t8 H8 x10 x11 k8a k8b s8 B8 => ?_⟩
    refine ⟨_, rfl, b, 4, t8, rfl, B8, by decide, by decide, by trivial, by trivial, fun x2 t9 H9 x20 x21 k9a k9b s9 B9 => ⟨_, _, rfl, rfl, ?_⟩⟩
    refine ⟨_, rfl, b, 4, t9, rfl, B9, by decide, by decide, by trivial, by trivial, fun x3 t10 H10 x30 x31 kaa kab s10 B10 => ⟨(by show 4 ≤ 10000; decide), fun mn H11 n11 => ?_⟩⟩
    refine nE _ _ ?_
    have x01' : x0 < 7 := x01
    have s011 := ((((s06.trans s7).trans s8).trans s9).trans s10).trans n11.sm.toE
    have s611 := (((s7.trans s8).trans s9).trans s10).trans n11.sm.toE
    have hpl11 := s611.tup _ _ hpl
    have hst11 := s611.tup _ _ hst
    have nmb : ¬ mn = b := fun z => B10.ne n11.fr z.symm
    have B11 := B10.same n11.sm
    refine joinS (fun σ H' => Ex6 fun mn m0 m1 m2 m3 t' => σ = [some (.ref b), some (.int 6), some (.bl great), some (.ref pl), some (.ref st), some (.ref mn), none, none, none, none, none, none, none, none, none] ∧ H' mn = some (.lst [.int m0, .int m1, .int m2, .int m3]) ∧ mn ≠ b ∧ 0 ≤ m0 ∧ m0 ≤ 12 ∧ 0 ≤ m1 ∧ m1 ≤ 12 ∧ 1 ≤ m2 ∧ m2 ≤ 6 ∧ 0 ≤ m3 ∧ m3 ≤ 5 ∧ SameE (Eb b) H6 H' ∧ Bx H' b t' ∧ t ≤ t' ∧ t' ≤ t + 50) ?rest4 ?h4
    case h4 =>
      intro rest
      refine ⟨_, rfl, _, rfl, ?_⟩
      cases great with
      | false => exact iteF (rest _ _ ⟨mn, _, _, _, _, t10, rfl, n11.at', nmb, by trivial, by trivial, by trivial, by trivial, by trivial, by trivial, by trivial, by trivial, s611, B11, by trivial, by trivial⟩)
      | true =>
        refine iteT ?_
        refine ⟨_, rfl, mn, _, _, _, rfl, rfl, SqL.of n11.at', rfl, _, rfl, _, rfl, _, _, rfl, rfl, b, _, t10, rfl, B11, (by decide), (by decide), by trivial, by trivial, fun y0 t12 H12 y00 y01 _ _ s12 B12 => ⟨_, _, rfl, rfl, ?_⟩⟩
        have y01' : y0 < 7 := y01
        have hm12 := s12.old mn _ nmb n11.at'
        refine ⟨_, rfl, mn, _, _, _, rfl, rfl, SqL.of hm12, rfl, _, _, rfl, rfl, _, rfl, b, 8, t12, rfl, B12, by decide, by decide, by trivial, by trivial, fun y1 t13 H13 y10 y11 _ _ s13 B13 => ⟨_, _, rfl, rfl, ?_⟩⟩
        have hm13 := s13.old mn _ nmb hm12
        refine ⟨_, rfl, mn, _, _, _, rfl, rfl, SqL.of hm13, rfl, _, _, rfl, rfl, _, rfl, mn, _, _, _, rfl, rfl, SqL.of hm13, rfl, _, _, rfl, rfl, (by show 4 ≤ 10000; decide), fun mn' H14 n14 => rest _ _ ⟨mn', _, _, _, _, t13, rfl, n14.at', (fun z => B13.ne n14.fr z.symm), by trivial, by trivial, by trivial, by trivial, by trivial, by trivial, by trivial, by trivial, ((s611.trans s12).trans s13).trans n14.sm.toE, B13.same n14.sm, by trivial, by trivial⟩⟩
    case rest4 =>
    clear x00 x01 x10 x11 x20 x21 x30 x31 x01' hpl11 hst11 nmb s611 s011 B11 n11 k7a k7b k8a k8b k9a k9b kaa kab h6a h6b B7 B8 B9 B10 s7 s8 s9 s10
    rintro σ H12 ⟨mn, m0, m1, m2, m3, t12, rfl, hmn, nmb, m00, m01, m10, m11, m20, m21, m30, m31, s12, B12, h12a, h12b⟩
    refine seqP fun DF nF => ?_
    refine ⟨(by show 0 ≤ 10000; decide), fun D H13 n13 => ⟨(by show 0 ≤ 10000; decide), fun U H14 n14 => nF _ _ _ ?_⟩⟩
    have B14 := (B12.same n13.sm).same n14.sm
    have S14 := n13.sm.trans n14.sm
    have nDb : ¬ D = b := fun z => B12.ne n13.fr z.symm
    have nUb : ¬ U = b := fun z => (B12.same n13.sm).ne n14.fr z.symm
    have nUD : ¬ U = D := fun z => by have := n14.fr; rw [z, n13.at'] at this; cases this
    have hU12 : H12 U = none := Same.free n13.sm n14.fr
    have s614 : SameE (Eb b) H6 H14 := s12.trans S14.toE
    have h6D : H6 D = none := SameE.free s12 B12 n13.fr
    have h6U : H6 U = none := SameE.free s12 B12 hU12
    have hmn14 := S14 _ _ hmn
    have nmD : ¬ mn = D := fun z => by have := n13.fr; rw [← z, hmn] at this; cases this
    have nmU : ¬ mn = U := fun z => by rw [← z, hmn] at hU12; cases hU12
    have hpl14 := s614.tup _ _ hpl
    have hst14 := s614.tup _ _ hst
    have el : ((ls.map strV).length : Int) = (ls.length : Int) := by rw [List.length_map]
    have es : ((ss.map strV).length : Int) = (ss.length : Int) := by rw [List.length_map]
    refine seqR fun DG nG rG => ?_
    refine ⟨_, rfl, mn, _, _, _, rfl, rfl, SqL.of hmn14, rfl, _, rfl, pl, _, rfl, .inr (SqT.of hpl14), _, _, rfl, rfl, .inr ⟨_, rfl, _, _, rfl, rfl, .inr (b01 _), ?_⟩⟩
    have n0 : ∃ n0 : Nat, (m0 * (if decide (1 < ((ls.map strV).length : Int)) = true then (1 : Int) else 0)) = (n0 : Int) ∧ n0 ≤ 12 ∧ (0 < n0 → 1 < (ls.length : Int)) := by
      rw [el]
      by_cases c : 1 < (ls.length : Int)
      · rw [decide_eq_true c]
        exact ⟨m0.toNat, by simp; trivial, by trivial, fun _ => c⟩
      · rw [decide_eq_false c]
        exact ⟨0, by simp, by trivial, fun z => by trivial⟩
    obtain ⟨n0, en0, hn0, hn0'⟩ := n0
    refine ⟨(n0 : Int), congrArg (fun z => [V.int z]) en0, by trivial, by trivial, ?_⟩
    rw [Int.toNat_natCast]
    refine for_range (fun i σ H' => Ex6 fun v8 v9 v10 ys ts t' => σ = [some (.ref b), some (.int 6), some (.bl great), some (.ref pl), some (.ref st), some (.ref mn), some (.ref D), some (.ref U), v8, v9, v10, none, none, none, none] ∧ H' D = some (.lst ys) ∧ IsAll ED H' ys ((ts : List PT).map ptD) ∧ ts.length = i ∧ (∀ x ∈ ts, PTC ls x) ∧ H' U = some (.lst []) ∧ H' mn = some (.lst [.int m0, .int m1, .int m2, .int m3]) ∧ Bx H' b t' ∧ t12 ≤ t' ∧ t' ≤ t12 + 20 * i ∧ SameE (Eb b) H6 H') ⟨none, none, none, [], [], t12, rfl, n14.sm _ _ n13.at', .nil, rfl, (fun x hx => by cases hx), n14.at', hmn14, B14, by trivial, by trivial, s614⟩ ?_ ?_
    · rintro i σ G hi ⟨v8, v9, v10, ys, ts, t15, rfl, hD, iD, lD, cD, hU, hm, BG, h15a, h15b, sG⟩
      have l2 := hn0' (by trivial)
      have tb : 0 ≤ t15 ∧ t15 ≤ t + 290 := by trivial
      have lb : ts.length + 1 ≤ 20 := by trivial
      clear m00 m01 m10 m11 m20 m21 m30 m31 en0 hn0' q1 q4 h12a h12b
      have hplG := sG.tup _ _ hpl
      refine bodyH (t := tSeq _ _) fun DH nH => ?_
      refine seqA fun DI nI => ?_
      refine ⟨_, rfl, _, rfl, pl, _, rfl, .inr (SqT.of hplG), b, _, t15, rfl, BG, by trivial, log9 (by trivial) (by trivial), by trivial, by trivial, fun f t16 G1 f0 f1 _ _ g1 BG1 => ?_⟩
      refine nI _ _ ?_
      have hplG1 := g1.tup _ _ hplG
      refine seqA fun DJ nJ => ?_
      have hmx : 0 < (if ((ls.map strV).length : Int) - 1 > 1 then ((ls.map strV).length : Int) - 1 else 1) ∧ (if ((ls.map strV).length : Int) - 1 > 1 then ((ls.map strV).length : Int) - 1 else 1) = (ls.length : Int) - 1 := by rw [el, max_len l2]; trivial
      refine ⟨_, rfl, _, rfl, _, _, rfl, rfl, _, rfl, _, rfl, pl, _, rfl, .inr (SqT.of hplG1), _, _, rfl, rfl, _, _, rfl, b, _, t16, rfl, BG1, hmx.1, log9 hmx.1 (by trivial), by trivial, by trivial, fun r t17 G2 r0 r1 _ _ g2 BG2 => ?_⟩
      have hplG2 := g2.tup _ _ hplG1
      have st' := step_on (n := (ls.length : Int)) (f := f) (r := r) f0 (by trivial) r0 (by trivial)
      obtain ⟨la, ela⟩ : ∃ la, la = (f + 1 + r) % (ls.length : Int) := ⟨_, rfl⟩
      rw [← ela] at st'
      obtain ⟨la0, la1, lane⟩ := st'
      have hat : atI (ls.map strV) ((f + 1 + r) % ((ls.map strV).length : Int)) = some (strV ls[la.toNat]) := by rw [el, ← ela]; exact atI_map la0 (by trivial)
      refine ⟨_, _, rfl, rfl, _, rfl, pl, _, rfl, .inr (SqT.of hplG2), _, _, rfl, rfl, (by show (0 : Int) < ((ls.map strV).length : Int); trivial), pl, _, _, _, rfl, rfl, SqT.of hplG2, hat, ?_⟩
      refine nJ _ _ ?_
      have g12 := g1.trans g2
      have hD2 := g12.old D _ nDb hD
      refine dropQ fun Q1 nQ => ?_
      refine ⟨_, rfl, .inl ⟨rfl, _, SqL.of hD2⟩, _, rfl, _, rfl, pl, _, _, _, rfl, rfl, SqT.of hplG2, atI_map f0 (by trivial), _, rfl, _, rfl, b, t17, rfl, BG2, by trivial, by trivial, fun om nm' dm t18 G3 g3 em fm em0 BG3 h18a h18b => ⟨_, rfl, b, t18, rfl, BG3, by trivial, by trivial, fun og ng dg t19 G4 g4 eg fg eg1 BG4 h19a h19b => ⟨(by show 4 ≤ 10000; decide), fun o G5 n5 => ?_⟩⟩⟩
      have g15 := ((g12.trans g3).trans g4).trans n5.sm.toE
      have hD5 := g15.old D _ nDb hD
      refine ⟨D, _, _, rfl, rfl, hD5, by rw [iD.length, List.length_map]; trivial, fun G6 c6 => ?_⟩
      refine nQ _ _ (nH _ _ ⟨_, _, _, ys ++ [.ref o], ts ++ [⟨ls[f.toNat], ls[la.toNat], (nm', dm), (ng, dg)⟩], t19, rfl, c6.at', ?_, by rw [List.length_append, lD]; rfl, ?_, c6.ol U _ nUD (g15.old U _ nUb hU), c6.ol mn _ nmD (g15.old mn _ nmb hm), (BG4.same n5.sm).ch c6 (Ne.symm nDb), by trivial, by trivial, (sG.trans g15).ch c6 h6D⟩)
      · rw [List.map_append]
        refine all_snoc c6 hD5 (iD.tupS g15) ?_
        exact .tup n5.at' (.cons (.str _) (.cons (.str _) (.cons (isF (p := (nm', dm)) (n5.sm _ _ (g4.tup _ _ em))) (.cons (isF (p := (ng, dg)) (n5.sm _ _ eg)) .nil))))
      · intro x hx
        rcases List.mem_append.mp hx with q | q
        · exact cD x q
        · rw [List.mem_singleton.mp q]
          refine ⟨List.getElem_mem _, List.getElem_mem _, fun z => ?_, fm, em0, fg, eg1⟩
          have := nodup_inj lnd (by trivial) (by trivial) z
          trivial
    rintro σ G ⟨v8, v9, v10, ys, ts, t15, rfl, hD, iD, lD, cD, hU, hm, BG, h15a, h15b, sG⟩
    refine nG _ _ ?_
    clear rG nG
    have hstG := sG.tup _ _ hst
    have lts : ts.length ≤ 12 := by trivial
    have t15m : t15 ≤ t + 290 := by trivial
    have t15a : t ≤ t15 := by trivial
    clear m00 m01 en0 hn0 hn0' h15a h15b h12a h12b lD
    refine seqR fun DK nK rK => ?_
    refine ⟨_, rfl, mn, _, _, _, rfl, rfl, SqL.of hm, rfl, _, rfl, st, _, rfl, .inr (SqT.of hstG), _, _, rfl, rfl, .inr ⟨_, rfl, _, _, rfl, rfl, .inr (b01 _), ?_⟩⟩
    have n1 : ∃ n1 : Nat, (m1 * (if decide (1 < ((ss.map strV).length : Int)) = true then (1 : Int) else 0)) = (n1 : Int) ∧ n1 ≤ 12 ∧ (0 < n1 → 1 < (ss.length : Int)) := by
      rw [es]
      by_cases c : 1 < (ss.length : Int)
      · rw [decide_eq_true c]
        exact ⟨m1.toNat, by simp; trivial, by trivial, fun _ => c⟩
      · rw [decide_eq_false c]
        exact ⟨0, by simp, by trivial, fun z => by trivial⟩
    obtain ⟨n1, en1, hn1, hn1'⟩ := n1
    refine ⟨(n1 : Int), congrArg (fun z => [V.int z]) en1, by trivial, by trivial, ?_⟩
    rw [Int.toNat_natCast]
    refine for_range (fun i σ H' => Ex8 fun v8 v9 v10 v11 v12 zs us t' => σ = [some (.ref b), some (.int 6), some (.bl great), some (.ref pl), some (.ref st), some (.ref mn), some (.ref D), some (.ref U), v8, v9, v10, v11, v12, none, none] ∧ H' U = some (.lst zs) ∧ IsAll ED H' zs ((us : List TU).map tuD) ∧ us.length = i ∧ (∀ x ∈ us, TUC ls ss x) ∧ H' D = some (.lst ys) ∧ IsAll ED H' ys (ts.map ptD) ∧ H' mn = some (.lst [.int m0, .int m1, .int m2, .int m3]) ∧ Bx H' b t' ∧ t15 ≤ t' ∧ t' ≤ t15 + 20 * i ∧ SameE (Eb b) H6 H') ⟨v8, v9, v10, none, none, [], [], t15, rfl, hU, .nil, rfl, (fun x hx => by cases hx), hD, iD, hm, BG, by trivial, by trivial, sG⟩ ?_ ?_
    · clear hm BG sG iD hD hU
      rintro i σ G hi ⟨v8, v9, v10, v11, v12, zs, us, t16, rfl, hU, iU, lU, cU, hD, iD, hm, BG, h16a, h16b, sG⟩
      have l2 := hn1' (by trivial)
      clear m10 m11 m20 m21 m30 m31 en1 hn1'
      have hplG := sG.tup _ _ hpl
      have hstG := sG.tup _ _ hst
      refine bodyH (t := tSeq _ _) fun DH nH => ?_
      refine seqP fun DI nI => ?_
      refine ⟨_, rfl, _, rfl, st, _, rfl, .inr (SqT.of hstG), b, _, t16, rfl, BG, by trivial, log9 (by trivial) (by trivial), by trivial, by trivial, fun f t17 G1 f0 f1 _ _ g1 BG1 => ?_⟩
      have hplG1 := g1.tup _ _ hplG
      refine ⟨_, rfl, _, rfl, _, rfl, pl, _, rfl, .inr (SqT.of hplG1), b, _, t17, rfl, BG1, by trivial, log9 (by trivial) (by trivial), by trivial, by trivial, fun e t18 G2 e0 e1 _ _ g2 BG2 => ?_⟩
      refine ⟨pl, _, _, _, rfl, rfl, SqT.of (g2.tup _ _ hplG1), atI_map e0 (by trivial), nI _ _ _ ?_⟩
      have g12 := g1.trans g2
      have hstG2 := g12.tup _ _ hstG
      refine seqA fun DJ nJ => ?_
      have hmx : 0 < (if ((ss.map strV).length : Int) - 1 > 1 then ((ss.map strV).length : Int) - 1 else 1) ∧ (if ((ss.map strV).length : Int) - 1 > 1 then ((ss.map strV).length : Int) - 1 else 1) = (ss.length : Int) - 1 := by rw [es, max_len l2]; trivial
      refine ⟨_, rfl, _, rfl, _, _, rfl, rfl, _, rfl, _, rfl, st, _, rfl, .inr (SqT.of hstG2), _, _, rfl, rfl, _, _, rfl, b, _, t18, rfl, BG2, hmx.1, log9 hmx.1 (by trivial), by trivial, by trivial, fun r t19 G3 r0 r1 _ _ g3 BG3 => ?_⟩
      have g13 := g12.trans g3
      have hstG3 := g13.tup _ _ hstG
      have st' := step_on (n := (ss.length : Int)) (f := f) (r := r) f0 (by trivial) r0 (by trivial)
      obtain ⟨la, ela⟩ : ∃ la, la = (f + 1 + r) % (ss.length : Int) := ⟨_, rfl⟩
      rw [← ela] at st'
      obtain ⟨la0, la1, lane⟩ := st'
      have hat : atI (ss.map strV) ((f + 1 + r) % ((ss.map strV).length : Int)) = some (strV ss[la.toNat]) := by rw [es, ← ela]; exact atI_map la0 (by trivial)
      refine ⟨_, _, rfl, rfl, _, rfl, st, _, rfl, .inr (SqT.of hstG3), _, _, rfl, rfl, (by show (0 : Int) < ((ss.map strV).length : Int); trivial), st, _, _, _, rfl, rfl, SqT.of hstG3, hat, ?_⟩
      refine nJ _ _ ?_
      have hU3 := g13.old U _ nUb hU
      refine dropQ fun Q1 nQ => ?_
      refine ⟨_, rfl, .inl ⟨rfl, _, SqL.of hU3⟩, _, rfl, _, rfl, _, rfl, st, _, _, _, rfl, rfl, SqT.of hstG3, atI_map f0 (by trivial), _, rfl, _, rfl, b, t19, rfl, BG3, by trivial, by trivial, fun om nm' dm t20 G4 g4 em fm em0 BG4 h20a h20b => ⟨_, rfl, b, t20, rfl, BG4, by trivial, by trivial, fun og ng dg t21 G5 g5 eg fg eg1 BG5 h21a h21b => ⟨(by show 5 ≤ 10000; decide), fun o G6 n6 => ?_⟩⟩⟩
      have g16 := ((g13.trans g4).trans g5).trans n6.sm.toE
      have hU6 := g16.old U _ nUb hU
      refine ⟨U, _, _, rfl, rfl, hU6, by rw [iU.length, List.length_map]; trivial, fun G7 c7 => ?_⟩
      refine nQ _ _ (nH _ _ ⟨_, _, _, _, _, zs ++ [.ref o], us ++ [⟨ls[e.toNat], ss[f.toNat], ss[la.toNat], (nm', dm), (ng, dg)⟩], t21, rfl, c7.at', ?_, by rw [List.length_append, lU]; rfl, ?_, c7.ol D _ (Ne.symm nUD) (g16.old D _ nDb hD), ?_, c7.ol mn _ nmU (g16.old mn _ nmb hm), (BG5.same n6.sm).ch c7 (Ne.symm nUb), by trivial, by trivial, (sG.trans g16).ch c7 h6U⟩)
      · rw [List.map_append]
        refine all_snoc c7 hU6 (iU.tupS g16) ?_
        exact .tup n6.at' (.cons (.str _) (.cons (.str _) (.cons (.str _) (.cons (isF (p := (nm', dm)) (n6.sm _ _ (g5.tup _ _ em))) (.cons (isF (p := (ng, dg)) (n6.sm _ _ eg)) .nil)))))
      · intro x hx
        rcases List.mem_append.mp hx with q | q
        · exact cU x q
        · rw [List.mem_singleton.mp q]
          refine ⟨List.getElem_mem _, List.getElem_mem _, List.getElem_mem _, fun z => ?_, fm, em0, fg, eg1⟩
          have := nodup_inj snd (by trivial) (by trivial) z
          trivial
      · exact (iD.tupS g16).mono ⟨fun _ _ n _ => absurd trivial n, fun _ _ e => c7.tup e hU6⟩
    clear hm BG sG iD hD hU hstG
    rintro σ G ⟨v8, v9, v10, v11, v12, zs, us, t16, rfl, hU, iU, lU, cU, hD, iD, hm, BG, h16a, h16b, sG⟩
    refine nK _ _ ?_
    have hplG := sG.tup _ _ hpl
    have hstG := sG.tup _ _ hst
    have lus : us.length ≤ 12 := by trivial
    have t16m : t16 ≤ t + 530 := by trivial
    have t16a : t ≤ t16 := by trivial
    clear m10 m11 en1 hn1 hn1' h16a h16b t15m t15a lU
    refine seqA fun DL nL => ?_
    refine ⟨_, rfl, mn, _, _, _, rfl, rfl, SqL.of hm, rfl, _, rfl, by trivial, by trivial, fun W hW => comp_each (n := m2.toNat) (fun i H' xs => Ex2 fun (ws : List WE) (t' : Int) => H' W = some (.lst xs) ∧ IsAll ED H' xs (ws.map weD) ∧ xs.length = i ∧ (∀ x ∈ ws, WEC 0 ls ss x) ∧ Bx H' b t' ∧ t16 ≤ t' ∧ t' ≤ t16 + 8 * i ∧ SameE (Eb b) G H') ?_ ?_ ?_ ?_ ?_ ?_ ?_⟩
    · rw [sizeLine_eq]; trivial
    · exact ⟨[], t16, upd_same, .nil, rfl, fun h hh => (by cases hh), BG.same (Same.new hW), by trivial, by trivial, (Same.new hW).toE⟩
    · rintro i H' ys ⟨ws, t8, e, _, rfl, _⟩
      exact ⟨e, Nat.le_refl _⟩
    · intro i H' ys hi _
      exact hi
    · intro H' ys _
      exact Nat.le_refl _
    · have nW : ¬ W = b := fun z => BG.ne hW z.symm
      rintro i Ha xs x Hb hi ⟨ws, t17, g1, g2, g3, g4, g5, g6, g7, g8⟩ ⟨rfl, rfl⟩
      refine ⟨back1, _, rfl, _, rfl, b, pl, ls, t17, rfl, g5, by trivial, by trivial, g8.tup _ _ hplG, l1, by trivial, fun l1' t18 Hc ml jc Cc h18a h18b => ?_⟩
      refine ⟨_, rfl, _, rfl, b, st, ss, t18, rfl, Cc, by trivial, by trivial, jc.tup _ _ (g8.tup _ _ hstG), q1, by trivial, fun l2' t19 Hd ms jd Cd h19a h19b => ?_⟩
      refine ⟨_, rfl, b, t19, rfl, Cd, by trivial, by trivial, fun om nm' dm t20 He je em fm em0 Ce h20a h20b => ⟨(by show 3 ≤ 10000; decide), fun o Hf nf => ?_⟩⟩
      have js := ((jc.trans jd).trans je).trans nf.sm.toE
      have eW := js.old W _ nW g1
      have c' : Ch Hf W (xs ++ [.ref o]) (upd Hf W (.lst (xs ++ [.ref o]))) := Ch.mk'
      refine ⟨eW, ws ++ [⟨l1', l2', (nm', dm)⟩], t20, upd_same, ?_, by rw [List.length_append, g3]; rfl, fun x hx => ?_, (Ce.same nf.sm).ch c' (Ne.symm nW), by trivial, by trivial, (g8.trans js).up hW⟩
      · rw [List.map_append]
        refine all_snoc c' eW (g2.tupS js) ?_
        exact .tup nf.at' (.cons (.str _) (.cons (.str _) (.cons (isF (p := (nm', dm)) (nf.sm _ _ em)) .nil)))
      · rcases List.mem_append.mp hx with q | q
        · exact g4 x q
        · rw [List.mem_singleton.mp q]; exact ⟨ml, ms, fm, em0⟩
    rintro G1 xs ⟨ws, t17, eW, iW, lW, cW, BG1, h17a, h17b, g1⟩
    have nW : ¬ W = b := fun z => BG.ne hW z.symm
    have lxs : xs.length ≤ 6 := by trivial
    have t17a : t ≤ t17 ∧ t17 ≤ t + 580 := by trivial
    clear m20 m21 lW h17a h17b t16m t16a
    refine nL _ _ ?_
    have hm1 := g1.old mn _ nmb hm
    refine seqA fun DM nM => ?_
    refine ⟨_, rfl, mn, _, _, _, rfl, rfl, SqL.of hm1, rfl, _, rfl, by trivial, by trivial, fun V' hV => comp_each (n := m3.toNat) (fun i H' xs => Ex2 fun (ws : List WE) (t' : Int) => H' V' = some (.lst xs) ∧ IsAll ED H' xs (ws.map weD) ∧ xs.length = i ∧ (∀ x ∈ ws, WEC 1 ls ss x) ∧ Bx H' b t' ∧ t17 ≤ t' ∧ t' ≤ t17 + 8 * i ∧ SameE (Eb b) G1 H') ?_ ?_ ?_ ?_ ?_ ?_ ?_⟩
    · rw [sizeLine_eq]; trivial
    · exact ⟨[], t17, upd_same, .nil, rfl, fun h hh => (by cases hh), BG1.same (Same.new hV), by trivial, by trivial, (Same.new hV).toE⟩
    · rintro i H' ys ⟨ws, t8, e, _, rfl, _⟩
      exact ⟨e, Nat.le_refl _⟩
    · intro i H' ys hi _
      exact hi
    · intro H' ys _
      exact Nat.le_refl _
    · have nW : ¬ V' = b := fun z => BG1.ne hV z.symm
      rintro i Ha xs x Hb hi ⟨ws, t17', g1', g2, g3, g4, g5, g6, g7, g8⟩ ⟨rfl, rfl⟩
      refine ⟨back1, _, rfl, _, rfl, b, pl, ls, t17', rfl, g5, by trivial, by trivial, g8.tup _ _ (g1.tup _ _ hplG), l1, by trivial, fun l1' t18 Hc ml jc Cc h18a h18b => ?_⟩
      refine ⟨_, rfl, _, rfl, b, st, ss, t18, rfl, Cc, by trivial, by trivial, jc.tup _ _ (g8.tup _ _ (g1.tup _ _ hstG)), q1, by trivial, fun l2' t19 Hd ms jd Cd h19a h19b => ?_⟩
      refine ⟨_, rfl, b, t19, rfl, Cd, by trivial, by trivial, fun om nm' dm t20 He je em fm em0 Ce h20a h20b => ⟨(by show 3 ≤ 10000; decide), fun o Hf nf => ?_⟩⟩
      have js := ((jc.trans jd).trans je).trans nf.sm.toE
      have eW := js.old V' _ nW g1'
      have c' : Ch Hf V' (xs ++ [.ref o]) (upd Hf V' (.lst (xs ++ [.ref o]))) := Ch.mk'
      refine ⟨eW, ws ++ [⟨l1', l2', (nm', dm)⟩], t20, upd_same, ?_, by rw [List.length_append, g3]; rfl, fun x hx => ?_, (Ce.same nf.sm).ch c' (Ne.symm nW), by trivial, by trivial, (g8.trans js).up hV⟩
      · rw [List.map_append]
        refine all_snoc c' eW (g2.tupS js) ?_
        exact .tup nf.at' (.cons (.str _) (.cons (.str _) (.cons (isF (p := (nm', dm)) (nf.sm _ _ em)) .nil)))
      · rcases List.mem_append.mp hx with q | q
        · exact g4 x q
        · rw [List.mem_singleton.mp q]; exact ⟨ml, ms, fm, em0⟩
    rintro G2 xs2 ⟨qs, t18, eV, iV, lV, cV, BG2, h18a, h18b, g2⟩
    have nV : ¬ V' = b := fun z => BG1.ne hV z.symm
    have lxs2 : xs2.length ≤ 5 := by trivial
    have t18a : t ≤ t18 ∧ t18 ≤ t + 620 := by trivial
    clear m30 m31 lV h18a h18b t17a
    refine nM _ _ ?_
    have g12 := g1.trans g2
    have lys : ys.length = ts.length := by rw [iD.length, List.length_map]
    have lzs : zs.length = us.length := by rw [iU.length, List.length_map]
    have lws : ws.length = xs.length := by rw [iW.length, List.length_map]
    have lqs : qs.length = xs2.length := by rw [iV.length, List.length_map]
    have hD2 := g12.old D _ nDb hD
    have hU2 := g12.old U _ nUb hU
    have iD2 := iD.tupS g12
    have iU2 := iU.tupS g12
    have hW2 := g2.old W _ nW eW
    have iW2 := iW.tupS g2
    refine seqP fun DN nN => ?_
    refine ⟨_, rfl, _, rfl, b, D, ys, _, 12, t18, _, _, rfl, BG2, by trivial, by trivial, nDb, hD2, iD2, wtL_map fun x hx => wt_pt lnc (cD x hx), by decide, by trivial, fun p1 j1 t19 G3 g3 j11 j12 hp1 BG3 h19a h19b => ?_⟩
    refine ⟨_, rfl, _, rfl, b, U, zs, _, 12, t19, _, _, rfl, BG3, by trivial, by trivial, nUb, g3.old U _ nUb hU2, iU2.tupS g3, wtL_map fun x hx => wt_tu lnc snc (cU x hx), by decide, by trivial, fun p2 j2 t20 G4 g4 j21 j22 hp2 BG4 h20a h20b => nN _ _ _ ?_⟩
    have g34 := g3.trans g4
    refine seqP fun DO nO => ?_
    refine ⟨_, rfl, _, rfl, b, W, xs, _, 8, t20, _, _, rfl, BG4, by trivial, by trivial, nW, g34.old W _ nW hW2, iW2.tupS g34, wtL_map fun x hx => wt_we lnc snc (cW x hx), by decide, by trivial, fun p3 j3 t21 G5 g5 j31 j32 hp3 BG5 h21a h21b => ?_⟩
    have g35 := g34.trans g5
    refine ⟨_, rfl, _, rfl, b, V', xs2, _, 8, t21, _, _, rfl, BG5, by trivial, by trivial, nV, g35.old V' _ nV eV, iV.tupS g35, wtL_map fun x hx => wt_we lnc snc (cV x hx), by decide, by trivial, fun p4 j4 t22 G6 g6 j41 j42 hp4 BG6 h22a h22b => nO _ _ _ ?_⟩
    have g26 := g35.trans g6
    have sEnd : SameE (Eb b) H G6 := (s06.trans sG).trans (g12.trans g26)
    have gG6 := g12.trans g26
    refine ⟨_, rfl, _, rfl, _, rfl, _, rfl, _, rfl, _, rfl, (by show 6 ≤ 10000; decide), fun v G7 n7 => ?_⟩
    have s7E := n7.sm
    have tk : ∀ {α : Type} {f : α → PyData} {xs : List V} {ds : List α} {j : Nat}, IsAll ED G7 xs (ds.map f) → IsAll ED G7 (xs ++ xs.take j) ((ds ++ ds.take j).map f) := fun {α f xs ds j} h => by
      rw [List.map_append, List.map_take]
      exact h.append (h.take j)
    have mem : ∀ {α : Type} {p : α → Prop} {ds : List α} {j : Nat}, (∀ x ∈ ds, p x) → ∀ x ∈ ds ++ ds.take j, p x := fun {α p ds j} h x hx => (List.mem_append.mp hx).elim (h x) fun z => h x (List.mem_of_mem_take z)
    have hD7 := (iD.tupS gG6).mono s7E.toE
    have hU7 := (iU.tupS gG6).mono s7E.toE
    have hW7 := (iW2.tupS g26).mono s7E.toE
    have hV7 := (iV.tupS g26).mono s7E.toE
    have ret := k (.ref v) ls ss (ts ++ ts.take j1) (us ++ us.take j2) (ws ++ ws.take j3) (qs ++ qs.take j4) t22 G7 (sEnd.trans s7E.toE) ?_ ⟨l1, l6, q1, q4, lnd, snd, lnc, snc, ?_, ?_, ?_, ?_, mem cD, mem cU, mem cW, mem cV⟩ (BG6.same s7E) (by trivial) (by trivial)
    · exact ret
    · exact .tup n7.at' (.cons (.tup (s7E _ _ (gG6.tup _ _ hplG)) (isStrs ls)) (.cons (.tup (s7E _ _ (gG6.tup _ _ hstG)) (isStrs ss)) (.cons (.tup (s7E _ _ (((g4.trans g5).trans g6).tup _ _ hp1)) (tk hD7)) (.cons (.tup (s7E _ _ ((g5.trans g6).tup _ _ hp2)) (tk hU7)) (.cons (.tup (s7E _ _ (g6.tup _ _ hp3)) (tk hW7)) (.cons (.tup (s7E _ _ hp4) (tk hV7)) .nil))))))
    all_goals
      rw [List.length_append, List.length_take]
      trivial
end
end K46
namespace K46
open PySem L2
theorem for_enumK {K : PySem.W.Frag} {a : Addr} {c : Bool} {xs : List V} {g : TG} {tb : TS} {D : Ends} {σ : St} {H : Hp} (Pv : Nat → St → Hp → Prop) (h0 : Pv 0 σ H) (hl : ∀ i σ H, i ≤ xs.length → Pv i σ H → SqC K H a xs c)
    (hs : ∀ i x T σ H, xs[i]? = some x → H T = none → Pv i σ H → g (.ref T) σ (upd H T (.tup [.int (i : Int), x])) fun σ2 H2 => tb { D with nx := Pv (i + 1), ct := Pv (i + 1), bk := D.nx } σ2 H2) (hd : ∀ σ H, Pv xs.length σ H → D.nx σ H) :
    ∃ W : Nat → Nat → St → Hp → Prop, (∃ m, W 0 m σ H) ∧ ∀ i m σ H, W i m σ H →
      ((IteK K a c).stop i H ∧ D.nx σ H) ∨ ((IteK K a c).go i H ∧ ∃ N : St → Hp → Prop, (∀ σ' H', N σ' H' → ∃ m', m' < m ∧ W (i + 1) m' σ' H') ∧ ∀ x H', (IteK K a c).yld i H x H' → g x σ H' fun σ2 H2 => tb { D with nx := N, ct := N, bk := D.nx } σ2 H2) := by
  refine ⟨fun i m σ H => m = xs.length - i ∧ i ≤ xs.length ∧ Pv i σ H, ⟨xs.length, by simp, Nat.zero_le _, h0⟩, ?_⟩
  rintro i m σ H ⟨rfl, hi, p⟩
  have q1 := hl i σ H hi p
  by_cases hlt : i < xs.length
  · refine .inr ⟨⟨xs, xs[i], q1, by simp [hlt]⟩, Pv (i + 1), fun σ' H' p' => ⟨xs.length - (i + 1), by trivial, rfl, hlt, p'⟩, fun x H' y => ?_⟩
    obtain ⟨T, u, hT, rfl, rfl, e1⟩ := y
    exact hs i u T σ H (e1 xs q1) hT p
  · have e : i = xs.length := by trivial
    subst e
    exact .inl ⟨⟨xs, q1, rfl⟩, hd _ _ p⟩
def kid (d : PyData) (i : Nat) : Option PyData := match d with
  | .list ds => ds[i]?
  | .tuple ds => ds[i]?
  | _ => none
def okP : List Nat → PyData → Prop
  | [], _ => True
  | i :: r, d => ∃ e, kid d i = some e ∧ okP r e
theorem Wg.kid {z : Nat} {d e : PyData} {n k i : Nat} (h : Wg z d n k) (hk : kid d i = some e) : ∃ l, l + 1 ≤ k ∧ Wg z e n l := by
  cases h with
  | @list xs m l _ _ h hn hk' => exact ⟨l, hk', (h.get hk).up (by trivial) (Nat.le_refl _)⟩
  | @tuple xs m l _ _ h hn hk' => exact ⟨l, hk', (h.get hk).up (by trivial) (Nat.le_refl _)⟩
  | _ => cases hk
theorem okP_len {z : Nat} : ∀ {r : List Nat} {d : PyData} {n k : Nat}, Wg z d n k → okP r d → r.length ≤ k
  | [], _, _, _, _, _ => Nat.zero_le _
  | i :: r, d, n, k, h, ⟨e, h1, h2⟩ => by
    obtain ⟨l, hl, w⟩ := Wg.kid h h1
    have := okP_len w h2
    simp; trivial
def Ways (E : Addr → Prop) (H : Hp) (pre : List Nat) (d : PyData) (xs : List V) : Prop := ∀ v ∈ xs, Ex2 fun q r => v = .ref q ∧ ¬ E q ∧ H q = some (.lst (nts (pre ++ r))) ∧ okP r d
theorem Ways.sm {E : Addr → Prop} {H H' : Hp} {pre : List Nat} {d : PyData} {xs : List V} (h : Ways E H pre d xs) (s : Same H H') : Ways E H' pre d xs := fun v hv => by
  obtain ⟨q, r, e, ne, hq, ok⟩ := h v hv
  exact ⟨q, r, e, ne, s _ _ hq, ok⟩
theorem IsD.split {F : Addr → Prop} {H : Hp} {x : V} {d : PyData} (h : IsD F H x d) : isSeqB d = false ∨ (isSeqB d = true ∧ Ex4 fun (o : Addr) (c : Bool) (ys : List V) (ds : List PyData) => x = .ref o ∧ (∀ K H', Same H H' → SqC K H' o ys c) ∧ IsAll F H ys ds ∧ (∀ i, kid d i = ds[i]?) ∧ ∀ z N k, Wg z d N k → Ex2 fun m l => WgL z ds m l ∧ m + 1 ≤ N ∧ l + 1 ≤ k) := by
  cases h with
  | @lst o ys ds h ne r => exact .inr ⟨rfl, o, true, ys, ds, rfl, fun K H' s => SqL.of (s _ _ h), r, fun _ => rfl, fun z N k w => by cases w with | list h1 h2 h3 => exact ⟨_, _, h1, h2, h3⟩⟩
  | @tup o ys ds h r => exact .inr ⟨rfl, o, false, ys, ds, rfl, fun K H' s => SqT.of (s _ _ h), r, fun _ => rfl, fun z N k w => by cases w with | tuple h1 h2 h3 => exact ⟨_, _, h1, h2, h3⟩⟩
  | _ => exact .inl rfl
theorem WgL.pre {z : Nat} {xs : List PyData} {n k : Nat} (h : WgL z xs n k) : ∃ f : Nat → Nat, f 0 = 0 ∧ (∀ i, f i ≤ n) ∧ ∀ i d, xs[i]? = some d → ∃ m, Wg z d m k ∧ f i + m ≤ f (i + 1) := by
  induction xs generalizing n with
  | nil => exact ⟨fun _ => 0, rfl, fun _ => Nat.zero_le _, fun i d e => by simp at e⟩
  | cons x r ih =>
    cases h with
    | @cons _ _ m l _ _ h g hn =>
    obtain ⟨f, f0, f1, f2⟩ := ih g
    refine ⟨fun i => match i with | 0 => 0 | i + 1 => m + f i, rfl, fun i => ?_, fun i d e => ?_⟩
    · cases i with
      | zero => exact Nat.zero_le _
      | succ i => have := f1 i; show m + f i ≤ n; trivial
    · cases i with
      | zero =>
        simp at e; subst e
        exact ⟨m, h, by show 0 + m ≤ m + f 0; trivial⟩
      | succ i =>
        obtain ⟨m', w, q⟩ := f2 i d (by simpa using e)
        exact ⟨m', w, by show m + f i + m' ≤ m + f (i + 1); trivial⟩
section
variable {P : Program} {w : World} {K : PySem.W.Frag} {mg : Str → Option Value} {base : Heap}
inductive spPaths_ (n : Nat) (vs : List V) (H : Hp) (Q : VK) : Prop
  | mk (x : V) (p : Addr) (d : PyData) (E F : Addr → Prop) (pre : List Nat) (z N k : Nat) (h0 : vs = [x, .ref p]) (h1 : IsD F H x d) (h2 : H p = some (.lst (nts pre))) (h3 : Al E H) (h4 : ¬ E p) (h5 : Wg z d N k) (h6 : k + 1 ≤ n) (h7 : N ≤ 5000) (h8 : pre.length + k ≤ 100) (h9 : ∀ D xs H', Same H H' → H D = none → H' D = some (.lst xs) → Ways E H' pre d xs → 1 ≤ xs.length → xs.length ≤ N → Q (.ref D) H')
def spPaths (n : Nat) : Sp := fun vs H Q _ => spPaths_ n vs H Q
theorem ok_paths (T : Txt K mg) : ∀ n, FnOk P w K mg base CX0 (n + 1) T.f_l_paths_in T.d_l_paths_in ["_law_thing", "_law_path"] (spPaths n) := by
  intro n
  induction n with
  | zero =>
    refine T.F_l_paths_in.ok sc_l_paths_in (fun vs H Q E h => ?_) (fun cdv A outer s H vs Q E hr h => ?_)
    · obtain ⟨_, _, _, _, _, _, _, _, _, _, _, _, _, _, _, z, _⟩ := h
      trivial
    · obtain ⟨_, _, _, _, _, _, _, _, _, _, _, _, _, _, _, z, _⟩ := h
      trivial
  | succ n G_l_paths_in =>
  refine T.F_l_paths_in.ok sc_l_paths_in (fun vs H Q E h => ?_) (fun cdv A outer s H vs Q E hr h => ?_)
  · obtain ⟨_, _, _, _, _, _, _, _, _, rfl, _⟩ := h
    rfl
  · obtain ⟨x, p, d, E', F, pre, z, N, k, rfl, hx, hp, hal, hnp, wg, hkn, hN, hpk, K'⟩ := h
    refine ⟨_, (@pss_cons _ _ _ _ _ (@ps_set _ _ (2) _ _ _ _ sc_l_paths_in.nd rfl (Or.inl k_l_paths_in_l_found) (@pe_lstA _ _ _ _ (@pa_c _ _ _ _ _ (@pw _ 1 _ _ (Or.inl k_l_paths_in_l_path) (by rfl) (by decide) (by decide)) (@pa_nil _) rfl)) (by rfl) (by first | exact .inl rfl | exact .inr rfl | assumption)) (@pss_cons _ _ _ _ _ (@ps_if _ _ _ _ _ _ _ _ (@pt_val _ _ _ (@pe_callB _ _ _ _ _ _ _ _ _ (@isinstT_k _ (K) (by rfl)) k_l_paths_in_isinstance T.b_isinstance (@boot_b_isinstance) (@pa_c _ _ _ _ _ (@pw _ 0 _ _ (Or.inl k_l_paths_in_l_thing) (by rfl) (by decide) (by decide)) (@pa_c _ _ _ _ _ (@pe_tupA _ _ _ _ _ (@pa_c _ _ _ _ _ (@pe_ty _ _ _ _ k_l_paths_in_list T.b_list (@boot_ty_list) (by decide) (by decide)) (@pa_c _ _ _ _ _ (@pe_ty _ _ _ _ k_l_paths_in_tuple T.b_tuple (@boot_ty_tuple) (by decide) (by decide)) (@pa_nil _) rfl) rfl)) (@pa_nil _) rfl) rfl) (by decide) (by decide) (by rfl) (by rfl)) (by intro _; rfl)) (@pss_one _ _ _ (@ps_for _ _ _ _ _ _ _ _ PassesOwn.never rfl (@pi_enumK _ (K) _ _ _ _ _ _ _ k_l_paths_in_enumerate T.b_enumerate (@pa_c _ _ _ _ _ (@pw _ 0 _ _ (Or.inl k_l_paths_in_l_thing) (by rfl) (by decide) (by decide)) (@pa_nil _) rfl) (by rfl) (by rfl)) (@pg_tup_k _ (K) _ _ _ _ (2) rfl (@pgs_cons _ _ _ _ _ (@pg_name _ _ (3) _ sc_l_paths_in.nd rfl (Or.inl k_l_paths_in_l_k) (by first | exact .inl rfl | exact .inr rfl | assumption)) (@pgs_cons _ _ _ _ _ (@pg_name _ _ (4) _ sc_l_paths_in.nd rfl (Or.inl k_l_paths_in_l_one) (by first | exact .inl rfl | exact .inr rfl | assumption)) (@pgs_nil _) (by rfl)) (by rfl)) (by rfl) (by rfl) (by rfl)) (@pss_one _ _ _ (@ps_set _ _ (2) _ _ _ _ sc_l_paths_in.nd rfl (Or.inl k_l_paths_in_l_found) (@pe_op _ _ _ _ _ _ _ _ (@op_catA _) (@pw _ 2 _ _ (Or.inl k_l_paths_in_l_found) (by rfl) (by decide) (by decide)) (@pe_call _ _ _ _ _ _ _ _ _ _ _ _ _ _ _ _ G_l_paths_in (hr.mono (by trivial)) k_l_paths_in_l_paths_in T.m_l_paths_in T.F_l_paths_in.kp T.B_l_paths_in .nil (@pass0 _) (@pa_c _ _ _ _ _ (@pw _ 4 _ _ (Or.inl k_l_paths_in_l_one) (by rfl) (by decide) (by decide)) (@pa_c _ _ _ _ _ (@pe_op _ _ _ _ _ _ _ _ (@op_catA _) (@pw _ 1 _ _ (Or.inl k_l_paths_in_l_path) (by rfl) (by decide) (by decide)) (@pe_lstA _ _ _ _ (@pa_c _ _ _ _ _ (@pw _ 3 _ _ (Or.inl k_l_paths_in_l_k) (by rfl) (by decide) (by decide)) (@pa_nil _) rfl))) (@pa_nil _) rfl) rfl) (by decide) (by rfl) (by rfl))) (by rfl) (by first | exact .inl rfl | exact .inr rfl | assumption))) (by intro _; rfl))) (@pss_nil _)) (@pss_one _ _ _ (@ps_ret _ _ _ _ (@pw _ 2 _ _ (Or.inl k_l_paths_in_l_found) (by rfl) (by decide) (by decide)))))), ?_⟩
    refine ⟨_, rfl, (by show 1 ≤ 10000; decide), fun D H1 n1 => ?_⟩
    refine ⟨_, rfl, (by show 2 ≤ 10000; decide), fun o2 H2 n2 => ?_⟩
    have s2 := n1.sm.trans n2.sm
    have e2 : H2 D = some (.lst [.ref p]) := n2.sm _ _ n1.at'
    have p2 := s2 _ _ hp
    have W0 : Ways E' H2 pre d [.ref p] := fun v hv => ⟨p, [], List.mem_singleton.mp hv, hnp, by rw [List.append_nil]; exact p2, trivial⟩
    refine ⟨x, o2, d, F, rfl, hx.mono s2.toE, SqT.of n2.at', _, rfl, ?_⟩
    rcases IsD.split hx with hs | ⟨hs, o, c, ys, ds, rfl, sq, r, hkid, hw⟩
    · rw [hs]
      exact iteF ⟨_, rfl, K' D _ H2 s2 n1.fr e2 W0 (Nat.le_refl _) wg.pos⟩
    · rw [hs]
      obtain ⟨m, l, wl, hm, hl⟩ := hw z N k wg
      obtain ⟨f, f0, f1, f2⟩ := WgL.pre wl
      refine iteT ⟨_, rfl, o, c, rfl, ⟨ys, sq _ _ s2⟩, for_enumK (xs := ys) (fun i σ H' => Ex4 fun (v3 v4 : Option V) (D : Addr) (xs : List V) => σ = [some (.ref o), some (.ref p), some (.ref D), v3, v4] ∧ H D = none ∧ H' D = some (.lst xs) ∧ Same H H' ∧ Ways E' H' pre d xs ∧ 1 ≤ xs.length ∧ xs.length ≤ 1 + f i)
        ⟨_, _, _, _, rfl, n1.fr, e2, s2, W0, Nat.le_refl _, by rw [f0]; exact Nat.le_refl _⟩ ?_ ?_ ?_⟩
      · rintro i σ H' _ ⟨_, _, _, _, _, _, _, sm, _⟩
        exact sq _ _ sm
      · rintro i x T σ H3 hxi hT ⟨v3, v4, D, xs, rfl, hD, e3, sm, wy, l1, l2⟩
        obtain ⟨du, g1, g2⟩ := r.get hxi
        obtain ⟨mu, wu, hfu⟩ := f2 i du g1
        have s4 : Same H (upd H3 T (.tup [.int (i : Int), x])) := sm.trans (Same.new hT)
        have n4 : Nw H3 T (.tup [.int (i : Int), x]) (upd H3 T (.tup [.int (i : Int), x])) := .mk' hT
        generalize upd H3 T (.tup [.int (i : Int), x]) = H4 at s4 n4 ⊢
        have e4 : H4 D = some (.lst xs) := n4.sm _ _ e3
        refine ⟨T, _, rfl, SqT.of n4.at', rfl, _, _, rfl, _, _, rfl, rfl, ?_⟩
        refine ⟨_, rfl, _, rfl, _, rfl, _, rfl, (by show 1 ≤ 10000; decide), fun o5 H5 n5 => ⟨p, o5, _, _, rfl, rfl, (s4.trans n5.sm) _ _ hp, n5.at', (by rw [List.length_map]; show pre.length + 1 ≤ 10000; trivial), fun o6 H6 n6 => ?_⟩⟩
        have s46 := n5.sm.trans n6.sm
        have s06 := s4.trans s46
        refine ⟨x, o6, du, E', F, pre ++ [i], z, mu, l, rfl, g2.mono s06.toE, ?_, hal.sm s06, (hal.sm (s4.trans n5.sm)).ne n6.fr, wu, by trivial, by have := f1 (i + 1); trivial, by rw [List.length_append]; show pre.length + 1 + l ≤ 100; trivial, fun D7 zs H7 s7 hD7 e7 w7 h71 h72 => ?_⟩
        · have := n6.at'
          rw [this, show nts (pre ++ [i]) = nts pre ++ [V.int (i : Int)] from List.map_append]
        have e7D := (s46.trans s7) _ _ e4
        have hf1 := f1 (i + 1)
        refine ⟨D, D7, xs, zs, rfl, rfl, e7D, e7, by trivial, fun D8 H8 n8 => ?_⟩
        have s07 := s06.trans s7
        refine ⟨_, _, D8, xs ++ zs, rfl, s07.free n8.fr, n8.at', s07.trans n8.sm, fun v hv => ?_, by rw [List.length_append]; trivial, by rw [List.length_append]; trivial⟩
        rcases List.mem_append.mp hv with hv | hv
        · exact (wy.sm (((n4.sm.trans s46).trans s7).trans n8.sm)) v hv
        · obtain ⟨q, r', e, ne, hq, ok⟩ := w7 v hv
          refine ⟨q, i :: r', e, ne, ?_, du, (hkid i).trans g1, ok⟩
          have q1 := n8.sm _ _ hq
          rw [List.append_assoc] at q1
          exact q1
      · rintro σ H3 ⟨v3, v4, D, xs, rfl, hD, e3, sm, wy, l1, l2⟩
        have := f1 ys.length
        exact ⟨_, rfl, K' D xs H3 sm hD e3 wy l1 (by trivial)⟩
end
end K46
namespace K46
open PySem L2
set_option maxHeartbeats 4000000
theorem sz_up {z : Nat} {i j : Int} (h : Sz (200 + z) i) (hj : j.natAbs ≤ i.natAbs + 4 ∨ j.natAbs ≤ 2 * i.natAbs) : Sz (200 + (z + 1)) j := by
  have h1 : i.natAbs < 2 ^ (200 + z) := h
  have h2 : 2 ^ (200 + (z + 1)) = 2 * 2 ^ (200 + z) := by rw [show 200 + (z + 1) = (200 + z) + 1 from by trivial, Nat.pow_succ, Nat.mul_comm]
  have h3 : 2 ^ 200 ≤ 2 ^ (200 + z) := Nat.pow_le_pow_right (by decide) (by trivial)
  have h4 : 8 ≤ 2 ^ 200 := by decide +kernel
  show j.natAbs < 2 ^ (200 + (z + 1))
  rw [h2]
  generalize 2 ^ (200 + z) = A at h1 h3 ⊢
  generalize 2 ^ 200 = B at h3 h4
  trivial
theorem sz_lit {z : Nat} (i : Int) (h : i.natAbs < 2 ^ 100) : Sz (200 + z) i := by
  show i.natAbs < 2 ^ (200 + z)
  exact Nat.lt_of_lt_of_le h (Nat.pow_le_pow_right (by decide) (by trivial))
theorem dtS {z n k L : Nat} {E : Addr → Prop} {H : Hp} {c : Str} (h : txt L c) (hL : L + 1 ≤ 4 ^ (z + 1)) : Dt (z + 1) E H (.str c) (n + 1) k := Dt.str (by have := h.1; trivial) h.2
theorem txa : txt 1 (Str.ofString "a") := ⟨by decide +kernel, by decide +kernel⟩
theorem txx : txt 1 (Str.ofString "x") := ⟨by decide +kernel, by decide +kernel⟩
theorem txb : txt 1 (Str.ofString " ") := ⟨by decide +kernel, by decide +kernel⟩
theorem tx0 : txt 1 (Str.ofString "") := ⟨by decide +kernel, by decide +kernel⟩
theorem txz : txt 9 (Str.ofString "zzzzzzzzz") := ⟨by decide +kernel, by decide +kernel⟩
inductive Kind4 (z N k : Nat) (E : Addr → Prop) (H : Hp) (x : V) (d : PyData) : Prop
  | small (h1 : isBoolB d = true ∨ (isBoolB d = false ∧ isBigB d = false)) (h : Dt z E H x 1 0)
  | int (i : Int) (e : x = .int i) (e' : d = .int i) (h : Sz (200 + z) i)
  | str (y : Str) (e : x = .str y) (e' : d = .str y) (h : y.length + 1 ≤ 4 ^ z) (hc : ∀ c ∈ y.cps.toList, c < 128)
  | seq (o : Addr) (c : Bool) (ys : List V) (m l : Nat) (e : x = .ref o) (hb : isBoolB d = false) (hg : isBigB d = true) (hi : isIntB d = false) (hs : isStrB d = false) (ht : isTupB d = (!c)) (hl : isLstB d = c) (ob : ∀ H', SameE E H H' → Ob c H' o ys) (ds : Ds z E H ys m l) (hm : m + 1 ≤ N) (hk : l + 1 ≤ k)
theorem kind4 {z N k : Nat} {E : Addr → Prop} {H : Hp} {x : V} {d : PyData} (h : IsD E H x d) (w : Wg z d N k) : Kind4 z N k E H x d := by
  cases h with
  | non => exact .small (.inr ⟨rfl, rfl⟩) Dt.non
  | bl b => exact .small (.inl rfl) (Dt.bl b)
  | int i => cases w with | int h1 h2 => exact .int i rfl rfl h1
  | str y => cases w with | str h1 h2 h3 => exact .str y rfl rfl h1 h2
  | @lst o ys ds h ne r => cases w with | list h1 h2 h3 => exact .seq o true ys _ _ rfl rfl rfl rfl rfl rfl rfl (fun H' s => s.old _ _ ne h) ⟨ds, r, h1⟩ h2 h3
  | @tup o ys ds h r => cases w with | tuple h1 h2 h3 => exact .seq o false ys _ _ rfl rfl rfl rfl rfl rfl rfl (fun H' s => s.tup _ _ h) ⟨ds, r, h1⟩ h2 h3
theorem obDt {c : Bool} {z n k : Nat} {E : Addr → Prop} {J : Hp} {u : Addr} {zs : List V} (h : Ob c J u zs) (ne : c = true → ¬ E u) (g : Ds z E J zs n k) : Dt z E J (.ref u) (n + 1) (k + 1) := by
  cases c with
  | true => exact Dt.lst h (ne rfl) g
  | false => exact Dt.tup h g
theorem obSq {K : PySem.W.Frag} {c : Bool} {J : Hp} {o : Addr} {ys : List V} (h : Ob c J o ys) : SqL K J o ys ∨ SqT K J o ys := by
  cases c with
  | true => exact .inl (SqL.of h)
  | false => exact .inr (SqT.of h)
section
variable {P : Program} {w : World} {K : PySem.W.Frag} {mg : Str → Option Value} {base : Heap}
inductive spBent_ (vs : List V) (H : Hp) (Q : VK) : Prop
  | mk (b : Addr) (x : V) (t : Int) (E : Addr → Prop) (z N k : Nat) (h0 : vs = [.ref b, x]) (h1 : Bx H b t) (h2 : 0 ≤ t) (h3 : t ≤ 900000) (h4 : E b) (h5 : Al E H) (h6 : Dt z E H x N k) (h7 : 2 ≤ z) (h8 : z ≤ 3) (h9 : N ≤ 1500) (h10 : k ≤ 20) (h11 : ∀ y t' H', SameE (Eb b) H H' → Dt (z + 1) E H' y (3 * N + 10) (k + 2) → Bx H' b t' → t ≤ t' → t' ≤ t + 3 → Q y H')
def spBent : Sp := fun vs H Q _ => spBent_  vs H Q
theorem ok_odd (T : Txt K mg) : FnOk P w K mg base CX0 2 T.f_l_odd_by T.d_l_odd_by ["_law_box_here", "_law_thing"] spBent := by
  have G_l_take := ok_take (P := P) (w := w) (base := base) T
  refine T.F_l_odd_by.ok sc_l_odd_by (fun vs H Q E h => ?_) (fun cdv A outer s H vs Q E hr h => ?_)
  · obtain ⟨b, x, t, E', z, N, k, rfl, _⟩ := h
    rfl
  · obtain ⟨b, x, t, E', z, N, k, rfl, B, ht0, ht1, hEb, hal, hx0, hz2, hz, hN, hk, K'⟩ := h
    refine ⟨_, (@pss_cons _ _ _ _ _ (@ps_par _ _ (2) (3) _ _ _ _ _ _ _ _ _ _ _ rfl sc_l_odd_by.nd rfl rfl (by decide) k_l_odd_by_l_way k_l_odd_by_l_at (@pa_c _ _ _ _ _ (@pe_call _ _ _ _ _ _ _ _ _ _ _ _ _ _ _ _ G_l_take (hr.mono (by decide)) k_l_odd_by_l_take T.m_l_take T.F_l_take.kp T.B_l_take .nil (@pass0 _) (@pa_c _ _ _ _ _ (@pw _ 0 _ _ (Or.inl k_l_odd_by_l_box_here) (by rfl) (by decide) (by decide)) (@pa_c _ _ _ _ _ (@pe_int _ _ _ _) (@pa_nil _) rfl) rfl) (by decide) (by rfl) (by rfl)) (@pa_c _ _ _ _ _ (@pe_call _ _ _ _ _ _ _ _ _ _ _ _ _ _ _ _ G_l_take (hr.mono (by decide)) k_l_odd_by_l_take T.m_l_take T.F_l_take.kp T.B_l_take .nil (@pass0 _) (@pa_c _ _ _ _ _ (@pw _ 0 _ _ (Or.inl k_l_odd_by_l_box_here) (by rfl) (by decide) (by decide)) (@pa_c _ _ _ _ _ (@pe_int _ _ _ _) (@pa_nil _) rfl) rfl) (by decide) (by rfl) (by rfl)) (@pa_nil _) rfl) rfl) (by kernel_rfl) (by rfl)) (@pss_cons _ _ _ _ _ (@ps_if _ _ _ _ _ _ _ _ (@PW.pt _ _ _ (@pw_or _ _ _ _ _ _ _ (@pt_val _ _ _ (@pe_callB _ _ _ _ _ _ _ _ _ (@isinst_k _ (K) (by rfl)) k_l_odd_by_isinstance T.b_isinstance (@boot_b_isinstance) (@pa_c _ _ _ _ _ (@pw _ 1 _ _ (Or.inl k_l_odd_by_l_thing) (by rfl) (by decide) (by decide)) (@pa_c _ _ _ _ _ (@pe_ty _ _ _ _ k_l_odd_by_bool T.b_bool (@boot_ty_bool) (by decide) (by decide)) (@pa_nil _) rfl) rfl) (by decide) (by decide) (by rfl) (by rfl)) (by intro _; rfl)) (@pw_or1 _ _ _ _ (@pt_not _ _ _ _ (@pt_val _ _ _ (@pe_callB _ _ _ _ _ _ _ _ _ (@isinstF _ (K) (by rfl)) k_l_odd_by_isinstance T.b_isinstance (@boot_b_isinstance) (@pa_c _ _ _ _ _ (@pw _ 1 _ _ (Or.inl k_l_odd_by_l_thing) (by rfl) (by decide) (by decide)) (@pa_c _ _ _ _ _ (@pe_tupA _ _ _ _ _ (@pa_c _ _ _ _ _ (@pe_ty _ _ _ _ k_l_odd_by_int T.b_int (@boot_ty_int) (by decide) (by decide)) (@pa_c _ _ _ _ _ (@pe_ty _ _ _ _ k_l_odd_by_str T.b_str (@boot_ty_str) (by decide) (by decide)) (@pa_c _ _ _ _ _ (@pe_ty _ _ _ _ k_l_odd_by_list T.b_list (@boot_ty_list) (by decide) (by decide)) (@pa_c _ _ _ _ _ (@pe_ty _ _ _ _ k_l_odd_by_tuple T.b_tuple (@boot_ty_tuple) (by decide) (by decide)) (@pa_nil _) rfl) rfl) rfl) rfl)) (@pa_nil _) rfl) rfl) (by decide) (by decide) (by rfl) (by rfl)) (by intro _; rfl)))))) (@pss_one _ _ _ (@ps_ret _ _ _ _ (@pe_ix _ _ _ _ _ _ _ (@ixL_k _ (K) (by rfl)) (@pe_lstA _ _ _ _ (@pa_c _ _ _ _ _ (@pe_int _ _ _ _) (@pa_c _ _ _ _ _ (@pe_non _ _ _) (@pa_c _ _ _ _ _ (@pe_str _ _ _ _) (@pa_c _ _ _ _ _ (@pe_tupA _ _ _ _ _ (@pa_nil _)) (@pa_c _ _ _ _ _ (@pe_lstA _ _ _ _ (@pa_nil _)) (@pa_c _ _ _ _ _ (@pe_bl _ _ _ _) (@pa_c _ _ _ _ _ (@pe_int _ _ _ _) (@pa_c _ _ _ _ _ (@pe_tupA _ _ _ _ _ (@pa_c _ _ _ _ _ (@pe_int _ _ _ _) (@pa_c _ _ _ _ _ (@pe_int _ _ _ _) (@pa_nil _) rfl) rfl)) (@pa_c _ _ _ _ _ (@pe_lstA _ _ _ _ (@pa_c _ _ _ _ _ (@pw _ 1 _ _ (Or.inl k_l_odd_by_l_thing) (by rfl) (by decide) (by decide)) (@pa_nil _) rfl)) (@pa_c _ _ _ _ _ (@pe_bl _ _ _ _) (@pa_c _ _ _ _ _ (@pe_un _ _ _ _ _ _ (@un_neg _) (@pe_int _ _ _ _)) (@pa_c _ _ _ _ _ (@pe_str _ _ _ _) (@pa_nil _) rfl) rfl) rfl) rfl) rfl) rfl) rfl) rfl) rfl) rfl) rfl) rfl)) (@pw _ 2 _ _ (Or.inl k_l_odd_by_l_way) (by rfl) (by decide) (by decide)) (fun _ _ => rfl)))) (@pss_nil _)) (@pss_cons _ _ _ _ _ (@ps_if _ _ _ _ _ _ _ _ (@pt_val _ _ _ (@pe_callB _ _ _ _ _ _ _ _ _ (@isinst_k _ (K) (by rfl)) k_l_odd_by_isinstance T.b_isinstance (@boot_b_isinstance) (@pa_c _ _ _ _ _ (@pw _ 1 _ _ (Or.inl k_l_odd_by_l_thing) (by rfl) (by decide) (by decide)) (@pa_c _ _ _ _ _ (@pe_ty _ _ _ _ k_l_odd_by_int T.b_int (@boot_ty_int) (by decide) (by decide)) (@pa_nil _) rfl) rfl) (by decide) (by decide) (by rfl) (by rfl)) (by intro _; rfl)) (@pss_cons _ _ _ _ _ (@ps_set _ _ (4) _ _ _ _ sc_l_odd_by.nd rfl (Or.inl k_l_odd_by_l_some) (@pe_lstA _ _ _ _ (@pa_c _ _ _ _ _ (@pe_op _ _ _ _ _ _ _ _ (@op_add _) (@pw _ 1 _ _ (Or.inl k_l_odd_by_l_thing) (by rfl) (by decide) (by decide)) (@pe_int _ _ _ _)) (@pa_c _ _ _ _ _ (@pe_op _ _ _ _ _ _ _ _ (@op_sub _) (@pw _ 1 _ _ (Or.inl k_l_odd_by_l_thing) (by rfl) (by decide) (by decide)) (@pe_int _ _ _ _)) (@pa_c _ _ _ _ _ (@pe_un _ _ _ _ _ _ (@un_neg _) (@pw _ 1 _ _ (Or.inl k_l_odd_by_l_thing) (by rfl) (by decide) (by decide))) (@pa_c _ _ _ _ _ (@pe_op _ _ _ _ _ _ _ _ (@op_mul _) (@pw _ 1 _ _ (Or.inl k_l_odd_by_l_thing) (by rfl) (by decide) (by decide)) (@pe_int _ _ _ _)) (@pa_c _ _ _ _ _ (@pe_int _ _ _ _) (@pa_c _ _ _ _ _ (@pe_int _ _ _ _) (@pa_c _ _ _ _ _ (@pe_cmpR _ _ _ _ _ _ _ _ (@op_eq _) (@pw _ 1 _ _ (Or.inl k_l_odd_by_l_thing) (by rfl) (by decide) (by decide)) (@pe_int _ _ _ _) (@nomark _ _ (by decide) (by decide))) (@pa_c _ _ _ _ _ (@pe_non _ _ _) (@pa_c _ _ _ _ _ (@pe_callTy _ _ _ _ _ _ _ _ _ (@call_str_int _) k_l_odd_by_str T.b_str (@boot_ty_str) (@pa_c _ _ _ _ _ (@pw _ 1 _ _ (Or.inl k_l_odd_by_l_thing) (by rfl) (by decide) (by decide)) (@pa_nil _) rfl) (by decide) (by decide) (by rfl) (by rfl)) (@pa_c _ _ _ _ _ (@pe_lstA _ _ _ _ (@pa_c _ _ _ _ _ (@pw _ 1 _ _ (Or.inl k_l_odd_by_l_thing) (by rfl) (by decide) (by decide)) (@pa_nil _) rfl)) (@pa_nil _) rfl) rfl) rfl) rfl) rfl) rfl) rfl) rfl) rfl) rfl)) (by rfl) (by first | exact .inl rfl | exact .inr rfl | assumption)) (@pss_one _ _ _ (@ps_ret _ _ _ _ (@pe_ix _ _ _ _ _ _ _ (@ixL_k _ (K) (by rfl)) (@pe_op _ _ _ _ _ _ _ _ (@op_catA _) (@pw _ 4 _ _ (Or.inl k_l_odd_by_l_some) (by rfl) (by decide) (by decide)) (@pe_lstA _ _ _ _ (@pa_c _ _ _ _ _ (@pe_op _ _ _ _ _ _ _ _ (@op_pow _) (@pe_int _ _ _ _) (@pe_int _ _ _ _)) (@pa_c _ _ _ _ _ (@pe_tupA _ _ _ _ _ (@pa_c _ _ _ _ _ (@pw _ 1 _ _ (Or.inl k_l_odd_by_l_thing) (by rfl) (by decide) (by decide)) (@pa_nil _) rfl)) (@pa_nil _) rfl) rfl))) (@pw _ 2 _ _ (Or.inl k_l_odd_by_l_way) (by rfl) (by decide) (by decide)) (fun _ _ => rfl))))) (@pss_nil _)) (@pss_cons _ _ _ _ _ (@ps_if _ _ _ _ _ _ _ _ (@pt_val _ _ _ (@pe_callB _ _ _ _ _ _ _ _ _ (@isinst_k _ (K) (by rfl)) k_l_odd_by_isinstance T.b_isinstance (@boot_b_isinstance) (@pa_c _ _ _ _ _ (@pw _ 1 _ _ (Or.inl k_l_odd_by_l_thing) (by rfl) (by decide) (by decide)) (@pa_c _ _ _ _ _ (@pe_ty _ _ _ _ k_l_odd_by_str T.b_str (@boot_ty_str) (by decide) (by decide)) (@pa_nil _) rfl) rfl) (by decide) (by decide) (by rfl) (by rfl)) (by intro _; rfl)) (@pss_cons _ _ _ _ _ (@ps_set _ _ (4) _ _ _ _ sc_l_odd_by.nd rfl (Or.inl k_l_odd_by_l_some) (@pe_lstA _ _ _ _ (@pa_c _ _ _ _ _ (@pe_op _ _ _ _ _ _ _ _ (@op_addT _) (@pw _ 1 _ _ (Or.inl k_l_odd_by_l_thing) (by rfl) (by decide) (by decide)) (@pe_str _ _ _ _)) (@pa_c _ _ _ _ _ (@pe_slice _ _ _ _ _ _ _ _ _ _ (@sl_str _) (@pw _ 1 _ _ (Or.inl k_l_odd_by_l_thing) (by rfl) (by decide) (by decide)) (@po_some _ _ _ (@pe_int _ _ _ _)) (@po_none _)) (@pa_c _ _ _ _ _ (@pe_str _ _ _ _) (@pa_c _ _ _ _ _ (@pe_bm0 _ _ _ _ _ _ _ _ _ PySem.F.plainAttrs_str PySem.F.slot_str_upper PySem.F.type_str_upper (@mt_upper _) (@pw _ 1 _ _ (Or.inl k_l_odd_by_l_thing) (by rfl) (by decide) (by decide)) (by rfl) (by rfl)) (@pa_c _ _ _ _ _ (@pe_op _ _ _ _ _ _ _ _ (@op_addT _) (@pe_slice _ _ _ _ _ _ _ _ _ _ (@sl_str _) (@pw _ 1 _ _ (Or.inl k_l_odd_by_l_thing) (by rfl) (by decide) (by decide)) (@po_none _) (@po_some _ _ _ (@pe_int _ _ _ _))) (@pe_ix _ _ _ _ _ _ _ (@ix_str _) (@pe_str _ _ _ _) (@pw _ 3 _ _ (Or.inl k_l_odd_by_l_at) (by rfl) (by decide) (by decide)) (fun _ _ => rfl))) (@pa_c _ _ _ _ _ (@pe_str _ _ _ _) (@pa_c _ _ _ _ _ (@pe_non _ _ _) (@pa_c _ _ _ _ _ (@pe_int _ _ _ _) (@pa_c _ _ _ _ _ (@pe_tupA _ _ _ _ _ (@pa_c _ _ _ _ _ (@pw _ 1 _ _ (Or.inl k_l_odd_by_l_thing) (by rfl) (by decide) (by decide)) (@pa_nil _) rfl)) (@pa_nil _) rfl) rfl) rfl) rfl) rfl) rfl) rfl) rfl) rfl)) (by rfl) (by first | exact .inl rfl | exact .inr rfl | assumption)) (@pss_cons _ _ _ _ _ (@ps_expr _ _ _ _ (@pe_bm_k _ (K) _ _ _ _ _ _ _ _ _ _ _ PySem.F.plainAttrs_list PySem.F.slot_list_append PySem.F.type_list_append (@mt_appendA _) (@pw _ 4 _ _ (Or.inl k_l_odd_by_l_some) (by rfl) (by decide) (by decide)) (@pa_c _ _ _ _ _ (@pe_str _ _ _ _) (@pa_nil _) rfl) (by rfl) (by rfl) (by rfl) (by rfl) (by rfl) (by rfl)) (by rfl)) (@pss_one _ _ _ (@ps_ret _ _ _ _ (@pe_ix _ _ _ _ _ _ _ (@ixL_k _ (K) (by rfl)) (@pe_op _ _ _ _ _ _ _ _ (@op_catA _) (@pw _ 4 _ _ (Or.inl k_l_odd_by_l_some) (by rfl) (by decide) (by decide)) (@pe_lstA _ _ _ _ (@pa_c _ _ _ _ _ (@pe_str _ _ _ _) (@pa_c _ _ _ _ _ (@pe_revX _ _ _ _ _ _ _ (@pw _ 1 _ _ (Or.inl k_l_odd_by_l_thing) (by rfl) (by decide) (by decide)) (@po_some _ _ _ (@pe_un _ _ _ _ _ _ (@un_neg _) (@pe_int _ _ _ _)))) (@pa_nil _) rfl) rfl))) (@pw _ 2 _ _ (Or.inl k_l_odd_by_l_way) (by rfl) (by decide) (by decide)) (fun _ _ => rfl)))))) (@pss_nil _)) (@pss_cons _ _ _ _ _ (@ps_set _ _ (5) _ _ _ _ sc_l_odd_by.nd rfl (Or.inl k_l_odd_by_l_k) (@pe_op _ _ _ _ _ _ _ _ (@op_mod _) (@pw _ 3 _ _ (Or.inl k_l_odd_by_l_at) (by rfl) (by decide) (by decide)) (@pe_op _ _ _ _ _ _ _ _ (@op_add _) (@pe_callB _ _ _ _ _ _ _ _ _ (@len_k _ (K) (by rfl)) k_l_odd_by_len T.b_len (@boot_b_len) (@pa_c _ _ _ _ _ (@pw _ 1 _ _ (Or.inl k_l_odd_by_l_thing) (by rfl) (by decide) (by decide)) (@pa_nil _) rfl) (by decide) (by decide) (by rfl) (by rfl)) (@pe_int _ _ _ _))) (by rfl) (by first | exact .inl rfl | exact .inr rfl | assumption)) (@pss_cons _ _ _ _ _ (@ps_par _ _ (6) (7) _ _ _ _ _ _ _ _ _ _ _ rfl sc_l_odd_by.nd rfl rfl (by decide) k_l_odd_by_l_ahead k_l_odd_by_l_behind (@pa_c _ _ _ _ _ (@pe_slice _ _ _ _ _ _ _ _ _ _ (@sl_X _) (@pw _ 1 _ _ (Or.inl k_l_odd_by_l_thing) (by rfl) (by decide) (by decide)) (@po_none _) (@po_some _ _ _ (@pw _ 5 _ _ (Or.inl k_l_odd_by_l_k) (by rfl) (by decide) (by decide)))) (@pa_c _ _ _ _ _ (@pe_slice _ _ _ _ _ _ _ _ _ _ (@sl_X _) (@pw _ 1 _ _ (Or.inl k_l_odd_by_l_thing) (by rfl) (by decide) (by decide)) (@po_some _ _ _ (@pw _ 5 _ _ (Or.inl k_l_odd_by_l_k) (by rfl) (by decide) (by decide))) (@po_none _)) (@pa_nil _) rfl) rfl) (by kernel_rfl) (by rfl)) (@pss_cons _ _ _ _ _ (@ps_set _ _ (4) _ _ _ _ sc_l_odd_by.nd rfl (Or.inl k_l_odd_by_l_some) (@pe_lstA _ _ _ _ (@pa_c _ _ _ _ _ (@pe_op _ _ _ _ _ _ _ _ (@op_catX _) (@pw _ 6 _ _ (Or.inl k_l_odd_by_l_ahead) (by rfl) (by decide) (by decide)) (@pe_slice _ _ _ _ _ _ _ _ _ _ (@sl_X _) (@pw _ 7 _ _ (Or.inl k_l_odd_by_l_behind) (by rfl) (by decide) (by decide)) (@po_some _ _ _ (@pe_int _ _ _ _)) (@po_none _))) (@pa_c _ _ _ _ _ (@pe_op _ _ _ _ _ _ _ _ (@op_catX _) (@pe_op _ _ _ _ _ _ _ _ (@op_catX _) (@pw _ 6 _ _ (Or.inl k_l_odd_by_l_ahead) (by rfl) (by decide) (by decide)) (@pe_slice _ _ _ _ _ _ _ _ _ _ (@sl_X _) (@pw _ 7 _ _ (Or.inl k_l_odd_by_l_behind) (by rfl) (by decide) (by decide)) (@po_none _) (@po_some _ _ _ (@pe_int _ _ _ _)))) (@pw _ 7 _ _ (Or.inl k_l_odd_by_l_behind) (by rfl) (by decide) (by decide))) (@pa_c _ _ _ _ _ (@pe_op _ _ _ _ _ _ _ _ (@op_catX _) (@pe_op _ _ _ _ _ _ _ _ (@op_catX _) (@pw _ 6 _ _ (Or.inl k_l_odd_by_l_ahead) (by rfl) (by decide) (by decide)) (@pe_revX _ _ _ _ _ _ _ (@pe_slice _ _ _ _ _ _ _ _ _ _ (@sl_X _) (@pw _ 7 _ _ (Or.inl k_l_odd_by_l_behind) (by rfl) (by decide) (by decide)) (@po_none _) (@po_some _ _ _ (@pe_int _ _ _ _))) (@po_some _ _ _ (@pe_un _ _ _ _ _ _ (@un_neg _) (@pe_int _ _ _ _))))) (@pe_slice _ _ _ _ _ _ _ _ _ _ (@sl_X _) (@pw _ 7 _ _ (Or.inl k_l_odd_by_l_behind) (by rfl) (by decide) (by decide)) (@po_some _ _ _ (@pe_int _ _ _ _)) (@po_none _))) (@pa_c _ _ _ _ _ (@pe_revX _ _ _ _ _ _ _ (@pw _ 1 _ _ (Or.inl k_l_odd_by_l_thing) (by rfl) (by decide) (by decide)) (@po_some _ _ _ (@pe_un _ _ _ _ _ _ (@un_neg _) (@pe_int _ _ _ _)))) (@pa_nil _) rfl) rfl) rfl) rfl)) (by rfl) (by first | exact .inl rfl | exact .inr rfl | assumption)) (@pss_cons _ _ _ _ _ (@ps_if _ _ _ _ _ _ _ _ (@pt_cmpR _ _ _ _ _ _ _ _ (@op_lt _) (@pw _ 2 _ _ (Or.inl k_l_odd_by_l_way) (by rfl) (by decide) (by decide)) (@pe_int _ _ _ _) (@nomark _ _ (by decide) (by decide))) (@pss_one _ _ _ (@ps_ret _ _ _ _ (@pe_ix _ _ _ _ _ _ _ (@ixL_k _ (K) (by rfl)) (@pw _ 4 _ _ (Or.inl k_l_odd_by_l_some) (by rfl) (by decide) (by decide)) (@pw _ 2 _ _ (Or.inl k_l_odd_by_l_way) (by rfl) (by decide) (by decide)) (fun _ _ => rfl)))) (@pss_nil _)) (@pss_cons _ _ _ _ _ (@ps_if _ _ _ _ _ _ _ _ (@pt_cmpR _ _ _ _ _ _ _ _ (@op_lt _) (@pw _ 2 _ _ (Or.inl k_l_odd_by_l_way) (by rfl) (by decide) (by decide)) (@pe_int _ _ _ _) (@nomark _ _ (by decide) (by decide))) (@pss_one _ _ _ (@ps_ret _ _ _ _ (@pe_ifExp _ _ _ _ _ _ _ _ (@pt_val _ _ _ (@pe_callB _ _ _ _ _ _ _ _ _ (@isinst_k _ (K) (by rfl)) k_l_odd_by_isinstance T.b_isinstance (@boot_b_isinstance) (@pa_c _ _ _ _ _ (@pw _ 1 _ _ (Or.inl k_l_odd_by_l_thing) (by rfl) (by decide) (by decide)) (@pa_c _ _ _ _ _ (@pe_ty _ _ _ _ k_l_odd_by_tuple T.b_tuple (@boot_ty_tuple) (by decide) (by decide)) (@pa_nil _) rfl) rfl) (by decide) (by decide) (by rfl) (by rfl)) (by intro _; rfl)) (@pe_callTy _ _ _ _ _ _ _ _ _ (@call_list_ofA _ (K) (by rfl)) k_l_odd_by_list T.b_list (@boot_ty_list) (@pa_c _ _ _ _ _ (@pw _ 1 _ _ (Or.inl k_l_odd_by_l_thing) (by rfl) (by decide) (by decide)) (@pa_nil _) rfl) (by decide) (by decide) (by rfl) (by rfl)) (@pe_callTy _ _ _ _ _ _ _ _ _ (@call_tuple_ofA _ (K) (by rfl)) k_l_odd_by_tuple T.b_tuple (@boot_ty_tuple) (@pa_c _ _ _ _ _ (@pw _ 1 _ _ (Or.inl k_l_odd_by_l_thing) (by rfl) (by decide) (by decide)) (@pa_nil _) rfl) (by decide) (by decide) (by rfl) (by rfl))))) (@pss_nil _)) (@pss_cons _ _ _ _ _ (@ps_set _ _ (8) _ _ _ _ sc_l_odd_by.nd rfl (Or.inl k_l_odd_by_l_more) (@pe_ix _ _ _ _ _ _ _ (@ixL_k _ (K) (by rfl)) (@pe_lstA _ _ _ _ (@pa_c _ _ _ _ _ (@pe_tupA _ _ _ _ _ (@pa_c _ _ _ _ _ (@pe_int _ _ _ _) (@pa_c _ _ _ _ _ (@pe_int _ _ _ _) (@pa_nil _) rfl) rfl)) (@pa_c _ _ _ _ _ (@pe_str _ _ _ _) (@pa_c _ _ _ _ _ (@pe_non _ _ _) (@pa_c _ _ _ _ _ (@pe_int _ _ _ _) (@pa_c _ _ _ _ _ (@pe_lstA _ _ _ _ (@pa_nil _)) (@pa_c _ _ _ _ _ (@pe_tupA _ _ _ _ _ (@pa_c _ _ _ _ _ (@pe_un _ _ _ _ _ _ (@un_neg _) (@pe_int _ _ _ _)) (@pa_c _ _ _ _ _ (@pe_int _ _ _ _) (@pa_nil _) rfl) rfl)) (@pa_nil _) rfl) rfl) rfl) rfl) rfl) rfl)) (@pe_op _ _ _ _ _ _ _ _ (@op_sub _) (@pw _ 2 _ _ (Or.inl k_l_odd_by_l_way) (by rfl) (by decide) (by decide)) (@pe_int _ _ _ _)) (fun _ _ => rfl)) (by rfl) (by first | exact .inl rfl | exact .inr rfl | assumption)) (@pss_one _ _ _ (@ps_ret _ _ _ _ (@pe_op _ _ _ _ _ _ _ _ (@op_catX _) (@pe_op _ _ _ _ _ _ _ _ (@op_catX _) (@pw _ 6 _ _ (Or.inl k_l_odd_by_l_ahead) (by rfl) (by decide) (by decide)) (@pe_ifExp _ _ _ _ _ _ _ _ (@pt_val _ _ _ (@pe_callB _ _ _ _ _ _ _ _ _ (@isinst_k _ (K) (by rfl)) k_l_odd_by_isinstance T.b_isinstance (@boot_b_isinstance) (@pa_c _ _ _ _ _ (@pw _ 1 _ _ (Or.inl k_l_odd_by_l_thing) (by rfl) (by decide) (by decide)) (@pa_c _ _ _ _ _ (@pe_ty _ _ _ _ k_l_odd_by_list T.b_list (@boot_ty_list) (by decide) (by decide)) (@pa_nil _) rfl) rfl) (by decide) (by decide) (by rfl) (by rfl)) (by intro _; rfl)) (@pe_lstA _ _ _ _ (@pa_c _ _ _ _ _ (@pw _ 8 _ _ (Or.inl k_l_odd_by_l_more) (by rfl) (by decide) (by decide)) (@pa_nil _) rfl)) (@pe_tupA _ _ _ _ _ (@pa_c _ _ _ _ _ (@pw _ 8 _ _ (Or.inl k_l_odd_by_l_more) (by rfl) (by decide) (by decide)) (@pa_nil _) rfl)))) (@pw _ 7 _ _ (Or.inl k_l_odd_by_l_behind) (by rfl) (by decide) (by decide))))))))))))))), ?_⟩
    refine seqH fun DZ nZ => ?_
    refine ⟨_, rfl, b, 12, t, rfl, B, by decide, by decide, ht0, by trivial, fun wy t1 H1 w0 w1 h1a h1b s1 B1 => ⟨_, rfl, b, 5, t1, rfl, B1, by decide, by decide, by trivial, by trivial, fun sp t2 H2 p0 p1 h2a h2b s2 B2 => ⟨_, _, rfl, ?_⟩⟩⟩
    refine nZ _ _ ?_
    have s12 := s1.trans s2
    obtain ⟨d, hx, wg⟩ := hx0.sE (s12.weak hEb)
    have al2 := hal.sE s12 B2
    have KK : ∀ y J, Same H2 J → Dt (z + 1) E' J y (3 * N + 10) (k + 2) → Q y J := fun y J sJ hy => K' y t2 J (s12.trans sJ.toE) hy (B2.same sJ) (by trivial) (by trivial)
    have q64 : 64 ≤ 4 ^ (z + 1) := Nat.le_trans (show 64 ≤ 4 ^ 3 by decide) (Nat.pow_le_pow_right (by decide) (by trivial))
    have q4 : 4 ^ (z + 1) = 4 * 4 ^ z := by rw [Nat.pow_succ, Nat.mul_comm]
    have q16 : 16 ≤ 4 ^ z := Nat.le_trans (show 16 ≤ 4 ^ 2 by decide) (Nat.pow_le_pow_right (by decide) hz2)
    have q63 : 4 ^ z ≤ 64 := Nat.le_trans (Nat.pow_le_pow_right (by decide) hz) (show 4 ^ 3 ≤ 64 by decide)
    have lit : ∀ {J : Hp} {n : Nat} (i : Int), i.natAbs < 2 ^ 100 → Dt (z + 1) E' J (.int i) (n + 1) 0 := fun {J n} i hi => Dt.int (sz_lit i hi)
    refine seqR fun DA nA rA => ?_
    rcases kind4 hx wg with ⟨hk1, hsm⟩ | ⟨i, rfl, rfl, hi⟩ | ⟨y, rfl, rfl, hy, hc⟩ | ⟨o, c, ys, m, l, rfl, hb, hg, hi, hs, htp, hls, ob, dys, hm, hl⟩
    · -- a truth, None
      refine ifS_by (fun J => Same H2 J) (fun _ => False) (fun Q' y1 _ => ?_) (fun J sJ => ?_) (fun J f => f.elim)
      · refine ⟨_, rfl, _, _, _, _, rfl, hx.ty, kit_bool d, _, rfl, ?_⟩
        rcases hk1 with h1 | ⟨h1, h2⟩
        · rw [h1]
          exact iteT (y1 _ (Same.refl _))
        · rw [h1]
          refine iteF ⟨_, rfl, (by show 4 ≤ 10000; decide), fun o3 H3 n3 => ⟨x, o3, d, E', rfl, hx.mono n3.sm.toE, SqT.of n3.at', _, rfl, ?_⟩⟩
          rw [h2]
          exact y1 _ n3.sm
      · refine ⟨(by show 0 ≤ 10000; decide), fun o1 J1 n1 => ⟨(by show 0 ≤ 10000; decide), fun o2 J2 n2 => ⟨(by show 2 ≤ 10000; decide), fun o3 J3 n3 => ⟨_, rfl, (by show 1 ≤ 10000; decide), fun o4 J4 n4 => ⟨_, rfl, (by show 12 ≤ 10000; decide), fun o5 J5 n5 => ?_⟩⟩⟩⟩⟩
        have S5 := ((((sJ.trans n1.sm).trans n2.sm).trans n3.sm).trans n4.sm).trans n5.sm
        have R4 : Same J4 J5 := n5.sm
        have R3 : Same J3 J5 := n4.sm.trans R4
        have R2 : Same J2 J5 := n3.sm.trans R3
        have R1 : Same J1 J5 := n2.sm.trans R2
        obtain ⟨v, ev, hv⟩ : ∃ v, atI [V.int 0, .non, .str (Str.ofString "x"), .ref o1, .ref o2, .bl true, .int 1, .ref o3, .ref o4, .bl false, .int (-1), .str (Str.ofString "a")] wy = some v ∧ Dt (z + 1) E' J5 v (3 * N + 10) (k + 2) := by
          obtain rfl | rfl | rfl | rfl | rfl | rfl | rfl | rfl | rfl | rfl | rfl | rfl : wy = 0 ∨ wy = 1 ∨ wy = 2 ∨ wy = 3 ∨ wy = 4 ∨ wy = 5 ∨ wy = 6 ∨ wy = 7 ∨ wy = 8 ∨ wy = 9 ∨ wy = 10 ∨ wy = 11 := by trivial
          · exact ⟨_, rfl, (lit (n := 0) 0 (by decide)).up (by trivial) (by trivial)⟩
          · exact ⟨_, rfl, Dt.non⟩
          · exact ⟨_, rfl, dtS txx (by trivial)⟩
          · exact ⟨_, rfl, (Dt.tup (n := 0) (k := 0) (R1 _ _ n1.at') Ds.nil).up (by trivial) (by trivial)⟩
          · exact ⟨_, rfl, (Dt.lst (n := 0) (k := 0) (R2 _ _ n2.at') ((al2.sm (sJ.trans n1.sm)).ne n2.fr) Ds.nil).up (by trivial) (by trivial)⟩
          · exact ⟨_, rfl, Dt.bl _⟩
          · exact ⟨_, rfl, (lit (n := 0) 1 (by decide)).up (by trivial) (by trivial)⟩
          · exact ⟨_, rfl, (Dt.tup (R3 _ _ n3.at') (Ds.cons (lit (n := 0) 1 (by decide)) (Ds.one (lit (n := 0) 1 (by decide))))).up (by trivial) (by trivial)⟩
          · exact ⟨_, rfl, (Dt.lst (R4 _ _ n4.at') ((al2.sm (((sJ.trans n1.sm).trans n2.sm).trans n3.sm)).ne n4.fr) (Ds.one ((hsm.more (Nat.le_succ z)).sm S5))).up (by trivial) (by trivial)⟩
          · exact ⟨_, rfl, Dt.bl _⟩
          · exact ⟨_, rfl, (lit (n := 0) (-1) (by decide)).up (by trivial) (by trivial)⟩
          · exact ⟨_, rfl, dtS txa (by trivial)⟩
        exact ⟨_, rfl, o5, _, _, _, rfl, rfl, SqL.of n5.at', ev, rA _ _ (KK v J5 S5 hv)⟩
    · -- a number
      refine ifS_by (fun _ => False) (fun J => Same H2 J) (fun Q' _ y0 => ?_) (fun J f => f.elim) (fun J sJ => nA _ _ ?_)
      · exact ⟨_, rfl, _, _, _, _, rfl, hx.ty, kit_bool (.int i), _, rfl, iteF ⟨_, rfl, (by show 4 ≤ 10000; decide), fun o3 H3 n3 => ⟨.int i, o3, .int i, E', rfl, .int i, SqT.of n3.at', _, rfl, y0 _ n3.sm⟩⟩⟩
      clear nA rA
      refine ⟨_, rfl, _, _, _, _, rfl, (IsD.int (E := E') i).ty, kit_int (.int i), _, rfl, iteT ?_⟩
      have hlg : i.natAbs.log2 < 1920 := by
        by_cases h0 : i = 0
        · subst h0; decide
        · exact Nat.lt_of_lt_of_le ((hi.mono (m := 200 + z) (n := 1900) (by trivial)).log h0) (by decide)
      refine ⟨_, rfl, _, _, rfl, rfl, _, rfl, _, _, rfl, rfl, _, rfl, _, rfl, _, rfl, _, _, rfl, rfl, .inr ⟨by decide, by decide⟩, _, rfl, rfl, _, rfl, _, rfl, hlg, _, rfl, (by show 1 ≤ 10000; decide), fun o1 J1 n1 => ⟨(by show 10 ≤ 10000; decide), fun o2 J2 n2 => ?_⟩⟩
      refine ⟨_, rfl, _, _, rfl, rfl, ⟨by decide, by decide, by decide⟩, _, rfl, (by show 1 ≤ 10000; decide), fun o3 J3 n3 => ⟨(by show 2 ≤ 10000; decide), fun o4 J4 n4 => ⟨o2, o4, _, _, rfl, rfl, n4.sm _ _ (n3.sm _ _ n2.at'), n4.at', (by show 10 + 2 ≤ 10000; decide), fun o5 J5 n5 => ?_⟩⟩⟩
      have R4 : Same J4 J5 := n5.sm
      have R3 : Same J3 J5 := n4.sm.trans R4
      have R2 : Same J2 J5 := n3.sm.trans R3
      have R1 : Same J1 J5 := n2.sm.trans R2
      have S5 := (sJ.trans n1.sm).trans R1
      have hi1 : ∀ J : Hp, Dt (z + 1) E' J (.int i) 1 0 := fun J => Dt.int (hi.mono (by trivial))
      have h10 : i.natAbs < 10 ^ 62 := Nat.lt_of_lt_of_le (show i.natAbs < 2 ^ (200 + z) from hi) (Nat.le_trans (Nat.pow_le_pow_right (by decide) (show 200 + z ≤ 203 by trivial)) (by decide))
      obtain ⟨v, ev, hv⟩ : ∃ v, atI ([V.int (i + 1), .int (i - 1), .int (-i), .int (i * 2), .int 0, .int 1, .bl (decide (V.int i = V.int 1)), .non, .str ((toString i : String) : Str), .ref o1] ++ [V.int (10 ^ (12 : Int).toNat), .ref o3]) wy = some v ∧ Dt (z + 1) E' J5 v (3 * N + 10) (k + 2) := by
        obtain rfl | rfl | rfl | rfl | rfl | rfl | rfl | rfl | rfl | rfl | rfl | rfl : wy = 0 ∨ wy = 1 ∨ wy = 2 ∨ wy = 3 ∨ wy = 4 ∨ wy = 5 ∨ wy = 6 ∨ wy = 7 ∨ wy = 8 ∨ wy = 9 ∨ wy = 10 ∨ wy = 11 := by trivial
        · exact ⟨_, rfl, Dt.int (sz_up hi (by trivial))⟩
        · exact ⟨_, rfl, Dt.int (sz_up hi (by trivial))⟩
        · exact ⟨_, rfl, Dt.int (sz_up hi (by trivial))⟩
        · exact ⟨_, rfl, Dt.int (sz_up hi (by trivial))⟩
        · exact ⟨_, rfl, (lit (n := 0) 0 (by decide)).up (by trivial) (by trivial)⟩
        · exact ⟨_, rfl, (lit (n := 0) 1 (by decide)).up (by trivial) (by trivial)⟩
        · exact ⟨_, rfl, Dt.bl _⟩
        · exact ⟨_, rfl, Dt.non⟩
        · exact ⟨_, rfl, dtS (txt_int (by decide) h10) (by trivial)⟩
        · exact ⟨_, rfl, (Dt.lst (R1 _ _ n1.at') ((al2.sm sJ).ne n1.fr) (Ds.one (hi1 _))).up (by trivial) (by trivial)⟩
        · exact ⟨_, rfl, (lit (n := 0) _ (by decide)).up (by trivial) (by trivial)⟩
        · exact ⟨_, rfl, (Dt.tup (R3 _ _ n3.at') (Ds.one (hi1 _))).up (by trivial) (by trivial)⟩
      exact ⟨_, rfl, o5, _, _, _, rfl, rfl, SqL.of n5.at', ev, KK v J5 S5 hv⟩
    · -- a text
      refine ifS_by (fun _ => False) (fun J => Same H2 J) (fun Q' _ y0 => ?_) (fun J f => f.elim) (fun J sJ => nA _ _ ?_)
      · exact ⟨_, rfl, _, _, _, _, rfl, hx.ty, kit_bool (.str y), _, rfl, iteF ⟨_, rfl, (by show 4 ≤ 10000; decide), fun o3 H3 n3 => ⟨.str y, o3, .str y, E', rfl, .str y, SqT.of n3.at', _, rfl, y0 _ n3.sm⟩⟩⟩
      clear nA rA
      have ty : txt (4 ^ z - 1) y := ⟨by trivial, hc⟩
      refine ⟨_, rfl, _, _, _, _, rfl, (IsD.str (E := E') y).ty, kit_int (.str y), _, rfl, iteF ?_⟩
      refine ⟨_, rfl, _, _, _, _, rfl, (IsD.str (E := E') y).ty, kit_str (.str y), _, rfl, iteT ?_⟩
      have sub : ∀ c : Str, c.length ≤ y.length → (∀ e ∈ c.cps.toList, e ∈ y.cps.toList) → txt (4 ^ z - 1) c := fun c h1 h2 => ⟨by trivial, fun e he => hc e (h2 e he)⟩
      have hz5 : (Str.ofString "1_- A").length ≤ sizeLine := by decide +kernel
      obtain ⟨sg, hsg, hsg'⟩ : ∃ sg, atI ((Str.ofString "1_- A").cps.toList) sp = some sg ∧ sg < 128 := by
        have e5 : (Str.ofString "1_- A").cps.toList = [49, 95, 45, 32, 65] := by decide +kernel
        rw [e5]
        obtain rfl | rfl | rfl | rfl | rfl : sp = 0 ∨ sp = 1 ∨ sp = 2 ∨ sp = 3 ∨ sp = 4 := by trivial
        · exact ⟨49, rfl, by decide⟩
        · exact ⟨95, rfl, by decide⟩
        · exact ⟨45, rfl, by decide⟩
        · exact ⟨32, rfl, by decide⟩
        · exact ⟨65, rfl, by decide⟩
      have txs : txt 1 (S [sg]) := ⟨by rw [S_len]; exact Nat.le_refl _, fun c hc => by rw [S_list] at hc; rw [List.mem_singleton.mp hc]; exact hsg'⟩
      refine ⟨_, rfl, _, _, _, _, rfl, rfl, ty, txa, by trivial, fun c1 tc1 => ?_⟩
      refine ⟨_, rfl, _, rfl, y, rfl, by trivial, fun c2 l2 m2 => ?_⟩
      refine ⟨_, rfl, rfl, y, _, rfl, rfl, ty, by trivial, fun c3 tc3 => ?_⟩
      refine ⟨_, rfl, _, rfl, y, rfl, by trivial, fun c4 l4 m4 => ⟨_, rfl, _, _, _, rfl, rfl, hz5, hsg, _, _, _, _, rfl, rfl, sub c4 l4 m4, txs, by trivial, fun c5 tc5 => ?_⟩⟩
      refine ⟨_, rfl, (by show 1 ≤ 10000; decide), fun o1 J1 n1 => ⟨(by show 9 ≤ 10000; decide), fun o2 J2 n2 => ?_⟩⟩
      refine ⟨_, rfl, .inl ⟨rfl, _, SqL.of n2.at'⟩, o2, _, _, rfl, rfl, n2.at', (by show 9 ≤ 10000; decide), fun J3 c3' => ?_⟩
      refine ⟨_, rfl, _, rfl, _, rfl, _, rfl, rfl, .inl ⟨y, _, rfl, ty, by trivial, fun c6 tc6 => ⟨(by show 2 ≤ 10000; decide), fun o4 J4 n4 => ⟨o2, o4, _, _, rfl, rfl, n4.sm _ _ c3'.at', n4.at', (by show 10 + 2 ≤ 10000; decide), fun o5 J5 n5 => ?_⟩⟩⟩⟩
      have fr2 : J o2 = none := Same.free n1.sm n2.fr
      have SJ3 : Same J J3 := fun a u h => c3'.ol a u (ne_of_none h fr2) (n2.sm _ _ (n1.sm _ _ h))
      have S5 := ((sJ.trans SJ3).trans n4.sm).trans n5.sm
      have e1 : J5 o1 = some (.tup [.str y]) := n5.sm _ _ (n4.sm _ _ (c3'.ol o1 _ (fun z => by have := n2.fr; rw [← z, n1.at'] at this; cases this) (n2.sm _ _ n1.at')))
      obtain ⟨v, ev, hv⟩ : ∃ v, atI (([V.str c1, .str c2, .str (Str.ofString ""), .str c3, .str c5, .str (Str.ofString "zzzzzzzzz"), .non, .int 1, .ref o1] ++ [V.str (Str.ofString "a")]) ++ [V.str (Str.ofString " "), .str c6]) wy = some v ∧ Dt (z + 1) E' J5 v (3 * N + 10) (k + 2) := by
        obtain rfl | rfl | rfl | rfl | rfl | rfl | rfl | rfl | rfl | rfl | rfl | rfl : wy = 0 ∨ wy = 1 ∨ wy = 2 ∨ wy = 3 ∨ wy = 4 ∨ wy = 5 ∨ wy = 6 ∨ wy = 7 ∨ wy = 8 ∨ wy = 9 ∨ wy = 10 ∨ wy = 11 := by trivial
        · exact ⟨_, rfl, dtS tc1 (by trivial)⟩
        · exact ⟨_, rfl, dtS (sub c2 l2 m2) (by trivial)⟩
        · exact ⟨_, rfl, dtS tx0 (by trivial)⟩
        · exact ⟨_, rfl, dtS tc3 (by trivial)⟩
        · exact ⟨_, rfl, dtS tc5 (by trivial)⟩
        · exact ⟨_, rfl, dtS txz (by trivial)⟩
        · exact ⟨_, rfl, Dt.non⟩
        · exact ⟨_, rfl, (lit (n := 0) 1 (by decide)).up (by trivial) (by trivial)⟩
        · exact ⟨_, rfl, (Dt.tup e1 (Ds.one (n := 1) (k := 0) (dtS ty (by trivial)))).up (by trivial) (by trivial)⟩
        · exact ⟨_, rfl, dtS txa (by trivial)⟩
        · exact ⟨_, rfl, dtS txb (by trivial)⟩
        · exact ⟨_, rfl, dtS tc6 (by trivial)⟩
      exact ⟨_, rfl, o5, _, _, _, rfl, rfl, SqL.of n5.at', ev, KK v J5 S5 hv⟩
    · -- a list or a tuple
      refine ifS_by (fun _ => False) (fun J => Same H2 J) (fun Q' _ y0 => ?_) (fun J f => f.elim) (fun J sJ => nA _ _ ?_)
      · refine ⟨_, rfl, _, _, _, _, rfl, hx.ty, kit_bool d, _, rfl, ?_⟩
        rw [hb]
        refine iteF ⟨_, rfl, (by show 4 ≤ 10000; decide), fun o3 H3 n3 => ⟨_, o3, d, E', rfl, hx.mono n3.sm.toE, SqT.of n3.at', _, rfl, ?_⟩⟩
        rw [hg]
        exact y0 _ n3.sm
      clear nA rA
      have hxJ := hx.mono (sJ.toE (E := E'))
      refine ⟨_, rfl, _, _, _, _, rfl, hxJ.ty, kit_int d, _, rfl, ?_⟩
      rw [hi]
      refine iteF ⟨_, rfl, _, _, _, _, rfl, hxJ.ty, kit_str d, _, rfl, ?_⟩
      rw [hs]
      refine iteF ?_
      have obJ : ∀ J', Same J J' → Ob c J' o ys := fun J' s' => ob J' (sJ.trans s').toE
      have ly := dys.len
      have alJ := al2.sm sJ
      refine ⟨_, rfl, _, rfl, o, ys, rfl, obSq (obJ _ (Same.refl _)), _, _, rfl, rfl, _, _, rfl, rfl, (by show (0 : Int) < (ys.length : Int) + 1; trivial), ?_⟩
      refine ⟨_, rfl, _, rfl, _, rfl, c, o, ys, rfl, obJ _ (Same.refl _), fun ao J1 g1 hao _ => ⟨_, rfl, _, rfl, _, rfl, c, o, ys, rfl, obJ _ g1, fun bo J0 g2 hbo _ => ⟨_, _, rfl, ?_⟩⟩⟩
      have g0 := g1.trans g2
      have S0 := sJ.trans g0
      have hao := hao.sm g2
      have D0 := dys.sm S0
      have Da := D0.cut none (some (sp % ((ys.length : Int) + 1)))
      have Db := D0.cut (some (sp % ((ys.length : Int) + 1))) none
      have al0 := al2.sm S0
      generalize cutV ys none (some (sp % ((ys.length : Int) + 1))) = as at hao Da
      generalize cutV ys (some (sp % ((ys.length : Int) + 1))) none = bs at hbo Db
      have la := Da.len
      have lb := Db.len
      have lc : ∀ lo hi, (cutV bs lo hi).length ≤ m := fun lo hi => Nat.le_trans (cutV_length _ _ _) lb
      have ne : ∀ {J' : Hp} {u : Addr}, Same J0 J' → (c = true → J' u = none) → c = true → ¬ E' u := fun {J' u} s' f e => (al0.sm s').ne (f e)
      refine ⟨_, rfl, _, rfl, _, rfl, c, bo, bs, rfl, hbo, fun u1 J1 m1 h1 _ => ⟨c, ao, u1, _, _, rfl, rfl, hao.sm m1, h1, by have := lc (some 1) none; trivial, fun u2 J2 m2 h2 f2 => ?_⟩⟩
      have T2 := m1.trans m2
      refine ⟨_, rfl, _, rfl, _, rfl, c, bo, bs, rfl, hbo.sm T2, fun u3 J3 m3 h3 _ => ⟨c, ao, u3, _, _, rfl, rfl, hao.sm (T2.trans m3), h3, by have := lc none (some 1); trivial, fun u4 J4 m4 h4 _ => ?_⟩⟩
      have T4 := (T2.trans m3).trans m4
      refine ⟨_, rfl, c, u4, bo, _, _, rfl, rfl, h4, hbo.sm T4, by have := lc none (some 1); rw [List.length_append]; trivial, fun u5 J5 m5 h5 f5 => ?_⟩
      have T5 := T4.trans m5
      refine ⟨_, rfl, _, rfl, _, rfl, c, bo, bs, rfl, hbo.sm T5, fun u6 J6 m6 h6 _ => ⟨_, rfl, _, rfl, rfl, .inr ⟨c, u6, _, rfl, h6, fun u7 J7 m7 h7 _ => ?_⟩⟩⟩
      have T7 := (T5.trans m6).trans m7
      refine ⟨c, ao, u7, _, _, rfl, rfl, hao.sm T7, h7, by have := lc none (some 2); rw [List.length_reverse]; trivial, fun u8 J8 m8 h8 _ => ?_⟩
      have T8 := T7.trans m8
      refine ⟨_, rfl, _, rfl, c, bo, bs, rfl, hbo.sm T8, fun u9 J9 m9 h9 _ => ⟨c, u8, u9, _, _, rfl, rfl, h8.sm m9, h9, by have := lc none (some 2); have := lc (some 2) none; rw [List.length_append, List.length_reverse]; trivial, fun u10 J10 m10 h10 f10 => ?_⟩⟩
      have T10 := (T8.trans m9).trans m10
      refine ⟨_, rfl, _, rfl, _, rfl, rfl, .inr ⟨c, o, ys, rfl, obJ _ (g0.trans T10), fun u11 J11 m11 h11 f11 => ⟨(by show 4 ≤ 10000; decide), fun sl J12 n12 => ?_⟩⟩⟩
      have T11 := T10.trans m11
      have T12 := T11.trans n12.sm
      have S12 := S0.trans T12
      refine ⟨_, rfl, _, _, rfl, rfl, _, rfl, ite2 (fun c4 => ?_) (fun c4 => ?_)⟩
      · have w4 : wy < 4 := of_decide_eq_true c4
        have R11 : Same J11 J12 := n12.sm
        have R10 : Same J10 J12 := m11.trans R11
        have R5 : Same J5 J12 := ((((m6.trans m7).trans m8).trans m9).trans m10).trans R10
        have R2 : Same J2 J12 := ((m3.trans m4).trans m5).trans R5
        have Ea := (Da.sm T12).more (Nat.le_succ z)
        have Eb' := (Db.sm T12).more (Nat.le_succ z)
        obtain ⟨v, ev, hv⟩ : ∃ v, atI [V.ref u2, .ref u5, .ref u10, .ref u11] wy = some v ∧ Dt (z + 1) E' J12 v (3 * N + 10) (k + 2) := by
          obtain rfl | rfl | rfl | rfl : wy = 0 ∨ wy = 1 ∨ wy = 2 ∨ wy = 3 := by trivial
          · exact ⟨_, rfl, (obDt (h2.sm R2) (ne m1 f2) (Ea.append (Eb'.cut _ _))).up (by trivial) (by trivial)⟩
          · exact ⟨_, rfl, (obDt (h5.sm R5) (ne T4 f5) ((Ea.append (Eb'.cut _ _)).append Eb')).up (by trivial) (by trivial)⟩
          · exact ⟨_, rfl, (obDt (h10.sm R10) (ne (T8.trans m9) f10) ((Ea.append (Eb'.cut _ _).reverse).append (Eb'.cut _ _))).up (by trivial) (by trivial)⟩
          · exact ⟨_, rfl, (obDt (h11.sm R11) (ne T10 fun _ => f11) (((D0.sm T12).more (Nat.le_succ z)).reverse)).up (by trivial) (by trivial)⟩
        exact ⟨_, rfl, _, rfl, sl, _, _, _, rfl, rfl, SqL.of n12.at', ev, KK v J12 S12 hv⟩
      have w4 : ¬ wy < 4 := fun z => c4 (decide_eq_true z)
      have hx12 := hx.mono (S12.toE (E := E'))
      have D12 := (D0.sm T12).more (Nat.le_succ z)
      refine ⟨_, rfl, _, _, rfl, rfl, _, rfl, ite2 (fun c6 => ?_) (fun c6 => ?_)⟩
      · refine ⟨_, rfl, _, _, _, _, rfl, hx12.ty, kit_tuple d, _, rfl, ?_⟩
        rw [htp]
        cases c with
        | false => exact iteT ⟨_, rfl, o, ys, rfl, .inr (SqT.of (obJ _ (g0.trans T12))), fun q J13 n13 => KK _ J13 (S12.trans n13.sm) ((Dt.lst n13.at' ((al2.sm S12).ne n13.fr) (D12.sm n13.sm)).up (by trivial) (by trivial))⟩
        | true => exact iteF ⟨_, rfl, o, ys, rfl, SqL.of (obJ _ (g0.trans T12)), fun q J13 n13 => KK _ J13 (S12.trans n13.sm) ((Dt.tup n13.at' (D12.sm n13.sm)).up (by trivial) (by trivial))⟩
      have w6 : ¬ wy < 6 := fun z => c6 (decide_eq_true z)
      refine ⟨(by show 2 ≤ 10000; decide), fun e1 J13 n13 => ⟨(by show 0 ≤ 10000; decide), fun e2 J14 n14 => ⟨_, rfl, (by show 2 ≤ 10000; decide), fun e3 J15 n15 => ⟨(by show 6 ≤ 10000; decide), fun e4 J16 n16 => ?_⟩⟩⟩⟩
      have S13 := S12.trans n13.sm
      have S16 := ((S13.trans n14.sm).trans n15.sm).trans n16.sm
      have T16 := (((T12.trans n13.sm).trans n14.sm).trans n15.sm).trans n16.sm
      obtain ⟨v, ev, hv⟩ : ∃ v, atI [V.ref e1, .str (Str.ofString "a"), .non, .int 0, .ref e2, .ref e3] (wy - 6) = some v ∧ Dt (z + 1) E' J16 v 4 2 := by
        obtain rfl | rfl | rfl | rfl | rfl | rfl : wy = 6 ∨ wy = 7 ∨ wy = 8 ∨ wy = 9 ∨ wy = 10 ∨ wy = 11 := by trivial
        · exact ⟨_, rfl, (Dt.tup (((n14.sm.trans n15.sm).trans n16.sm) _ _ n13.at') (Ds.cons (lit (n := 0) 0 (by decide)) (Ds.one (lit (n := 0) 1 (by decide))))).up (by trivial) (by trivial)⟩
        · exact ⟨_, rfl, dtS txa (by trivial)⟩
        · exact ⟨_, rfl, Dt.non⟩
        · exact ⟨_, rfl, (lit (n := 0) 0 (by decide)).up (by trivial) (by trivial)⟩
        · exact ⟨_, rfl, (Dt.lst (n := 0) (k := 0) ((n15.sm.trans n16.sm) _ _ n14.at') ((al2.sm S13).ne n14.fr) Ds.nil).up (by trivial) (by trivial)⟩
        · exact ⟨_, rfl, (Dt.tup (n16.sm _ _ n15.at') (Ds.cons (lit (n := 0) (-1) (by decide)) (Ds.one (lit (n := 0) 2 (by decide))))).up (by trivial) (by trivial)⟩
      refine ⟨_, rfl, _, _, rfl, rfl, e4, _, _, _, rfl, rfl, SqL.of n16.at', ev, ?_⟩
      have hx16 := hx.mono (S16.toE (E := E'))
      refine ⟨_, rfl, _, rfl, _, _, _, _, rfl, hx16.ty, kit_list d, _, rfl, ?_⟩
      rw [hls]
      refine ifE (fun y H' => ∃ p, y = .ref p ∧ Same J16 H' ∧ Ob c H' p [v]) ?rest ?h1 ?h2
      case h1 =>
        intro ec rest
        subst ec
        exact ⟨_, rfl, (by show 1 ≤ 10000; decide), fun p J17 n17 => rest _ _ ⟨p, rfl, n17.sm, n17.at'⟩⟩
      case h2 =>
        intro ec rest
        subst ec
        exact ⟨_, rfl, (by show 1 ≤ 10000; decide), fun p J17 n17 => rest _ _ ⟨p, rfl, n17.sm, n17.at'⟩⟩
      case rest =>
      rintro _ J17 ⟨p, rfl, s17, hp⟩
      have T17 := T16.trans s17
      refine ⟨c, ao, p, _, _, rfl, rfl, hao.sm T17, hp, by show as.length + 1 ≤ 10000; trivial, fun q1 J18 s18 hq1 _ => ⟨_, rfl, c, q1, bo, _, _, rfl, rfl, hq1, hbo.sm (T17.trans s18), by rw [List.length_append]; show as.length + 1 + bs.length ≤ 10000; trivial, fun q2 J19 s19 hq2 f19 => KK _ J19 ((S16.trans s17).trans (s18.trans s19)) ?_⟩⟩
      have T18 := T17.trans s18
      have T19 := T18.trans s19
      have Ea := (Da.sm T19).more (Nat.le_succ z)
      have Eb' := (Db.sm T19).more (Nat.le_succ z)
      have hv19 := hv.sm ((s17.trans s18).trans s19)
      exact (obDt hq2 (ne T18 f19) (((Ea.up (Nat.le_refl _) (show l ≤ l + 2 by trivial)).append (Ds.one (n := 4) (k := l + 2) (hv19.up (Nat.le_refl _) (by trivial)))).append (Eb'.up (Nat.le_refl _) (show l ≤ l + 2 by trivial)))).up (by trivial) (by trivial)
end
end K46
namespace K46
open PySem L2
theorem isNts {E : Addr → Prop} {H : Hp} : ∀ r : List Nat, IsAll E H (nts r) (r.map fun i : Nat => PyData.int ((i : Nat) : Int))
  | [] => .nil
  | _ :: r => .cons (.int _) (isNts r)
theorem split2 {F : Addr → Prop} {H : Hp} {x : V} {d e : PyData} {i : Nat} (h : IsD F H x d) (hk : kid d i = some e) : Ex4 fun (o : Addr) (c : Bool) (ys : List V) (ds : List PyData) => x = .ref o ∧ isTupB d = (!c) ∧ isLstB d = c ∧ (∀ K H', Same H H' → SqC K H' o ys c) ∧ IsAll F H ys ds ∧ ds[i]? = some e ∧ ∀ z N k, Wg z d N k → Ex2 fun m l => WgL z ds m l ∧ m + 1 ≤ N ∧ l + 1 ≤ k := by
  cases h with
  | @lst o ys ds h ne r => exact ⟨o, true, ys, ds, rfl, rfl, rfl, fun K H' s => SqL.of (s _ _ h), r, hk, fun z N k w => by cases w with | list h1 h2 h3 => exact ⟨_, _, h1, h2, h3⟩⟩
  | @tup o ys ds h r => exact ⟨o, false, ys, ds, rfl, rfl, rfl, fun K H' s => SqT.of (s _ _ h), r, hk, fun z N k w => by cases w with | tuple h1 h2 h3 => exact ⟨_, _, h1, h2, h3⟩⟩
  | _ => cases hk
theorem ixC {K : PySem.W.Frag} {J : Hp} {o : Addr} {ys : List V} {c : Bool} {i : Int} {v : V} {Q : VK} (h : SqC K J o ys c) (e : atI ys i = some v) (q : Q v J) : rIx K (.ref o) (.int i) J Q := by
  cases c with
  | true => exact .inl ⟨o, ys, i, v, rfl, rfl, h, e, q⟩
  | false => exact .inr (.inl ⟨o, ys, i, v, rfl, rfl, h, e, q⟩)
theorem sqC2 {K : PySem.W.Frag} {J : Hp} {o : Addr} {ys : List V} {c : Bool} (h : SqC K J o ys c) : SqL K J o ys ∨ SqT K J o ys := by
  cases c with
  | true => exact .inl h
  | false => exact .inr h
theorem okP_small {z : Nat} : ∀ {r : List Nat} {d : PyData} {n k : Nat}, Wg z d n k → okP r d → ∀ i ∈ r, i < n
  | [], _, _, _, _, _, i, hi => by cases hi
  | j :: r, d, n, k, h, ⟨e, h1, h2⟩, i, hi => by
    obtain ⟨l, hl, w⟩ := Wg.kid h h1
    rcases List.mem_cons.mp hi with rfl | hi
    · cases h with
      | @list xs m l _ _ h hn hk' =>
        have h3 : xs[i]? = some e := h1
        have := (List.getElem?_eq_some_iff.mp h3).1
        have := h.len
        trivial
      | @tuple xs m l _ _ h hn hk' =>
        have h3 : xs[i]? = some e := h1
        have := (List.getElem?_eq_some_iff.mp h3).1
        have := h.len
        trivial
      | _ => cases h1
    · exact okP_small w h2 i hi
theorem wt_nts {r : List Nat} {n : Nat} (hn : n ≤ 5000) (h : ∀ i ∈ r, i < n) : Wt (.list (r.map fun i : Nat => PyData.int ((i : Nat) : Int))) (1 * r.length + 1) 1 :=
  .list (wtL_map (m := 1) (k := 0) fun x hx => .int (by have := h x hx; show ((x : Nat) : Int).natAbs < 2 ^ 1900; exact Nat.lt_of_lt_of_le (show ((x : Nat) : Int).natAbs < 2 ^ 13 by trivial) (Nat.pow_le_pow_right (by decide) (by decide))))
theorem wgSwap {z y : Nat} (hz : z ≤ y) : ∀ {xs : List PyData} {n k i : Nat} {e : PyData}, WgL z xs n k → xs[i]? = some e → ∃ m0, m0 ≤ n ∧ Wg z e m0 k ∧ ∀ d' m1 k', k ≤ k' → Wg y d' m1 k' → WgL y (xs.set i d') (n - m0 + m1) k'
  | [], _, _, _, _, _, he => by cases he
  | x :: xs, n, k, 0, e, .cons (m := m) (l := l) h r hn, he => by
    cases he
    exact ⟨m, by trivial, h, fun d' m1 k' hk w => .cons (m := m1) (l := l) w ((r.more hz).up (Nat.le_refl _) hk) (by trivial)⟩
  | x :: xs, n, k, i + 1, e, .cons (m := m) (l := l) h r hn, he => by
    obtain ⟨m0, h0, we, sw⟩ := wgSwap hz r (show xs[i]? = some e from he)
    exact ⟨m0, by trivial, we, fun d' m1 k' hk w => .cons (m := m) (l := l - m0 + m1) ((h.more hz).up (Nat.le_refl _) hk) (sw d' m1 k' hk w) (by trivial)⟩
section
variable {P : Program} {w : World} {K : PySem.W.Frag} {mg : Str → Option Value} {base : Heap}
inductive spWith_ (n : Nat) (vs : List V) (H : Hp) (Q : VK) : Prop
  | mk (b q : Addr) (x : V) (t : Int) (d : PyData) (E : Addr → Prop) (r : List Nat) (z N k : Nat) (h0 : vs = [.ref b, x, .ref q]) (h1 : Bx H b t) (h2 : 0 ≤ t) (h3 : t ≤ 900000) (h4 : E b) (h5 : Al E H) (h6 : IsD E H x d) (h7 : Wg z d N k) (h8 : H q = some (.lst (nts r))) (h9 : q ≠ b) (h10 : okP r d) (h11 : r.length + 1 ≤ n) (h12 : 2 ≤ z) (h13 : z ≤ 3) (h14 : N ≤ 1500) (h15 : k ≤ 20) (h16 : ∀ y t' H', SameE (Eb b) H H' → Dt (z + 1) E H' y (3 * N + 10) (k + 2) → Bx H' b t' → t ≤ t' → t' ≤ t + 3 → Q y H')
def spWith (n : Nat) : Sp := fun vs H Q _ => spWith_ n vs H Q
theorem ok_with (T : Txt K mg) : ∀ n, FnOk P w K mg base CX0 (n + 2) T.f_l_with T.d_l_with ["_law_box_here", "_law_thing", "_law_path"] (spWith n) := by
  have G_l_odd_by := ok_odd (P := P) (w := w) (base := base) T
  intro n
  induction n with
  | zero =>
    refine T.F_l_with.ok sc_l_with (fun vs H Q E h => ?_) (fun cdv A outer s H vs Q E hr h => ?_)
    · obtain ⟨_, _, _, _, _, _, _, _, _, _, _, _, _, _, _, _, _, _, _, _, _, z, _⟩ := h
      trivial
    · obtain ⟨_, _, _, _, _, _, _, _, _, _, _, _, _, _, _, _, _, _, _, _, _, z, _⟩ := h
      trivial
  | succ n G_l_with =>
  refine T.F_l_with.ok sc_l_with (fun vs H Q E h => ?_) (fun cdv A outer s H vs Q E hr h => ?_)
  · obtain ⟨_, _, _, _, _, _, _, _, _, _, rfl, _⟩ := h
    rfl
  · obtain ⟨b, q, x, t, d, E', r, z, N, k, rfl, B, ht0, ht1, hEb, hal, hx, wg, hq, hqb, hok, hrn, hz2, hz, hN, hk, K'⟩ := h
    refine ⟨_, (@pss_cons _ _ _ _ _ (@ps_if _ _ _ _ _ _ _ _ (@pt_cmpR _ _ _ _ _ _ _ _ (@op_eqD _ hr.units) (@pw _ 2 _ _ (Or.inl k_l_with_l_path) (by rfl) (by decide) (by decide)) (@pe_lstA _ _ _ _ (@pa_nil _)) (@nomark _ _ (by decide) (by decide))) (@pss_one _ _ _ (@ps_ret _ _ _ _ (@pe_call _ _ _ _ _ _ _ _ _ _ _ _ _ _ _ _ G_l_odd_by (hr.mono (by trivial)) k_l_with_l_odd_by T.m_l_odd_by T.F_l_odd_by.kp T.B_l_odd_by .nil (@pass0 _) (@pa_c _ _ _ _ _ (@pw _ 0 _ _ (Or.inl k_l_with_l_box_here) (by rfl) (by decide) (by decide)) (@pa_c _ _ _ _ _ (@pw _ 1 _ _ (Or.inl k_l_with_l_thing) (by rfl) (by decide) (by decide)) (@pa_nil _) rfl) rfl) (by decide) (by rfl) (by rfl)))) (@pss_nil _)) (@pss_cons _ _ _ _ _ (@ps_par _ _ (3) (4) _ _ _ _ _ _ _ _ _ _ _ rfl sc_l_with.nd rfl rfl (by decide) k_l_with_l_at k_l_with_l_made (@pa_c _ _ _ _ _ (@pe_ix _ _ _ _ _ _ _ (@ixL_k _ (K) (by rfl)) (@pw _ 2 _ _ (Or.inl k_l_with_l_path) (by rfl) (by decide) (by decide)) (@pe_int _ _ _ _) (fun _ _ => rfl)) (@pa_c _ _ _ _ _ (@pe_callTy _ _ _ _ _ _ _ _ _ (@call_list_ofA _ (K) (by rfl)) k_l_with_list T.b_list (@boot_ty_list) (@pa_c _ _ _ _ _ (@pw _ 1 _ _ (Or.inl k_l_with_l_thing) (by rfl) (by decide) (by decide)) (@pa_nil _) rfl) (by decide) (by decide) (by rfl) (by rfl)) (@pa_nil _) rfl) rfl) (by kernel_rfl) (by rfl)) (@pss_cons _ _ _ _ _ (@ps_asg _ _ _ _ _ _ (@pe_call _ _ _ _ _ _ _ _ _ _ _ _ _ _ _ _ G_l_with (hr.mono (by trivial)) k_l_with_l_with T.m_l_with T.F_l_with.kp T.B_l_with .nil (@pass0 _) (@pa_c _ _ _ _ _ (@pw _ 0 _ _ (Or.inl k_l_with_l_box_here) (by rfl) (by decide) (by decide)) (@pa_c _ _ _ _ _ (@pe_ix _ _ _ _ _ _ _ (@ix_k _ (K) (by rfl)) (@pw _ 1 _ _ (Or.inl k_l_with_l_thing) (by rfl) (by decide) (by decide)) (@pw _ 3 _ _ (Or.inl k_l_with_l_at) (by rfl) (by decide) (by decide)) (fun _ _ => rfl)) (@pa_c _ _ _ _ _ (@pe_slice _ _ _ _ _ _ _ _ _ _ (@sl_listA _ (K) (by rfl)) (@pw _ 2 _ _ (Or.inl k_l_with_l_path) (by rfl) (by decide) (by decide)) (@po_some _ _ _ (@pe_int _ _ _ _)) (@po_none _)) (@pa_nil _) rfl) rfl) rfl) (by decide) (by rfl) (by rfl)) (@pg_sub _ _ _ _ _ _ _ (@pw _ 4 _ _ (Or.inl k_l_with_l_made) (by rfl) (by decide) (by decide)) (@pw _ 3 _ _ (Or.inl k_l_with_l_at) (by rfl) (by decide) (by decide)) (@set_listA _) (by intro _; rfl)) (by rfl) (by rfl) (by rfl)) (@pss_one _ _ _ (@ps_ret _ _ _ _ (@pe_ifExp _ _ _ _ _ _ _ _ (@pt_val _ _ _ (@pe_callB _ _ _ _ _ _ _ _ _ (@isinst_k _ (K) (by rfl)) k_l_with_isinstance T.b_isinstance (@boot_b_isinstance) (@pa_c _ _ _ _ _ (@pw _ 1 _ _ (Or.inl k_l_with_l_thing) (by rfl) (by decide) (by decide)) (@pa_c _ _ _ _ _ (@pe_ty _ _ _ _ k_l_with_list T.b_list (@boot_ty_list) (by decide) (by decide)) (@pa_nil _) rfl) rfl) (by decide) (by decide) (by rfl) (by rfl)) (by intro _; rfl)) (@pw _ 4 _ _ (Or.inl k_l_with_l_made) (by rfl) (by decide) (by decide)) (@pe_callTy _ _ _ _ _ _ _ _ _ (@call_tuple_ofA _ (K) (by rfl)) k_l_with_tuple T.b_tuple (@boot_ty_tuple) (@pa_c _ _ _ _ _ (@pw _ 4 _ _ (Or.inl k_l_with_l_made) (by rfl) (by decide) (by decide)) (@pa_nil _) rfl) (by decide) (by decide) (by rfl) (by rfl)))))))), ?_⟩
    refine ⟨_, rfl, (by show 0 ≤ 10000; decide), fun o1 H1 n1 => ⟨.list (r.map fun i : Nat => PyData.int ((i : Nat) : Int)), .list [], fun _ => False, fun _ => False, _, _, _, 1, .lst (n1.sm _ _ hq) id (isNts r), .lst n1.at' id .nil, wt_nts (by trivial) (okP_small wg hok), .list .nil, by decide, _, rfl, ?_⟩⟩
    have s1 : SameE (Eb b) H H1 := n1.sm.toE
    cases r with
    | nil =>
      rw [eqv_nil]
      refine iteT ⟨_, rfl, _, rfl, b, x, t, E', z, N, k, rfl, B.same n1.sm, ht0, ht1, hEb, hal.sm n1.sm, ⟨d, hx.mono n1.sm.toE, wg⟩, hz2, hz, hN, hk, fun y t' H' s' dy B' h1 h2 => K' y t' H' (s1.trans s') dy B' h1 h2⟩
    | cons i r' =>
      rw [eqv_nil]
      obtain ⟨e, hkid, hok'⟩ := hok
      obtain ⟨o, c, ys, ds, rfl, htp, hls, sq, ia, he, hw⟩ := split2 hx hkid
      obtain ⟨m, l, wl, hm, hl⟩ := hw z N k wg
      have hil : i < ys.length := by rw [ia.length]; exact (List.getElem?_eq_some_iff.mp he).1
      obtain ⟨e', he', hv⟩ := ia.get (List.getElem?_eq_getElem hil)
      rw [he] at he'
      cases he'
      obtain ⟨m0, hm0, we, swp⟩ := wgSwap (Nat.le_succ z) wl he
      have hq1 := n1.sm _ _ hq
      have hat0 : atI (nts (i :: r')) 0 = some (V.int (i : Int)) := atI_nat (xs := nts (i :: r')) (j := 0) rfl
      refine iteF ⟨_, rfl, q, _, _, _, rfl, rfl, SqL.of hq1, hat0, _, rfl, o, ys, rfl, sqC2 (sq _ _ n1.sm), fun D H2 n2 => ⟨_, _, rfl, ?_⟩⟩
      have hDH : H D = none := Same.free n1.sm n2.fr
      have s02 := n1.sm.trans n2.sm
      have hq2 := n2.sm _ _ hq1
      refine ⟨_, rfl, _, rfl, _, rfl, ixC (sq _ _ s02) (atI_nat (List.getElem?_eq_getElem hil)) ?_⟩
      refine ⟨_, rfl, _, rfl, q, _, rfl, SqL.of hq2, fun q3 H3 n3 => ?_⟩
      rw [cutV_drop1] at n3
      have s03 := s02.trans n3.sm
      have B3 := B.same s03
      have hD3 : H3 D = some (.lst ys) := n3.sm _ _ n2.at'
      have nDb : ¬ D = b := fun z => B.ne hDH z.symm
      have al3 : Al (fun a => E' a ∨ a = D) H3 := fun a ha => ha.elim (fun q => hal.sm s03 a q) (fun q => by rw [q, hD3]; intro z; cases z)
      refine ⟨b, q3, ys[i], t, e, fun a => E' a ∨ a = D, r', z, m0, l, rfl, B3, ht0, ht1, .inl hEb, al3, (hv.plus hDH).mono s03.toE, we, n3.at', (fun z => (B.same s02).ne n3.fr z.symm), hok', by simp at hrn; trivial, hz2, hz, by trivial, by trivial, fun y t4 H4 s4 dy B4 h4a h4b => ?_⟩
      have hD4 : H4 D = some (.lst ys) := s4.old D _ nDb hD3
      have hq4 := s4.old q _ hqb (n3.sm _ _ hq2)
      have s04 : SameE (Eb b) H H4 := s03.toE.trans s4
      refine ⟨_, rfl, _, rfl, D, ys, (i : Int), i, rfl, rfl, hD4, (by unfold ixN; rw [if_pos (by trivial), if_pos (by trivial)]; rfl), fun H5 c5 => ?_⟩
      have s05 := s04.ch c5 hDH
      have B5 := B4.ch c5 (Ne.symm nDb)
      have dy5 : Dt (z + 1) E' H5 y (3 * m0 + 10) (l + 2) := (dy.sE ⟨fun a u ne h => c5.ol a u (fun z => ne (.inr z)) h, fun a us h => c5.tup h hD4⟩).narrow fun _ h => .inl h
      obtain ⟨dy', hy1, hy2⟩ := dy5
      have dset : Ds (z + 1) E' H5 (ys.set i y) (m - m0 + (3 * m0 + 10)) (l + 2) := ⟨ds.set i dy', (ia.mono (s05.weak hEb)).set hy1 i, swp _ _ _ (by trivial) hy2⟩
      refine ⟨_, rfl, _, _, _, _, rfl, (hx.mono (s05.weak hEb)).ty, kit_list d, _, rfl, ?_⟩
      rw [hls]
      cases c with
      | true =>
        refine iteT ⟨_, rfl, K' _ t4 H5 s05 ?_ B5 h4a h4b⟩
        exact (Dt.lst c5.at' (hal.ne hDH) dset).up (by trivial) (by trivial)
      | false =>
        refine iteF ⟨_, rfl, D, _, rfl, SqL.of c5.at', fun p H6 n6 => K' _ t4 H6 (s05.trans n6.sm.toE) ?_ (B5.same n6.sm) h4a h4b⟩
        exact (Dt.tup n6.at' (dset.sm n6.sm)).up (by trivial) (by trivial)
inductive spSpoilt_ (vs : List V) (H : Hp) (Q : VK) : Prop
  | mk (b : Addr) (x : V) (t : Int) (E : Addr → Prop) (z N k : Nat) (h0 : vs = [.ref b, x]) (h1 : Bx H b t) (h2 : 0 ≤ t) (h3 : t ≤ 900000 - 1) (h4 : E b) (h5 : Al E H) (h6 : Dt z E H x N k) (h7 : 2 ≤ z) (h8 : z ≤ 3) (h9 : N ≤ 1500) (h10 : k ≤ 8) (h11 : ∀ y t' H', SameE (Eb b) H H' → Dt (z + 1) E H' y (3 * N + 10) (k + 2) → Bx H' b t' → t ≤ t' → t' ≤ t + 4 → Q y H')
def spSpoilt : Sp := fun vs H Q _ => spSpoilt_  vs H Q
theorem ok_spoilt (T : Txt K mg) : FnOk P w K mg base CX0 14 T.f_l_spoilt T.d_l_spoilt ["_law_box_here", "_law_thing"] spSpoilt := by
  have G_l_paths_in := ok_paths (P := P) (w := w) (base := base) T 9
  have G_l_with := ok_with (P := P) (w := w) (base := base) T 9
  have G_l_take := ok_take (P := P) (w := w) (base := base) T
  refine T.F_l_spoilt.ok sc_l_spoilt (fun vs H Q E h => ?_) (fun cdv A outer s H vs Q E hr h => ?_)
  · obtain ⟨b, x, t, E', z, N, k, rfl, _⟩ := h
    rfl
  · obtain ⟨b, x, t, E', z, N, k, rfl, B, ht0, ht1, hEb, hal, ⟨d, hx, wg⟩, hz2, hz, hN, hk, K'⟩ := h
    refine ⟨_, (@pss_cons _ _ _ _ _ (@ps_set _ _ (2) _ _ _ _ sc_l_spoilt.nd rfl (Or.inl k_l_spoilt_l_some) (@pe_call _ _ _ _ _ _ _ _ _ _ _ _ _ _ _ _ G_l_paths_in (hr.mono (by decide)) k_l_spoilt_l_paths_in T.m_l_paths_in T.F_l_paths_in.kp T.B_l_paths_in .nil (@pass0 _) (@pa_c _ _ _ _ _ (@pw _ 1 _ _ (Or.inl k_l_spoilt_l_thing) (by rfl) (by decide) (by decide)) (@pa_c _ _ _ _ _ (@pe_lstA _ _ _ _ (@pa_nil _)) (@pa_nil _) rfl) rfl) (by decide) (by rfl) (by rfl)) (by rfl) (by first | exact .inl rfl | exact .inr rfl | assumption)) (@pss_one _ _ _ (@ps_ret _ _ _ _ (@pe_call _ _ _ _ _ _ _ _ _ _ _ _ _ _ _ _ G_l_with (hr.mono (by decide)) k_l_spoilt_l_with T.m_l_with T.F_l_with.kp T.B_l_with .nil (@pass0 _) (@pa_c _ _ _ _ _ (@pw _ 0 _ _ (Or.inl k_l_spoilt_l_box_here) (by rfl) (by decide) (by decide)) (@pa_c _ _ _ _ _ (@pw _ 1 _ _ (Or.inl k_l_spoilt_l_thing) (by rfl) (by decide) (by decide)) (@pa_c _ _ _ _ _ (@pe_ix _ _ _ _ _ _ _ (@ixL_k _ (K) (by rfl)) (@pw _ 2 _ _ (Or.inl k_l_spoilt_l_some) (by rfl) (by decide) (by decide)) (@pe_call _ _ _ _ _ _ _ _ _ _ _ _ _ _ _ _ G_l_take (hr.mono (by decide)) k_l_spoilt_l_take T.m_l_take T.F_l_take.kp T.B_l_take .nil (@pass0 _) (@pa_c _ _ _ _ _ (@pw _ 0 _ _ (Or.inl k_l_spoilt_l_box_here) (by rfl) (by decide) (by decide)) (@pa_c _ _ _ _ _ (@pe_callB _ _ _ _ _ _ _ _ _ (@len_k _ (K) (by rfl)) k_l_spoilt_len T.b_len (@boot_b_len) (@pa_c _ _ _ _ _ (@pw _ 2 _ _ (Or.inl k_l_spoilt_l_some) (by rfl) (by decide) (by decide)) (@pa_nil _) rfl) (by decide) (by decide) (by rfl) (by rfl)) (@pa_nil _) rfl) rfl) (by decide) (by rfl) (by rfl)) (fun _ _ => rfl)) (@pa_nil _) rfl) rfl) rfl) (by decide) (by rfl) (by rfl))))), ?_⟩
    refine ⟨_, rfl, (by show 0 ≤ 10000; decide), fun p H1 n1 => ?_⟩
    refine ⟨x, p, d, E', E', [], z, N, k, rfl, hx.mono n1.sm.toE, n1.at', hal.sm n1.sm, hal.ne n1.fr, wg, by trivial, by trivial, by show 0 + k ≤ 100; trivial, fun D xs H2 s2 hD2 e2 w2 l1 l2 => ?_⟩
    have s02 := n1.sm.trans s2
    have B2 := B.same s02
    have nDb : ¬ D = b := fun z => (B.same n1.sm).ne hD2 z.symm
    refine ⟨_, rfl, _, rfl, _, rfl, _, rfl, _, rfl, D, xs, rfl, .inl (SqL.of e2), b, _, t, rfl, B2, by trivial, log9 (by trivial) (by trivial), ht0, by trivial, fun ix t3 H3 i0 i1 h3a h3b s3 B3 => ?_⟩
    obtain ⟨v, hv⟩ : ∃ v, xs[ix.toNat]? = some v := ⟨_, List.getElem?_eq_getElem (show ix.toNat < xs.length by trivial)⟩
    obtain ⟨q, r, rfl, neq, hq, hok⟩ := w2 v (List.mem_of_getElem? hv)
    rw [List.nil_append] at hq
    have hat := atI_nat hv
    rw [Int.toNat_of_nonneg i0] at hat
    have nqb : q ≠ b := fun z => neq (by rw [z]; exact hEb)
    have s03 : SameE (Eb b) H H3 := s02.toE.trans s3
    have rl := okP_len wg hok
    refine ⟨D, _, _, _, rfl, rfl, SqL.of (s3.old D _ nDb e2), hat, ?_⟩
    refine ⟨b, q, x, t3, d, E', r, z, N, k, rfl, B3, by trivial, by trivial, hEb, hal.sE s03 B3, hx.mono (s03.weak hEb), wg, s3.old q _ nqb hq, nqb, hok, by trivial, hz2, hz, hN, by trivial, fun y t4 H4 s4 dy B4 h4a h4b => K' y t4 H4 (s03.trans s4) dy B4 (by trivial) (by trivial)⟩
end
end K46
namespace K46
open PySem L2
theorem fr0_true {p : KM.Fra} {b : Nat} (h : Fb b p.1 p.2) (h0 : 0 ≤ p.1) : isFr0 (frD p) = true := by
  show ((decide (1 ≤ p.2) && decide (Int.gcd p.1 p.2 = 1)) && decide (0 ≤ p.1)) = true
  rw [decide_eq_true h.pos, decide_eq_true h.co, decide_eq_true h0]; rfl
theorem allMap {α : Type} {f : α → PyData} {g : PyData → Bool} {xs : List α} (h : ∀ x ∈ xs, g (f x) = true) : (xs.map f).all g = true := List.all_eq_true.mpr fun d hd => by
  obtain ⟨t, ht, rfl⟩ := List.mem_map.mp hd
  exact h t ht
theorem wgs_name {l : List Nat} (h : NameC l) : Wg 2 (.str (S l)) 1 0 := .str (by rw [S_len]; have := h.hi; show _ ≤ 16; trivial) (fun c hc => by have := h.az c (by simpa [S] using hc); trivial) (Nat.le_refl _)
theorem wgs_fr {p : KM.Fra} {b : Nat} (h : Fb b p.1 p.2) (hb : b ≤ 202) : Wg 2 (frD p) 3 1 := .tuple (m := 2) (l := 0) (.cons (m := 1) (l := 1) (.int (h.sn.mono hb) (Nat.le_refl _)) (.cons (m := 1) (l := 0) (.int (h.sd.mono hb) (Nat.le_refl _)) .nil (by decide)) (by decide)) (by decide) (by decide)
theorem wgs_pt {ls : List (List Nat)} {t : PT} (hl : ∀ l ∈ ls, NameC l) (h : PTC ls t) : Wg 2 (ptD t) 9 2 :=
  .tuple (m := 8) (l := 1) (.cons (m := 1) (l := 7) ((wgs_name (hl _ h.b)).up (by decide) (by decide)) (.cons (m := 1) (l := 6) ((wgs_name (hl _ h.e)).up (by decide) (by decide)) (.cons (m := 3) (l := 3) (wgs_fr h.fm (by decide)) (.cons (m := 3) (l := 0) (wgs_fr h.fg (by decide)) .nil (by decide)) (by decide)) (by decide)) (by decide)) (by decide) (by decide)
theorem wgs_tu {ls ss : List (List Nat)} {t : TU} (hl : ∀ l ∈ ls, NameC l) (hs : ∀ l ∈ ss, NameC l) (h : TUC ls ss t) : Wg 2 (tuD t) 10 2 :=
  .tuple (m := 9) (l := 1) (.cons (m := 1) (l := 8) ((wgs_name (hl _ h.p)).up (by decide) (by decide)) (.cons (m := 1) (l := 7) ((wgs_name (hs _ h.s)).up (by decide) (by decide)) (.cons (m := 1) (l := 6) ((wgs_name (hs _ h.o)).up (by decide) (by decide)) (.cons (m := 3) (l := 3) (wgs_fr h.fm (by decide)) (.cons (m := 3) (l := 0) (wgs_fr h.fg (by decide)) .nil (by decide)) (by decide)) (by decide)) (by decide)) (by decide)) (by decide) (by decide)
theorem wgs_we {lo : Int} {ls ss : List (List Nat)} {t : WE} (hl : ∀ l ∈ ls, NameC l) (hs : ∀ l ∈ ss, NameC l) (h : WEC lo ls ss t) : Wg 2 (weD t) 6 2 :=
  .tuple (m := 5) (l := 1) (.cons (m := 1) (l := 4) ((wgs_name (hl _ h.p)).up (by decide) (by decide)) (.cons (m := 1) (l := 3) ((wgs_name (hs _ h.s)).up (by decide) (by decide)) (.cons (m := 3) (l := 0) (wgs_fr h.fm (by decide)) .nil (by decide)) (by decide)) (by decide)) (by decide) (by decide)
theorem wgL_map {α : Type} {f : α → PyData} {z m k : Nat} : ∀ {xs : List α}, (∀ x ∈ xs, Wg z (f x) m k) → WgL z (xs.map f) (m * xs.length) k
  | [], _ => .nil
  | x :: r, h => .cons (m := m) (l := m * r.length) (h x (by simp)) (wgL_map fun y hy => h y (List.mem_cons_of_mem _ hy)) (by rw [List.length_cons, Nat.mul_succ, Nat.add_comm]; exact Nat.le_refl _)
theorem wgs_names {ls : List (List Nat)} {n : Nat} (h : ∀ l ∈ ls, NameC l) (hn : ls.length ≤ n) : Wg 2 (.tuple (strsD ls)) (n + 1) 1 :=
  .tuple (m := n) (l := 0) ((wgL_map (m := 1) (k := 0) fun l hl => wgs_name (h l hl)).up (by trivial) (Nat.le_refl _)) (Nat.le_refl _) (Nat.le_refl _)
theorem wgs_rows {α : Type} {f : α → PyData} {m n : Nat} {xs : List α} (h : ∀ x ∈ xs, Wg 2 (f x) m 2) (hn : m * xs.length ≤ n) : Wg 2 (.tuple (xs.map f)) (n + 1) 3 :=
  .tuple (m := n) (l := 2) ((wgL_map h).up hn (Nat.le_refl _)) (Nat.le_refl _) (Nat.le_refl _)
theorem plan_wg {ls ss : List (List Nat)} {ts : List PT} {us : List TU} {ws qs : List WE} (c : PlC ls ss ts us ws qs) : Wg 2 (planD ls ss ts us ws qs) 323 4 := by
  have hl := c.l6; have hs := c.s4; have ht := c.t12; have hu := c.u12; have hw := c.w7; have hq := c.q6
  have w1 := wgs_names (n := 6) c.lc hl
  have w2 := wgs_names (n := 4) c.sc hs
  have w3 := wgs_rows (n := 108) (fun x hx => wgs_pt c.lc (c.tc x hx)) (by trivial)
  have w4 := wgs_rows (n := 120) (fun x hx => wgs_tu c.lc c.sc (c.uc x hx)) (by trivial)
  have w5 := wgs_rows (n := 42) (fun x hx => wgs_we c.lc c.sc (c.wc x hx)) (by trivial)
  have w6 := wgs_rows (n := 36) (fun x hx => wgs_we c.lc c.sc (c.qc x hx)) (by trivial)
  exact .tuple (m := 322) (l := 3) (.cons (m := 7) (l := 315) (w1.up (Nat.le_refl _) (by decide)) (.cons (m := 5) (l := 310) (w2.up (Nat.le_refl _) (by decide)) (.cons (m := 109) (l := 201) w3 (.cons (m := 121) (l := 80) w4 (.cons (m := 43) (l := 37) w5 (.cons (m := 37) (l := 0) w6 .nil (by decide)) (by decide)) (by decide)) (by decide)) (by decide)) (by decide)) (by decide) (by decide)
end K46
namespace K46
open PySem L2
def frOf : PyData → KM.Fra
  | .tuple [.int n, .int e] => (n, e)
  | _ => (0, 1)
def leF (p m : KM.Fra) : Bool := decide (p.1 * m.2 ≤ m.1 * p.2)
def zall {β : Type} (f : PyData → β → Bool) (ds : List PyData) (ms : List β) : Bool := (List.zipWith f ds ms).all id
def loadB (n : Nat) (m : KM.Fra) : PyData → Bool
  | .list ds => decide (ds.length = n) && (ds.all isFr0 && leF (KM.sumF (ds.map frOf)) m)
  | _ => false
def partsB (ms : List KM.Fra) : PyData → Bool
  | .list ds => decide (ds.length = ms.length) && zall within ds ms
  | _ => false
def goesB (n : Nat) (ts : List PT) : PyData → Bool
  | .list ds => decide (ds.length = ts.length) && zall (fun d t => loadB n t.most d) ds ts
  | _ => false
def sendB (n : Nat) (ts : List PT) (us : List TU) (ws : List WE) (d : PyData) : Bool := match d with
  | .tuple [g, t, w] => goesB n ts g && (partsB (us.map TU.most) t && partsB (ws.map WE.most) w)
  | _ => false
theorem sendB_no {n : Nat} {ts : List PT} {us : List TU} {ws : List WE} {d : PyData} (h : isTupN 3 d = false) : sendB n ts us ws d = false := by
  cases d with
  | tuple ds => rcases ds with _ | ⟨a, _ | ⟨b, _ | ⟨c, _ | ⟨z, r⟩⟩⟩⟩ <;> first | rfl | cases h
  | _ => rfl
theorem leF_vl {p m : KM.Fra} (hp : KM.Rd p) (hm : KM.Rd m) : leF p m = true ↔ KM.vl p ≤ KM.vl m := by
  unfold leF
  rw [decide_eq_true_iff, Rat.le_iff_sub_nonneg]
  unfold KM.vl
  rw [Rat.divInt_sub_divInt _ _ hm.nz hp.nz, Rat.divInt_nonneg_iff_of_pos_right (Int.mul_pos (by have := hm.1; trivial) (by have := hp.1; trivial))]
  trivial
theorem vl_nn {p : KM.Fra} (hp : KM.Rd p) : 0 ≤ KM.vl p ↔ 0 ≤ p.1 := Rat.divInt_nonneg_iff_of_pos_right (by have := hp.1; trivial)
theorem fr0_facts {d : PyData} (h : isFr0 d = true) : KM.Rd (frOf d) ∧ 0 ≤ (frOf d).1 ∧ d = frD (frOf d) := by
  obtain ⟨n, e, rfl⟩ := fr0_inv h
  have h' : ((decide (1 ≤ e) && decide (Int.gcd n e = 1)) && decide (0 ≤ n)) = true := h
  rw [Bool.and_eq_true, Bool.and_eq_true, decide_eq_true_iff, decide_eq_true_iff, decide_eq_true_iff] at h'
  exact ⟨⟨h'.1.1, h'.1.2⟩, h'.2, rfl⟩
theorem within_eq (d : PyData) (m : KM.Fra) : within d m = (isFr0 d && leF (frOf d) m) := by
  cases h : isFr0 d with
  | false => rw [within_false h]; rfl
  | true =>
    obtain ⟨n, e, rfl⟩ := fr0_inv h
    have h' : (isFr (.tuple [.int n, .int e]) && decide (0 ≤ n)) = true := h
    show ((isFr (.tuple [.int n, .int e]) && decide (0 ≤ n)) && decide (n * m.2 ≤ m.1 * e)) = _
    rw [h']; rfl
theorem rsum_nn : ∀ {xs : List Rat}, (∀ x ∈ xs, 0 ≤ x) → 0 ≤ KM.rsum xs ∧ ∀ x ∈ xs, x ≤ KM.rsum xs
  | [], _ => ⟨by show (0 : Rat) ≤ 0; grind, fun x h => by cases h⟩
  | y :: r, h => by
    obtain ⟨h1, h2⟩ := rsum_nn (xs := r) fun x hx => h x (List.mem_cons_of_mem _ hx)
    have hy := h y (by simp)
    refine ⟨by show 0 ≤ y + KM.rsum r; grind, fun x hx => ?_⟩
    show x ≤ y + KM.rsum r
    rcases List.mem_cons.mp hx with e | e
    · rw [e]; grind
    · have := h2 x e; grind
theorem zall_rep {f : PyData → KM.Fra → Bool} {m : KM.Fra} : ∀ {ds : List PyData}, zall f ds (List.replicate ds.length m) = ds.all fun d => f d m
  | [] => rfl
  | d :: r => by
    show (f d m && zall f r (List.replicate r.length m)) = _
    rw [zall_rep (ds := r)]; rfl
theorem load_eq {n : Nat} {m : KM.Fra} (hm : KM.Rd m) (ds : List PyData) : (partsB (List.replicate n m) (.list ds) && leF (KM.sumF (ds.map frOf)) m) = loadB n m (.list ds) := by
  show ((decide (ds.length = (List.replicate n m).length) && zall within ds (List.replicate n m)) && leF (KM.sumF (ds.map frOf)) m) = (decide (ds.length = n) && (ds.all isFr0 && leF (KM.sumF (ds.map frOf)) m))
  rw [List.length_replicate]
  by_cases hl : ds.length = n
  · subst hl
    rw [decide_eq_true rfl, Bool.true_and, Bool.true_and, zall_rep]
    cases hs : leF (KM.sumF (ds.map frOf)) m with
    | false => rw [Bool.and_false, Bool.and_false]
    | true =>
      rw [Bool.and_true, Bool.and_true]
      cases ha : ds.all isFr0 with
      | false =>
        rw [List.all_eq_false] at ha ⊢
        obtain ⟨d, hd, h0⟩ := ha
        refine ⟨d, hd, ?_⟩
        rw [within_false (Bool.eq_false_iff.mpr h0)]
        decide
      | true =>
        rw [List.all_eq_true] at ha ⊢
        have rd : ∀ p ∈ ds.map frOf, KM.Rd p := fun p hp => by
          obtain ⟨d, hd, rfl⟩ := List.mem_map.mp hp
          exact (fr0_facts (ha d hd)).1
        obtain ⟨a1, a2⟩ := KM.sumF_vl rd
        have hs' := (leF_vl a1 hm).mp hs
        rw [a2] at hs'
        have nn : ∀ x ∈ (ds.map frOf).map KM.vl, 0 ≤ x := fun x hx => by
          obtain ⟨p, hp, rfl⟩ := List.mem_map.mp hx
          obtain ⟨d, hd, rfl⟩ := List.mem_map.mp hp
          obtain ⟨r1, r2, _⟩ := fr0_facts (ha d hd)
          exact (vl_nn r1).mpr r2
        intro d hd
        rw [within_eq, ha d hd, Bool.true_and]
        obtain ⟨r1, r2, _⟩ := fr0_facts (ha d hd)
        refine (leF_vl r1 hm).mpr (Rat.le_trans ?_ hs')
        exact (rsum_nn nn).2 _ (List.mem_map_of_mem (List.mem_map_of_mem hd))
  · rw [decide_eq_false hl]; rfl
theorem zall_step {β : Type} {f : PyData → β → Bool} {ds : List PyData} {ms : List β} {i : Nat} {d : PyData} {m : β} (h1 : ds[i]? = some d) (h2 : ms[i]? = some m) : zall f (ds.drop i) (ms.drop i) = (f d m && zall f (ds.drop (i + 1)) (ms.drop (i + 1))) := by
  obtain ⟨l1, e1⟩ := List.getElem?_eq_some_iff.mp h1
  obtain ⟨l2, e2⟩ := List.getElem?_eq_some_iff.mp h2
  rw [List.drop_eq_getElem_cons l1, List.drop_eq_getElem_cons l2, e1, e2]
  rfl
theorem all_zip {β : Type} {K : PySem.W.Frag} {E F : Addr → Prop} {a1 a2 : Addr} {c1 c2 : Bool} {xs ys : List V} {ds : List PyData} {ms : List β} {g : β → PyData} {H1 : Hp} {σc : St} {te : TE} {Q : VK} {j1 j2 : Nat} (f : PyData → β → Bool) (h1 : ∀ H', Same H1 H' → SqC K H' a1 xs c1) (h2 : ∀ H', Same H1 H' → SqC K H' a2 ys c2) (r : IsAll E H1 xs ds) (q : IsAll F H1 ys (ms.map g)) (hl : ds.length = ms.length) (hz : ds.length ≤ 10000)
    (step : ∀ x y dx m H' (R : VK), dx ∈ ds → m ∈ ms → IsD E H' x dx → IsD F H' y (g m) → Same H1 H' → (∀ H4, Same H' H4 → R (.bl (f dx m)) H4) → (fun σ2 H2 => Back σc σ2 ∧ te σ2 H2 R) ((σc.set j1 (some x)).set j2 (some y)) H')
    (fin : ∀ D H', Same H1 H' → H' D = some (.lst ((List.zipWith f ds ms).map V.bl)) → Q (.ref D) H') : ∀ D, H1 D = none → CompW (Itz K a1 a2 c1 c2) σc (gTup K 2 (gCons (gName j1) (gCons (gName j2) gNil))) tT te D H1 Q := fun D hD => by
  have l1 := r.length
  have l2 := q.length
  rw [List.length_map] at l2
  have hmin : min xs.length ys.length = ds.length := by trivial
  refine comp_mapZ (xs := xs) (ys := ys) (fun i => .bl (((List.zipWith f ds ms)[i]?).getD false)) (by trivial) hD h1 h2 ?_ ?_
  · intro i x y H' R hx hy sm kk
    obtain ⟨dx, e1, g1⟩ := r.get hx
    obtain ⟨dy, e2, g2⟩ := q.get hy
    rw [List.getElem?_map] at e2
    obtain ⟨m, e3, rfl⟩ := Option.map_eq_some_iff.mp e2
    have ez : (List.zipWith f ds ms)[i]? = some (f dx m) := by rw [List.getElem?_zipWith, e1, e3]
    rw [ez] at kk
    exact step x y dx m H' R (List.mem_of_getElem? e1) (List.mem_of_getElem? e3) (g1.mono sm.toE) (g2.mono sm.toE) sm kk
  · intro H2 s2 hD2
    have lz : (List.zipWith f ds ms).length = ds.length := by rw [List.length_zipWith]; trivial
    have e3 : (List.range (min xs.length ys.length)).map (fun i => V.bl (((List.zipWith f ds ms)[i]?).getD false)) = (List.zipWith f ds ms).map V.bl := by
      rw [hmin, ← lz, map_range_get (fun i => V.bl (((List.zipWith f ds ms)[i]?).getD false)) V.bl (List.zipWith f ds ms) (fun i x e => by rw [e]; rfl)]
    rw [e3] at hD2
    exact fin D H2 s2 hD2
theorem all_lst {K : PySem.W.Frag} {E : Addr → Prop} {q : Addr} {zs : List V} {ds : List PyData} {H1 : Hp} {σc : St} {g : TG} {te : TE} {Q : VK} (f : PyData → Bool) (hq : H1 q = some (.lst zs)) (r : IsAll E H1 zs ds) (hl : zs.length ≤ 10000)
    (step : ∀ x dx H' (R : VK), dx ∈ ds → IsD E H' x dx → Same H1 H' → (∀ H4, Same H' H4 → R (.bl (f dx)) H4) → g x σc H' fun σ2 H2 => Back σc σ2 ∧ te σ2 H2 R)
    (fin : ∀ D H', Same H1 H' → H' D = some (.lst ((ds.map f).map V.bl)) → Q (.ref D) H') : ∀ D, H1 D = none → CompW (Itl K q) σc g tT te D H1 Q := fun D hD => by
  refine comp_mapL (xs := zs) (fun i => .bl (f ((ds[i]?).getD .none))) hl hD hq ?_ ?_
  · intro i x H' R hxi sm kk
    obtain ⟨dx, e1, g1⟩ := r.get hxi
    rw [e1] at kk
    exact step x dx H' R (List.mem_of_getElem? e1) (g1.mono sm.toE) sm kk
  · intro H2 s2 hD2
    have e3 : (List.range zs.length).map (fun i => V.bl (f ((ds[i]?).getD .none))) = (ds.map f).map V.bl := by
      rw [r.length, map_range_get (fun i => V.bl (f ((ds[i]?).getD .none))) (fun d => V.bl (f d)) ds (fun i x e => by rw [e]; rfl), List.map_map]
      rfl
    rw [e3] at hD2
    exact fin D H2 s2 hD2
theorem map_tup {K : PySem.W.Frag} {β : Type} {q : Addr} {zs : List V} {ms : List β} {g : β → PyData} {h : β → KM.Fra} {H1 : Hp} {σc : St} {tg : TG} {te : TE} {Q : VK} (hq : H1 q = some (.tup zs)) (r : IsAll ED H1 zs (ms.map g)) (hl : zs.length ≤ 10000)
    (step : ∀ x m H' (R : VK), m ∈ ms → IsD ED H' x (g m) → Same H1 H' → (∀ y, IsD ED H' y (frD (h m)) → R y H') → tg x σc H' fun σ2 H2 => Back σc σ2 ∧ te σ2 H2 R)
    (fin : ∀ D H' ys, Same H1 H' → H' D = some (.lst ys) → IsAll ED H' ys (ms.map fun m => frD (h m)) → Q (.ref D) H') : ∀ D, H1 D = none → CompW (Itt K q) σc tg tT te D H1 Q := fun D hD => by
  have lz := r.length
  rw [List.length_map] at lz
  refine comp_each (n := zs.length) (fun i H' ys => H' D = some (.lst ys) ∧ ys.length = i ∧ Same H1 H' ∧ IsAll ED H' ys ((ms.take i).map fun m => frD (h m))) (sz_of hl) ⟨upd_same, rfl, same_lst hD (Same.refl _), .nil⟩ ?_ ?_ ?_ ?_ ?_
  · rintro i H' ys ⟨e, rfl, _⟩
    exact ⟨e, Nat.le_refl _⟩
  · rintro i H' ys hi ⟨_, _, sm, _⟩
    exact ⟨zs, zs[i], SqT.of (sm _ _ hq), by simp [hi]⟩
  · rintro H' ys ⟨_, _, sm, _⟩
    exact ⟨zs, SqT.of (sm _ _ hq), Nat.le_refl _⟩
  · rintro i H' ys x H'' hi ⟨e, rfl, sm, ia⟩ ⟨rfl, ex⟩
    obtain ⟨dx, e1, g1⟩ := r.get (ex _ (SqT.of (sm _ _ hq)))
    rw [List.getElem?_map] at e1
    obtain ⟨m, e2, rfl⟩ := Option.map_eq_some_iff.mp e1
    refine step x m H'' _ (List.mem_of_getElem? e2) (g1.mono sm.toE) sm fun y iy => ?_
    have c' : Ch H'' D (ys ++ [y]) (upd H'' D (.lst (ys ++ [y]))) := Ch.mk'
    refine ⟨e, upd_same, by rw [List.length_append]; rfl, same_lst hD sm, ?_⟩
    rw [ptake e2, List.map_append]
    exact all_snoc c' e ia iy
  · rintro H' ys ⟨e, el, sm, ia⟩
    rw [lz, List.take_length] at ia
    exact fin D H' ys sm e ia
end K46
namespace K46
open PySem L2
theorem wgL_wt {z : Nat} (hz : z ≤ 4) {ds : List PyData} {n k : Nat} (h : WgL z ds n k) {d : PyData} (hd : d ∈ ds) : ∃ m, m ≤ n ∧ Wt d m k ∧ Wg z d n k := by
  obtain ⟨i, e⟩ := List.getElem?_of_mem hd
  have g := h.get e
  obtain ⟨m, h1, h2⟩ := g.wt hz
  exact ⟨m, h1, h2, g⟩
theorem fl_of {E : Addr → Prop} {H : Hp} {z n k : Nat} : ∀ {xs : List V} {ds : List PyData}, IsAll E H xs ds → WgL z ds n k → ds.all isFr0 = true → FL (200 + z) H xs (ds.map frOf)
  | _, _, .nil, _, _ => .nil
  | _, _, .cons (d := d) h r, w, hb => by
    rw [List.all_cons, Bool.and_eq_true] at hb
    cases w with
    | cons w1 w2 hn =>
    obtain ⟨r1, r2, e⟩ := fr0_facts hb.1
    rw [e] at h w1
    obtain ⟨o, rfl, ho⟩ := isF_inv h
    refine .cons ho ⟨?_, ?_, r1.1, r1.2⟩ (fl_of r (w2.up (Nat.le_refl _) (Nat.le_refl _)) hb.2)
    · cases w1 with
      | tuple w1 _ _ =>
        cases w1 with
        | cons w1 _ _ => cases w1 with | int h _ => exact h
    · cases w1 with
      | tuple w1 _ _ =>
        cases w1 with
        | cons _ w1 _ => cases w1 with | cons w1 _ _ => cases w1 with | int h _ => exact h
theorem fl_up {c e : Nat} {H : Hp} {xs : List V} {ps : List KM.Fra} (h : FL c H xs ps) (hc : c ≤ e) : FL e H xs ps := by
  induction h with
  | nil => exact .nil
  | cons h f r ih => exact .cons h (f.mono hc) ih
theorem cmp_le (a b : Int) : decide (cmpI a b ≤ 0) = decide (a ≤ b) := by
  unfold cmpI
  by_cases q1 : a < b
  · rw [if_pos q1, decide_eq_true (by trivial : a ≤ b)]; rfl
  · rw [if_neg q1]
    by_cases q2 : b < a
    · rw [if_pos q2, decide_eq_false (by trivial : ¬ a ≤ b)]; rfl
    · rw [if_neg q2, decide_eq_true (by trivial : a ≤ b)]; rfl
section
variable {P : Program} {w : World} {K : PySem.W.Frag} {mg : Str → Option Value} {base : Heap}
inductive spParts_ (vs : List V) (H : Hp) (Q : VK) : Prop
  | mk (x : V) (ml : Addr) (d : PyData) (E : Addr → Prop) (ys : List V) (ms : List KM.Fra) (wn wk : Nat) (h0 : vs = [x, .ref ml]) (h1 : IsD E H x d) (h2 : Wt d wn wk) (h3 : wn ≤ 3000) (h4 : wk ≤ 40) (h5 : H ml = some (.lst ys)) (h6 : IsAll ED H ys (ms.map frD)) (h7 : (∀ m ∈ ms, Fb 24 m.1 m.2)) (h8 : ms.length ≤ 100) (h9 : ∀ H', Same H H' → Q (.bl (partsB ms d)) H')
def spParts : Sp := fun vs H Q _ => spParts_  vs H Q
theorem ok_are_within (T : Txt K mg) : FnOk P w K mg base CX0 5 T.f_are_within T.d_are_within ["thing", "mosts"] spParts := by
  have G_goes_within := ok_goes_within (P := P) (w := w) (base := base) T
  refine T.F_are_within.ok sc_are_within (fun vs H Q E h => ?_) (fun cdv A outer s H vs Q E hr h => ?_)
  · obtain ⟨x, ml, d, E', ys, ms, wn, wk, rfl, _⟩ := h
    rfl
  · obtain ⟨x, ml, d, E', ys, ms, wn, wk, rfl, hx, wd, hwn, hwk, hml, iy, fm, hm100, k⟩ := h
    refine ⟨_, (@pss_cons _ _ _ _ _ (@ps_if _ _ _ _ _ _ _ _ (@PW.pt _ _ _ (@pw_or _ _ _ _ _ _ _ (@pt_not _ _ _ _ (@pt_val _ _ _ (@pe_callB _ _ _ _ _ _ _ _ _ (@isinst_k _ (K) (by rfl)) k_are_within_isinstance T.b_isinstance (@boot_b_isinstance) (@pa_c _ _ _ _ _ (@pw _ 0 _ _ (Or.inl k_are_within_thing) (by rfl) (by decide) (by decide)) (@pa_c _ _ _ _ _ (@pe_ty _ _ _ _ k_are_within_list T.b_list (@boot_ty_list) (by decide) (by decide)) (@pa_nil _) rfl) rfl) (by decide) (by decide) (by rfl) (by rfl)) (by intro _; rfl))) (@pw_or1 _ _ _ _ (@pt_cmpR _ _ _ _ _ _ _ _ (@op_ne _) (@pe_callB _ _ _ _ _ _ _ _ _ (@len_k _ (K) (by rfl)) k_are_within_len T.b_len (@boot_b_len) (@pa_c _ _ _ _ _ (@pw _ 0 _ _ (Or.inl k_are_within_thing) (by rfl) (by decide) (by decide)) (@pa_nil _) rfl) (by decide) (by decide) (by rfl) (by rfl)) (@pe_callB _ _ _ _ _ _ _ _ _ (@len_k _ (K) (by rfl)) k_are_within_len T.b_len (@boot_b_len) (@pa_c _ _ _ _ _ (@pw _ 1 _ _ (Or.inl k_are_within_mosts) (by rfl) (by decide) (by decide)) (@pa_nil _) rfl) (by decide) (by decide) (by rfl) (by rfl)) (@nomark _ _ (by decide) (by decide)))))) (@pss_one _ _ _ (@ps_ret _ _ _ _ (@pe_bl _ _ _ _))) (@pss_nil _)) (@pss_one _ _ _ (@ps_ret _ _ _ _ (@pe_callB _ _ _ _ _ _ _ _ _ (@all_k _ (K) rfl (by rfl)) k_are_within_all T.b_all (@boot_b_all) (@pa_c _ _ _ _ _ (@pe_comp _ _ _ _ _ _ _ (["much", "most"]) (2) ([]) _ _ _ _ rfl (by kernel_rfl) (@pi_zip_k _ (K) _ _ _ _ _ _ _ _ k_are_within_zip T.b_zip (@pa_c _ _ _ _ _ (@pw _ 0 _ _ (Or.inl k_are_within_thing) (by rfl) (by decide) (by decide)) (@pa_c _ _ _ _ _ (@pw _ 1 _ _ (Or.inl k_are_within_mosts) (by rfl) (by decide) (by decide)) (@pa_nil _) rfl) rfl) (by rfl) (by rfl) (by rfl)) (fun _ _ _ _ _ _ => (@pg_tup_k _ (K) _ _ _ _ (2) rfl (@pgs_cons _ _ _ _ _ (@pg_name _ _ (0) _ (@nodupS _ (by kernel_rfl)) rfl (Or.inl (by kernel_rfl)) (by first | exact .inl rfl | exact .inr rfl | assumption)) (@pgs_cons _ _ _ _ _ (@pg_name _ _ (1) _ (@nodupS _ (by kernel_rfl)) rfl (Or.inl (by kernel_rfl)) (by first | exact .inl rfl | exact .inr rfl | assumption)) (@pgs_nil _) (by rfl)) (by rfl)) (by rfl) (by rfl) (by rfl))) (fun _ _ _ _ _ _ => @pifs_nil _) (fun _ _ _ _ _ _ => (@pe_call _ _ _ _ _ _ _ _ _ _ _ _ _ _ _ _ G_goes_within (hr.mono (by decide)) (by show _ = _; kernel_rfl) T.m_goes_within T.F_goes_within.kp T.B_goes_within .nil (@pass0 _) (@pa_c _ _ _ _ _ (@pw _ 0 _ _ (Or.inl (by kernel_rfl)) (by rfl) (by decide) (by decide)) (@pa_c _ _ _ _ _ (@pw _ 1 _ _ (Or.inl (by kernel_rfl)) (by rfl) (by decide) (by decide)) (@pa_nil _) rfl) rfl) (by decide) (by rfl) (by rfl))) (by intro _; rfl)) (@pa_nil _) rfl) (by decide) (by decide) (by rfl) (by rfl))))), ?_⟩
    refine ⟨_, rfl, _, _, _, _, rfl, hx.ty, kit_list d, _, rfl, ?_⟩
    have k0 := k H (Same.refl _)
    cases hx with
    | non => exact iteT (iteT k0)
    | bl b => exact iteT (iteT k0)
    | int i => exact iteT (iteT k0)
    | str y => exact iteT (iteT k0)
    | tup h r => exact iteT (iteT k0)
    | @lst a xs ds h ne r =>
      have lx := r.length
      have ly := iy.length
      rw [List.length_map] at ly
      have eP : partsB ms (.list ds) = (decide (ds.length = ms.length) && zall within ds ms) := rfl
      refine iteF ⟨_, rfl, a, xs, rfl, .inl (SqL.of h), _, rfl, ml, ys, rfl, .inl (SqL.of hml), rfl, _, rfl, ?_⟩
      by_cases hl : ds.length = ms.length
      · have ee : (!decide (V.int (xs.length : Int) = V.int (ys.length : Int))) = false := by
          rw [show xs.length = ys.length by trivial]; exact eq_len _
        rw [ee]
        rw [eP, decide_eq_true hl, Bool.true_and] at k
        refine iteF ⟨_, rfl, _, rfl, a, ml, true, true, rfl, ⟨_, SqL.of h⟩, ⟨_, SqL.of hml⟩, all_zip (E := E') (F := ED) (g := frD) within (fun H' s' => SqL.of (s' _ _ h)) (fun H' s' => SqL.of (s' _ _ hml)) r iy hl (by trivial) ?_ ?_⟩
        · intro x y dx m H' R hdx hm gx gy sm kk
          obtain ⟨mw, _, wx⟩ : ∃ mw, mw ≤ wn ∧ Wt dx mw wk := by
            cases wd with
            | list wl =>
              obtain ⟨mw, q1, q2⟩ := wtL_mem wl hdx
              exact ⟨mw, by trivial, q2.deep (by trivial)⟩
          exact ⟨back2, _, rfl, _, rfl, x, y, dx, E', ED, m, mw, wk, rfl, gx, wx, gy, (fm m hm).mono (by decide), kk H' (Same.refl _)⟩
        · intro D H1 s1 hD1
          exact ⟨D, _, rfl, SqL.of hD1, k H1 s1⟩
      · rw [eP, decide_eq_false hl, Bool.false_and] at k0
        have : (!decide (V.int (xs.length : Int) = V.int (ys.length : Int))) = true := ne_len (by trivial)
        rw [this]
        exact iteT k0
inductive spLoad_ (K : PySem.W.Frag) (vs : List V) (H : Hp) (Q : VK) : Prop
  | mk (x : V) (n : Nat) (o : Addr) (d : PyData) (E : Addr → Prop) (m : KM.Fra) (z N k : Nat) (h0 : vs = [x, .int (n : Int), .ref o]) (h1 : IsD E H x d) (h2 : Wg z d N k) (h3 : z ≤ 4) (h4 : N ≤ 3000) (h5 : k ≤ 40) (h6 : H o = some (fr m)) (h7 : Fb 24 m.1 m.2) (h8 : n ≤ 4) (h9 : ∀ H', Same H H' → Q (.bl (loadB n m d)) H')
def spLoad (K : PySem.W.Frag) : Sp := fun vs H Q _ => spLoad_ K vs H Q
theorem ok_goes_together (T : Txt K mg) : FnOk P w K mg base CX0 5 T.f_goes_together T.d_goes_together ["thing", "size", "most"] (spLoad K) := by
  have G_is_from_nought := ok_is_from_nought (P := P) (w := w) (base := base) T
  have G_sum_of := ok_sumW (P := P) (w := w) (base := base) T
  have G_compared := ok_compared (P := P) (w := w) (base := base) T
  refine T.F_goes_together.ok sc_goes_together (fun vs H Q E h => ?_) (fun cdv A outer s H vs Q E hr h => ?_)
  · obtain ⟨x, n, o, d, E', m, z, N, kk, rfl, _⟩ := h
    rfl
  · obtain ⟨x, n, o, d, E', m, z, N, kd, rfl, hx, wd, hz, hN, hkd, ho, fm, hn4, k⟩ := h
    refine ⟨_, (@pss_cons _ _ _ _ _ (@ps_if _ _ _ _ _ _ _ _ (@PW.pt _ _ _ (@pw_or _ _ _ _ _ _ _ (@pt_not _ _ _ _ (@pt_val _ _ _ (@pe_callB _ _ _ _ _ _ _ _ _ (@isinst_k _ (K) (by rfl)) k_goes_together_isinstance T.b_isinstance (@boot_b_isinstance) (@pa_c _ _ _ _ _ (@pw _ 0 _ _ (Or.inl k_goes_together_thing) (by rfl) (by decide) (by decide)) (@pa_c _ _ _ _ _ (@pe_ty _ _ _ _ k_goes_together_list T.b_list (@boot_ty_list) (by decide) (by decide)) (@pa_nil _) rfl) rfl) (by decide) (by decide) (by rfl) (by rfl)) (by intro _; rfl))) (@pw_or _ _ _ _ _ _ _ (@pt_cmpR _ _ _ _ _ _ _ _ (@op_ne _) (@pe_callB _ _ _ _ _ _ _ _ _ (@len_k _ (K) (by rfl)) k_goes_together_len T.b_len (@boot_b_len) (@pa_c _ _ _ _ _ (@pw _ 0 _ _ (Or.inl k_goes_together_thing) (by rfl) (by decide) (by decide)) (@pa_nil _) rfl) (by decide) (by decide) (by rfl) (by rfl)) (@pw _ 1 _ _ (Or.inl k_goes_together_size) (by rfl) (by decide) (by decide)) (@nomark _ _ (by decide) (by decide))) (@pw_or1 _ _ _ _ (@pt_not _ _ _ _ (@pt_val _ _ _ (@pe_callB _ _ _ _ _ _ _ _ _ (@all_k _ (K) rfl (by rfl)) k_goes_together_all T.b_all (@boot_b_all) (@pa_c _ _ _ _ _ (@pe_comp _ _ _ _ _ _ _ (["much"]) (1) ([]) _ _ _ _ rfl (by kernel_rfl) (@pi_list_k _ (K) _ _ _ (@pw _ 0 _ _ (Or.inl k_goes_together_thing) (by rfl) (by decide) (by decide)) (by rfl)) (fun _ _ _ _ _ _ => (@pg_name _ _ (0) _ (@nodupS _ (by kernel_rfl)) rfl (Or.inl (by kernel_rfl)) (by first | exact .inl rfl | exact .inr rfl | assumption))) (fun _ _ _ _ _ _ => @pifs_nil _) (fun _ _ _ _ _ _ => (@pe_call _ _ _ _ _ _ _ _ _ _ _ _ _ _ _ _ G_is_from_nought (hr.mono (by decide)) (by show _ = _; kernel_rfl) T.m_is_from_nought T.F_is_from_nought.kp T.B_is_from_nought .nil (@pass0 _) (@pa_c _ _ _ _ _ (@pw _ 0 _ _ (Or.inl (by kernel_rfl)) (by rfl) (by decide) (by decide)) (@pa_nil _) rfl) (by decide) (by rfl) (by rfl))) (by intro _; rfl)) (@pa_nil _) rfl) (by decide) (by decide) (by rfl) (by rfl)) (by intro _; rfl))))))) (@pss_one _ _ _ (@ps_ret _ _ _ _ (@pe_bl _ _ _ _))) (@pss_nil _)) (@pss_one _ _ _ (@ps_ret _ _ _ _ (@pe_cmpR _ _ _ _ _ _ _ _ (@op_le _) (@pe_call _ _ _ _ _ _ _ _ _ _ _ _ _ _ _ _ G_compared (hr.mono (by decide)) k_goes_together_compared T.m_compared T.F_compared.kp T.B_compared .nil (@pass0 _) (@pa_c _ _ _ _ _ (@pe_call _ _ _ _ _ _ _ _ _ _ _ _ _ _ _ _ G_sum_of (hr.mono (by decide)) k_goes_together_sum_of T.m_sum_of T.F_sum_of.kp T.B_sum_of .nil (@pass0 _) (@pa_c _ _ _ _ _ (@pw _ 0 _ _ (Or.inl k_goes_together_thing) (by rfl) (by decide) (by decide)) (@pa_nil _) rfl) (by decide) (by rfl) (by rfl)) (@pa_c _ _ _ _ _ (@pw _ 2 _ _ (Or.inl k_goes_together_most) (by rfl) (by decide) (by decide)) (@pa_nil _) rfl) rfl) (by decide) (by rfl) (by rfl)) (@pe_int _ _ _ _) (@nomark _ _ (by decide) (by decide)))))), ?_⟩
    refine ⟨_, rfl, _, _, _, _, rfl, hx.ty, kit_list d, _, rfl, ?_⟩
    have k0 := k H (Same.refl _)
    cases hx with
    | non => exact iteT (iteT k0)
    | bl b => exact iteT (iteT k0)
    | int i => exact iteT (iteT k0)
    | str y => exact iteT (iteT k0)
    | tup h r => exact iteT (iteT k0)
    | @lst a xs ds h ne r =>
      have lx := r.length
      cases wd with
      | @list _ m' l' _ _ wl hm' hl' =>
      have lds := wl.len
      have eP : loadB n m (.list ds) = (decide (ds.length = n) && (ds.all isFr0 && leF (KM.sumF (ds.map frOf)) m)) := rfl
      rw [eP] at k k0
      refine iteF ⟨_, rfl, a, xs, rfl, .inl (SqL.of h), _, rfl, rfl, _, rfl, ?_⟩
      by_cases hl : ds.length = n
      · have ee : (!decide (V.int (xs.length : Int) = V.int (n : Int))) = false := by
          rw [show xs.length = n by trivial]; exact eq_len _
        rw [ee]
        rw [decide_eq_true hl, Bool.true_and] at k
        refine iteF ⟨_, rfl, a, rfl, ⟨_, SqL.of h⟩, all_lst (E := E') isFr0 h r (by trivial) ?_ ?_⟩
        · intro x dx H' R hdx gx sm kk
          exact ⟨back1, _, rfl, x, dx, E', rfl, gx, kk H' (Same.refl _)⟩
        · intro D H1 s1 hD1
          refine ⟨D, _, rfl, SqL.of hD1, _, rfl, ?_⟩
          rw [all_id]
          cases hb : ds.all isFr0 with
          | false =>
            rw [hb] at k
            exact iteT (k H1 s1)
          | true =>
            rw [hb, Bool.true_and] at k
            have fl := fl_up ((fl_of r wl hb).sm s1) (show 200 + z ≤ 204 by trivial)
            refine iteF ⟨_, rfl, a, xs, ds.map frOf, 204, 821, rfl, SqL.of (s1 _ _ h), fl, by trivial, by decide, by decide, fun o2 H2 s2 h2 f2 => ⟨_, rfl, o2, o, _, _, _, _, rfl, h2, (s1.trans s2) _ _ ho, f2.sn.mono (by decide), f2.sd.mono (by decide), fm.sn.mono (by decide), fm.sd.mono (by decide), _, _, rfl, rfl, ?_⟩⟩
            show Q (.bl (decide (cmpI _ _ ≤ 0))) H2
            rw [cmp_le]
            exact k H2 (s1.trans s2)
      · rw [decide_eq_false hl, Bool.false_and] at k0
        have : (!decide (V.int (xs.length : Int) = V.int (n : Int))) = true := ne_len (by trivial)
        rw [this]
        exact iteT (iteT k0)
end
end K46
namespace K46
open PySem L2
set_option maxHeartbeats 4000000
theorem plan_parts {H : Hp} {v : V} {ls ss : List (List Nat)} {ts : List PT} {us : List TU} {ws qs : List WE} (h : IsD ED H v (planD ls ss ts us ws qs)) :
    Ex11 fun na x1 p2 p3 p4 p5 x6 y2 y3 y4 y5 => v = .ref na ∧ H na = some (.tup [x1, .ref p2, .ref p3, .ref p4, .ref p5, x6]) ∧ H p2 = some (.tup y2) ∧ H p3 = some (.tup y3) ∧ H p4 = some (.tup y4) ∧ H p5 = some (.tup y5) ∧ y2.length = ss.length ∧ IsAll ED H y3 (ts.map ptD) ∧ IsAll ED H y4 (us.map tuD) ∧ IsAll ED H y5 (ws.map weD) := by
  obtain ⟨na, xs, rfl, hna, r⟩ := tup_all h
  cases r with
  | @cons x1 _ _ _ r1 r =>
  cases r with
  | @cons x2 _ _ _ r2 r =>
  cases r with
  | @cons x3 _ _ _ r3 r =>
  cases r with
  | @cons x4 _ _ _ r4 r =>
  cases r with
  | @cons x5 _ _ _ r5 r =>
  cases r with
  | @cons x6 _ _ _ r6 r =>
  cases r
  obtain ⟨p2, y2, rfl, hp2, q2⟩ := tup_all r2
  obtain ⟨p3, y3, rfl, hp3, q3⟩ := tup_all r3
  obtain ⟨p4, y4, rfl, hp4, q4⟩ := tup_all r4
  obtain ⟨p5, y5, rfl, hp5, q5⟩ := tup_all r5
  exact ⟨na, x1, p2, p3, p4, p5, x6, y2, y3, y4, y5, rfl, hna, hp2, hp3, hp4, hp5, by rw [q2.length, List.length_map], q3, q4, q5⟩
theorem pt_parts {H : Hp} {v : V} {t : PT} (h : IsD ED H v (ptD t)) : Ex5 fun a x1 x2 om x4 => v = .ref a ∧ H a = some (.tup [x1, x2, .ref om, x4]) ∧ H om = some (fr t.most) := by
  obtain ⟨na, xs, rfl, hna, r⟩ := tup_all h
  cases r with
  | @cons x1 _ _ _ r1 r =>
  cases r with
  | @cons x2 _ _ _ r2 r =>
  cases r with
  | @cons x3 _ _ _ r3 r =>
  cases r with
  | @cons x4 _ _ _ r4 r =>
  cases r
  obtain ⟨om, rfl, ho⟩ := isF_inv r3
  exact ⟨na, x1, x2, om, x4, rfl, hna, ho⟩
theorem tu_parts {H : Hp} {v : V} {t : TU} (h : IsD ED H v (tuD t)) : Ex6 fun a x1 x2 x3 om x5 => v = .ref a ∧ H a = some (.tup [x1, x2, x3, .ref om, x5]) ∧ H om = some (fr t.most) := by
  obtain ⟨na, xs, rfl, hna, r⟩ := tup_all h
  cases r with
  | @cons x1 _ _ _ r1 r =>
  cases r with
  | @cons x2 _ _ _ r2 r =>
  cases r with
  | @cons x3 _ _ _ r3 r =>
  cases r with
  | @cons x4 _ _ _ r4 r =>
  cases r with
  | @cons x5 _ _ _ r5 r =>
  cases r
  obtain ⟨om, rfl, ho⟩ := isF_inv r4
  exact ⟨na, x1, x2, x3, om, x5, rfl, hna, ho⟩
theorem we_parts {H : Hp} {v : V} {t : WE} (h : IsD ED H v (weD t)) : Ex4 fun a x1 x2 om => v = .ref a ∧ H a = some (.tup [x1, x2, .ref om]) ∧ H om = some (fr t.most) := by
  obtain ⟨na, xs, rfl, hna, r⟩ := tup_all h
  cases r with
  | @cons x1 _ _ _ r1 r =>
  cases r with
  | @cons x2 _ _ _ r2 r =>
  cases r with
  | @cons x3 _ _ _ r3 r =>
  cases r
  obtain ⟨om, rfl, ho⟩ := isF_inv r3
  exact ⟨na, x1, x2, om, rfl, hna, ho⟩
section
variable {P : Program} {w : World} {K : PySem.W.Frag} {mg : Str → Option Value} {base : Heap}
inductive spSend_ (vs : List V) (H : Hp) (Q : VK) : Prop
  | mk (pv x : V) (ls ss : List (List Nat)) (ts : List PT) (us : List TU) (ws qs : List WE) (d : PyData) (E : Addr → Prop) (z N k : Nat) (h0 : vs = [pv, x]) (h1 : IsD ED H pv (planD ls ss ts us ws qs)) (h2 : PlC ls ss ts us ws qs) (h3 : IsD E H x d) (h4 : Wg z d N k) (h5 : z ≤ 4) (h6 : N ≤ 3000) (h7 : k ≤ 30) (h8 : ∀ H', Same H H' → Q (.bl (sendB ss.length ts us ws d)) H')
def spSend : Sp := fun vs H Q _ => spSend_  vs H Q
theorem ok_is_sending (T : Txt K mg) : FnOk P w K mg base CX0 6 T.f_is_sending T.d_is_sending ["plan", "thing"] spSend := by
  have G_is_tuple_of := ok_is_tuple_of (P := P) (w := w) (base := base) T
  have G_goes_together := ok_goes_together (P := P) (w := w) (base := base) T
  have G_are_within := ok_are_within (P := P) (w := w) (base := base) T
  refine T.F_is_sending.ok sc_is_sending (fun vs H Q E h => ?_) (fun cdv A outer s H vs Q E hr h => ?_)
  · obtain ⟨pv, x, ls, ss, ts, us, ws, qs, d, E', z, N, kd, rfl, _⟩ := h
    rfl
  · obtain ⟨pv, x, ls, ss, ts, us, ws, qs, d, E', z, N, kd, rfl, ip, pc, hx, wd, hz, hN, hkd, k⟩ := h
    obtain ⟨na, x1, p2, p3, p4, p5, x6, y2, y3, y4, y5, rfl, hna, hp2, hp3, hp4, hp5, ey2, i3, i4, i5⟩ := plan_parts ip
    have hs4 := pc.s4; have ht12 := pc.t12; have hu12 := pc.u12; have hw7 := pc.w7
    have l3 := i3.length; have l4 := i4.length; have l5 := i5.length
    rw [List.length_map] at l3 l4 l5
    rw [← ey2] at k
    refine ⟨_, (@pss_cons _ _ _ _ _ (@ps_if _ _ _ _ _ _ _ _ (@pt_not _ _ _ _ (@pt_val _ _ _ (@pe_call _ _ _ _ _ _ _ _ _ _ _ _ _ _ _ _ G_is_tuple_of (hr.mono (by decide)) k_is_sending_is_tuple_of T.m_is_tuple_of T.F_is_tuple_of.kp T.B_is_tuple_of .nil (@pass0 _) (@pa_c _ _ _ _ _ (@pw _ 1 _ _ (Or.inl k_is_sending_thing) (by rfl) (by decide) (by decide)) (@pa_c _ _ _ _ _ (@pe_int _ _ _ _) (@pa_nil _) rfl) rfl) (by decide) (by rfl) (by rfl)) (by intro _; rfl))) (@pss_one _ _ _ (@ps_ret _ _ _ _ (@pe_bl _ _ _ _))) (@pss_nil _)) (@pss_cons _ _ _ _ _ (@ps_asg _ _ _ _ _ _ (@pw _ 0 _ _ (Or.inl k_is_sending_plan) (by rfl) (by decide) (by decide)) (@pg_tup_k _ (K) _ _ _ _ (6) rfl (@pgs_cons _ _ _ _ _ (@pg_name _ _ (2) _ sc_is_sending.nd rfl (Or.inl k_is_sending_places) (by first | exact .inl rfl | exact .inr rfl | assumption)) (@pgs_cons _ _ _ _ _ (@pg_name _ _ (3) _ sc_is_sending.nd rfl (Or.inr k_is_sending_stuffs) (by first | exact .inl rfl | exact .inr rfl | assumption)) (@pgs_cons _ _ _ _ _ (@pg_name _ _ (4) _ sc_is_sending.nd rfl (Or.inl k_is_sending_ties) (by first | exact .inl rfl | exact .inr rfl | assumption)) (@pgs_cons _ _ _ _ _ (@pg_name _ _ (5) _ sc_is_sending.nd rfl (Or.inl k_is_sending_turners) (by first | exact .inl rfl | exact .inr rfl | assumption)) (@pgs_cons _ _ _ _ _ (@pg_name _ _ (6) _ sc_is_sending.nd rfl (Or.inl k_is_sending_wells) (by first | exact .inl rfl | exact .inr rfl | assumption)) (@pgs_cons _ _ _ _ _ (@pg_name _ _ (7) _ sc_is_sending.nd rfl (Or.inl k_is_sending_wishes) (by first | exact .inl rfl | exact .inr rfl | assumption)) (@pgs_nil _) (by rfl)) (by rfl)) (by rfl)) (by rfl)) (by rfl)) (by rfl)) (by rfl) (by rfl) (by rfl)) (by rfl) (by rfl) (by rfl)) (@pss_cons _ _ _ _ _ (@ps_asg _ _ _ _ _ _ (@pw _ 1 _ _ (Or.inl k_is_sending_thing) (by rfl) (by decide) (by decide)) (@pg_tup_k _ (K) _ _ _ _ (3) rfl (@pgs_cons _ _ _ _ _ (@pg_name _ _ (8) _ sc_is_sending.nd rfl (Or.inl k_is_sending_goes) (by first | exact .inl rfl | exact .inr rfl | assumption)) (@pgs_cons _ _ _ _ _ (@pg_name _ _ (9) _ sc_is_sending.nd rfl (Or.inl k_is_sending_turns) (by first | exact .inl rfl | exact .inr rfl | assumption)) (@pgs_cons _ _ _ _ _ (@pg_name _ _ (10) _ sc_is_sending.nd rfl (Or.inl k_is_sending_draws) (by first | exact .inl rfl | exact .inr rfl | assumption)) (@pgs_nil _) (by rfl)) (by rfl)) (by rfl)) (by rfl) (by rfl) (by rfl)) (by rfl) (by rfl) (by rfl)) (@pss_cons _ _ _ _ _ (@ps_if _ _ _ _ _ _ _ _ (@PW.pt _ _ _ (@pw_or _ _ _ _ _ _ _ (@pt_not _ _ _ _ (@pt_val _ _ _ (@pe_callB _ _ _ _ _ _ _ _ _ (@isinst_k _ (K) (by rfl)) k_is_sending_isinstance T.b_isinstance (@boot_b_isinstance) (@pa_c _ _ _ _ _ (@pw _ 8 _ _ (Or.inl k_is_sending_goes) (by rfl) (by decide) (by decide)) (@pa_c _ _ _ _ _ (@pe_ty _ _ _ _ k_is_sending_list T.b_list (@boot_ty_list) (by decide) (by decide)) (@pa_nil _) rfl) rfl) (by decide) (by decide) (by rfl) (by rfl)) (by intro _; rfl))) (@pw_or1 _ _ _ _ (@pt_cmpR _ _ _ _ _ _ _ _ (@op_ne _) (@pe_callB _ _ _ _ _ _ _ _ _ (@len_k _ (K) (by rfl)) k_is_sending_len T.b_len (@boot_b_len) (@pa_c _ _ _ _ _ (@pw _ 8 _ _ (Or.inl k_is_sending_goes) (by rfl) (by decide) (by decide)) (@pa_nil _) rfl) (by decide) (by decide) (by rfl) (by rfl)) (@pe_callB _ _ _ _ _ _ _ _ _ (@len_k _ (K) (by rfl)) k_is_sending_len T.b_len (@boot_b_len) (@pa_c _ _ _ _ _ (@pw _ 4 _ _ (Or.inl k_is_sending_ties) (by rfl) (by decide) (by decide)) (@pa_nil _) rfl) (by decide) (by decide) (by rfl) (by rfl)) (@nomark _ _ (by decide) (by decide)))))) (@pss_one _ _ _ (@ps_ret _ _ _ _ (@pe_bl _ _ _ _))) (@pss_nil _)) (@pss_cons _ _ _ _ _ (@ps_if _ _ _ _ _ _ _ _ (@pt_not _ _ _ _ (@pt_val _ _ _ (@pe_callB _ _ _ _ _ _ _ _ _ (@all_k _ (K) rfl (by rfl)) k_is_sending_all T.b_all (@boot_b_all) (@pa_c _ _ _ _ _ (@pe_comp _ _ _ _ _ _ _ (["much", "tie", "stuffs"]) (2) ([3]) _ _ _ _ rfl (by kernel_rfl) (@pi_zip_k _ (K) _ _ _ _ _ _ _ _ k_is_sending_zip T.b_zip (@pa_c _ _ _ _ _ (@pw _ 8 _ _ (Or.inl k_is_sending_goes) (by rfl) (by decide) (by decide)) (@pa_c _ _ _ _ _ (@pw _ 4 _ _ (Or.inl k_is_sending_ties) (by rfl) (by decide) (by decide)) (@pa_nil _) rfl) rfl) (by rfl) (by rfl) (by rfl)) (fun _ _ _ _ _ _ => (@pg_tup_k _ (K) _ _ _ _ (2) rfl (@pgs_cons _ _ _ _ _ (@pg_name _ _ (0) _ (@nodupS _ (by kernel_rfl)) rfl (Or.inl (by kernel_rfl)) (by first | exact .inl rfl | exact .inr rfl | assumption)) (@pgs_cons _ _ _ _ _ (@pg_name _ _ (1) _ (@nodupS _ (by kernel_rfl)) rfl (Or.inl (by kernel_rfl)) (by first | exact .inl rfl | exact .inr rfl | assumption)) (@pgs_nil _) (by rfl)) (by rfl)) (by rfl) (by rfl) (by rfl))) (fun _ _ _ _ _ _ => @pifs_nil _) (fun _ _ _ _ _ _ => (@pe_call _ _ _ _ _ _ _ _ _ _ _ _ _ _ _ _ G_goes_together (hr.mono (by decide)) (by show _ = _; kernel_rfl) T.m_goes_together T.F_goes_together.kp T.B_goes_together .nil (@pass0 _) (@pa_c _ _ _ _ _ (@pw _ 0 _ _ (Or.inl (by kernel_rfl)) (by rfl) (by decide) (by decide)) (@pa_c _ _ _ _ _ (@pe_callB _ _ _ _ _ _ _ _ _ (@len_k _ (K) (by rfl)) (by show _ = _; kernel_rfl) T.b_len (@boot_b_len) (@pa_c _ _ _ _ _ (@pw _ 2 _ _ (Or.inr (Or.inl (by kernel_rfl))) (by rfl) (by decide) (by decide)) (@pa_nil _) rfl) (by decide) (by decide) (by rfl) (by rfl)) (@pa_c _ _ _ _ _ (@pe_ix _ _ _ _ _ _ _ (@ixT_k _ (K) (by rfl)) (@pw _ 1 _ _ (Or.inl (by kernel_rfl)) (by rfl) (by decide) (by decide)) (@pe_int _ _ _ _) (fun _ _ => rfl)) (@pa_nil _) rfl) rfl) rfl) (by decide) (by rfl) (by rfl))) (by intro _; rfl)) (@pa_nil _) rfl) (by decide) (by decide) (by rfl) (by rfl)) (by intro _; rfl))) (@pss_one _ _ _ (@ps_ret _ _ _ _ (@pe_bl _ _ _ _))) (@pss_nil _)) (@pss_one _ _ _ (@ps_ret _ _ _ _ (@pe_and _ _ _ _ _ _ _ (@pe_call _ _ _ _ _ _ _ _ _ _ _ _ _ _ _ _ G_are_within (hr.mono (by decide)) k_is_sending_are_within T.m_are_within T.F_are_within.kp T.B_are_within .nil (@pass0 _) (@pa_c _ _ _ _ _ (@pw _ 9 _ _ (Or.inl k_is_sending_turns) (by rfl) (by decide) (by decide)) (@pa_c _ _ _ _ _ (@pe_comp _ _ _ _ _ _ _ (["turner"]) (1) ([]) _ _ _ _ rfl (by kernel_rfl) (@pi_tup_k _ (K) _ _ _ (@pw _ 5 _ _ (Or.inl k_is_sending_turners) (by rfl) (by decide) (by decide)) (by rfl)) (fun _ _ _ _ _ _ => (@pg_name _ _ (0) _ (@nodupS _ (by kernel_rfl)) rfl (Or.inl (by kernel_rfl)) (by first | exact .inl rfl | exact .inr rfl | assumption))) (fun _ _ _ _ _ _ => @pifs_nil _) (fun _ _ _ _ _ _ => (@pe_ix _ _ _ _ _ _ _ (@ixT_k _ (K) (by rfl)) (@pw _ 0 _ _ (Or.inl (by kernel_rfl)) (by rfl) (by decide) (by decide)) (@pe_int _ _ _ _) (fun _ _ => rfl))) (by intro _; rfl)) (@pa_nil _) rfl) rfl) (by decide) (by rfl) (by rfl)) (@pe_one _ _ _ _ _ (@pe_call _ _ _ _ _ _ _ _ _ _ _ _ _ _ _ _ G_are_within (hr.mono (by decide)) k_is_sending_are_within T.m_are_within T.F_are_within.kp T.B_are_within .nil (@pass0 _) (@pa_c _ _ _ _ _ (@pw _ 10 _ _ (Or.inl k_is_sending_draws) (by rfl) (by decide) (by decide)) (@pa_c _ _ _ _ _ (@pe_comp _ _ _ _ _ _ _ (["well"]) (1) ([]) _ _ _ _ rfl (by kernel_rfl) (@pi_tup_k _ (K) _ _ _ (@pw _ 6 _ _ (Or.inl k_is_sending_wells) (by rfl) (by decide) (by decide)) (by rfl)) (fun _ _ _ _ _ _ => (@pg_name _ _ (0) _ (@nodupS _ (by kernel_rfl)) rfl (Or.inl (by kernel_rfl)) (by first | exact .inl rfl | exact .inr rfl | assumption))) (fun _ _ _ _ _ _ => @pifs_nil _) (fun _ _ _ _ _ _ => (@pe_ix _ _ _ _ _ _ _ (@ixT_k _ (K) (by rfl)) (@pw _ 0 _ _ (Or.inl (by kernel_rfl)) (by rfl) (by decide) (by decide)) (@pe_int _ _ _ _) (fun _ _ => rfl))) (by intro _; rfl)) (@pa_nil _) rfl) rfl) (by decide) (by rfl) (by rfl))))))))))), ?_⟩
    refine ⟨_, rfl, x, 3, d, E', rfl, hx, _, rfl, ?_⟩
    have k0 := k H (Same.refl _)
    cases ht : isTupN 3 d with
    | false =>
      rw [sendB_no ht] at k0
      exact iteT k0
    | true =>
    refine iteF ?_
    obtain ⟨d1, d2, d3, rfl⟩ := tup3 ht
    obtain ⟨a, xs, rfl, h, r⟩ := tup_all hx
    cases wd with
    | @tuple _ m' l' _ _ wl hm' hl' =>
    cases r with
    | @cons v1 _ _ _ r1 r =>
    cases r with
    | @cons v2 _ _ _ r2 r =>
    cases r with
    | @cons v3 _ _ _ r3 r =>
    cases r
    obtain ⟨n1, hn1, wt1, wg1⟩ := wgL_wt hz wl (d := d1) (by simp)
    obtain ⟨n2, hn2, wt2, wg2⟩ := wgL_wt hz wl (d := d2) (by simp)
    obtain ⟨n3, hn3, wt3, wg3⟩ := wgL_wt hz wl (d := d3) (by simp)
    refine ⟨_, rfl, na, _, rfl, SqT.of hna, rfl, _, _, rfl, _, _, rfl, _, _, rfl, _, _, rfl, _, _, rfl, _, _, rfl, rfl, ?_⟩
    refine ⟨_, rfl, a, [v1, v2, v3], rfl, SqT.of h, rfl, _, _, rfl, _, _, rfl, _, _, rfl, rfl, ?_⟩
    have eS : sendB y2.length ts us ws (.tuple [d1, d2, d3]) = (goesB y2.length ts d1 && (partsB (us.map TU.most) d2 && partsB (ws.map WE.most) d3)) := rfl
    rw [eS] at k k0
    refine ⟨_, rfl, _, _, _, _, rfl, r1.ty, kit_list d1, _, rfl, ?_⟩
    cases r1 with
    | non => exact iteT (iteT k0)
    | bl b => exact iteT (iteT k0)
    | int i => exact iteT (iteT k0)
    | str y => exact iteT (iteT k0)
    | tup h r => exact iteT (iteT k0)
    | @lst g gs gd hg ne rg =>
    have lg := rg.length
    have eG : goesB y2.length ts (.list gd) = (decide (gd.length = ts.length) && zall (fun d t => loadB y2.length t.most d) gd ts) := rfl
    rw [eG] at k k0
    cases wg1 with
    | @list _ mg' lg' _ _ wlg hmg hlg =>
    have lgd := wlg.len
    refine iteF ⟨_, rfl, g, gs, rfl, .inl (SqL.of hg), _, rfl, p3, y3, rfl, .inr (SqT.of hp3), rfl, _, rfl, ?_⟩
    by_cases hl : gd.length = ts.length
    · have ee : (!decide (V.int (gs.length : Int) = V.int (y3.length : Int))) = false := by
        rw [show gs.length = y3.length by trivial]; exact eq_len _
      rw [ee]
      rw [decide_eq_true hl, Bool.true_and] at k
      refine iteF ⟨_, rfl, _, rfl, g, p3, true, false, rfl, ⟨_, SqL.of hg⟩, ⟨_, SqT.of hp3⟩, all_zip (E := E') (F := ED) (g := ptD) (fun d t => loadB y2.length t.most d) (fun H' s' => SqL.of (s' _ _ hg)) (fun H' s' => SqT.of (s' _ _ hp3)) rg i3 hl (by trivial) ?_ ?_⟩
      · intro x y dx t H' R hdx hm gx gy sm kk
        obtain ⟨at', u1, u2, om, u4, rfl, hat, hom⟩ := pt_parts gy
        obtain ⟨_, _, _, wgx⟩ := wgL_wt hz wlg hdx
        exact ⟨back2, _, rfl, _, rfl, p2, y2, rfl, .inr (SqT.of (sm _ _ hp2)), _, rfl, at', _, _, _, rfl, rfl, SqT.of hat, rfl, x, y2.length, om, dx, E', t.most, z, mg', lg', rfl, gx, wgx, hz, by trivial, by trivial, hom, (pc.tc t hm).fm, by trivial, fun H4 s4 => kk H4 s4⟩
      · intro D H1 s1 hD1
        refine ⟨D, _, rfl, SqL.of hD1, _, rfl, ?_⟩
        have eZ : (List.zipWith (fun d t => loadB y2.length (PT.most t) d) gd ts).all id = zall (fun d t => loadB y2.length t.most d) gd ts := rfl
        rw [eZ]
        cases hb : zall (fun d t => loadB y2.length (PT.most t) d) gd ts with
        | false =>
          rw [hb] at k
          exact iteT (k H1 s1)
        | true =>
          rw [hb, Bool.true_and] at k
          refine iteF ⟨_, rfl, _, rfl, p4, rfl, ⟨_, SqT.of (s1 _ _ hp4)⟩, map_tup (g := tuD) (h := TU.most) (s1 _ _ hp4) (i4.mono s1.toE) (by trivial) ?_ ?_⟩
          · intro x t H' R hm gx sm kk
            obtain ⟨at', u1, u2, u3, om, u5, rfl, hat, hom⟩ := tu_parts gx
            exact ⟨back1, _, rfl, at', _, _, _, rfl, rfl, SqT.of hat, rfl, kk _ (isF hom)⟩
          intro D2 H2 ys s2 hD2 ia2
          have s02 := s1.trans s2
          refine ⟨v2, D2, d2, E', ys, us.map TU.most, n2, l', rfl, r2.sm s02, wt2, by trivial, by trivial, hD2, by rw [List.map_map]; exact ia2, fun m hm => ?_, by rw [List.length_map]; trivial, fun H3 s3 => ⟨_, rfl, ?_⟩⟩
          · obtain ⟨t, ht', rfl⟩ := List.mem_map.mp hm
            exact (pc.uc t ht').fm
          have s03 := s02.trans s3
          cases hb2 : partsB (us.map TU.most) d2 with
          | false =>
            rw [hb2] at k
            exact iteF (k H3 s03)
          | true =>
            rw [hb2, Bool.true_and] at k
            refine iteT ⟨_, rfl, _, rfl, p5, rfl, ⟨_, SqT.of (s03 _ _ hp5)⟩, map_tup (g := weD) (h := WE.most) (s03 _ _ hp5) (i5.mono s03.toE) (by trivial) ?_ ?_⟩
            · intro x t H' R hm gx sm kk
              obtain ⟨at', u1, u2, om, rfl, hat, hom⟩ := we_parts gx
              exact ⟨back1, _, rfl, at', _, _, _, rfl, rfl, SqT.of hat, rfl, kk _ (isF hom)⟩
            intro D4 H4 ys4 s4 hD4 ia4
            have s04 := s03.trans s4
            refine ⟨v3, D4, d3, E', ys4, ws.map WE.most, n3, l', rfl, r3.sm s04, wt3, by trivial, by trivial, hD4, by rw [List.map_map]; exact ia4, fun m hm => ?_, by rw [List.length_map]; trivial, fun H5 s5 => k H5 (s04.trans s5)⟩
            obtain ⟨t, ht', rfl⟩ := List.mem_map.mp hm
            exact (pc.wc t ht').fm
    · rw [decide_eq_false hl, Bool.false_and, Bool.false_and] at k0
      have : (!decide (V.int (gs.length : Int) = V.int (y3.length : Int))) = true := ne_len (by trivial)
      rw [this]
      exact iteT k0
end
end K46
namespace K46
open PySem L2
set_option maxHeartbeats 4000000
theorem zall_false {β : Type} {f : PyData → β → Bool} {ds : List PyData} {ms : List β} {d : PyData} (hl : ds.length = ms.length) (hd : d ∈ ds) (h : ∀ m, f d m = false) : zall f ds ms = false := by
  obtain ⟨i, e⟩ := List.getElem?_of_mem hd
  have hi := (List.getElem?_eq_some_iff.mp e).1
  have e2 : ms[i]? = some (ms[i]'(by trivial)) := List.getElem?_eq_getElem (by trivial)
  unfold zall
  rw [List.all_eq_false]
  refine ⟨f d (ms[i]'(by trivial)), ?_, by rw [h]; decide⟩
  exact List.mem_of_getElem? (i := i) (by rw [List.getElem?_zipWith, e, e2])
theorem within_fr {d : PyData} (h : isFr d = false) (m : KM.Fra) : within d m = false := (fr0_false h).2 m
theorem rep_flat {α : Type} (n : Nat) (x : α) : (List.replicate n [x]).flatten = List.replicate n x := by
  induction n with
  | zero => rfl
  | succ n ih => rw [List.replicate_succ, List.flatten_cons, ih, List.replicate_succ]; rfl
theorem isAll_rep {E : Addr → Prop} {H : Hp} {v : V} {d : PyData} (h : IsD E H v d) : ∀ n, IsAll E H (List.replicate n v) (List.replicate n d)
  | 0 => .nil
  | n + 1 => .cons h (isAll_rep h n)
theorem parts_fr0 {n : Nat} {m : KM.Fra} {ds : List PyData} (h : partsB (List.replicate n m) (.list ds) = true) : ds.all isFr0 = true ∧ ds.length = n := by
  have h' : (decide (ds.length = (List.replicate n m).length) && zall within ds (List.replicate n m)) = true := h
  rw [List.length_replicate, Bool.and_eq_true, decide_eq_true_iff] at h'
  obtain ⟨rfl, h2⟩ := h'
  rw [zall_rep, List.all_eq_true] at h2
  refine ⟨List.all_eq_true.mpr fun d hd => ?_, rfl⟩
  have := h2 d hd
  rw [within_eq, Bool.and_eq_true] at this
  exact this.1
section
variable {P : Program} {w : World} {K : PySem.W.Frag} {mg : Str → Option Value} {base : Heap}
inductive spFr2_ (g : KM.Fra → KM.Fra → KM.Fra) (vs : List V) (H : Hp) (Q : VK) : Prop
  | mk (a b : Addr) (p q : KM.Fra) (c1 c2 : Nat) (h0 : vs = [.ref a, .ref b]) (h1 : H a = some (fr p)) (h2 : H b = some (fr q)) (h3 : Fb c1 p.1 p.2) (h4 : Fb c2 q.1 q.2) (h5 : c1 ≤ 4000) (h6 : c2 ≤ 4000) (h7 : ∀ o H', Nw H o (fr (g p q)) H' → Q (.ref o) H')
def spFr2 (g : KM.Fra → KM.Fra → KM.Fra) : Sp := fun vs H Q _ => spFr2_ g vs H Q
theorem ok_l_sum (T : Txt K mg) : FnOk P w K mg base CX0 2 T.f_l_sum T.d_l_sum ["_law_one", "_law_other"] (spFr2 KM.ladd) := by
  have G_l_frac := ok_frac (P := P) (w := w) (base := base) T
  refine T.F_l_sum.ok sc_l_sum (fun vs H Q E h => ?_) (fun cdv A outer s H vs Q E hr h => ?_)
  · obtain ⟨a, b, p, q, c1, c2, rfl, _⟩ := h
    rfl
  · obtain ⟨a, b, p, q, c1, c2, rfl, ha, hb, fp, fq, h1, h2, k⟩ := h
    obtain ⟨z1, z2, z3, z4, hd⟩ := s4' fp fq h1 h2
    refine ⟨_, (@pss_one _ _ _ (@ps_ret _ _ _ _ (@pe_call _ _ _ _ _ _ _ _ _ _ _ _ _ _ _ _ G_l_frac (hr.mono (by decide)) k_l_sum_l_frac T.m_l_frac T.F_l_frac.kp T.B_l_frac .nil (@pass0 _) (@pa_c _ _ _ _ _ (@pe_op _ _ _ _ _ _ _ _ (@op_add _) (@pe_op _ _ _ _ _ _ _ _ (@op_mulB _) (@pe_ix _ _ _ _ _ _ _ (@ixT_k _ (K) (by rfl)) (@pw _ 0 _ _ (Or.inl k_l_sum_l_one) (by rfl) (by decide) (by decide)) (@pe_int _ _ _ _) (fun _ _ => rfl)) (@pe_ix _ _ _ _ _ _ _ (@ixT_k _ (K) (by rfl)) (@pw _ 1 _ _ (Or.inl k_l_sum_l_other) (by rfl) (by decide) (by decide)) (@pe_int _ _ _ _) (fun _ _ => rfl))) (@pe_op _ _ _ _ _ _ _ _ (@op_mulB _) (@pe_ix _ _ _ _ _ _ _ (@ixT_k _ (K) (by rfl)) (@pw _ 1 _ _ (Or.inl k_l_sum_l_other) (by rfl) (by decide) (by decide)) (@pe_int _ _ _ _) (fun _ _ => rfl)) (@pe_ix _ _ _ _ _ _ _ (@ixT_k _ (K) (by rfl)) (@pw _ 0 _ _ (Or.inl k_l_sum_l_one) (by rfl) (by decide) (by decide)) (@pe_int _ _ _ _) (fun _ _ => rfl)))) (@pa_c _ _ _ _ _ (@pe_op _ _ _ _ _ _ _ _ (@op_mulB _) (@pe_ix _ _ _ _ _ _ _ (@ixT_k _ (K) (by rfl)) (@pw _ 0 _ _ (Or.inl k_l_sum_l_one) (by rfl) (by decide) (by decide)) (@pe_int _ _ _ _) (fun _ _ => rfl)) (@pe_ix _ _ _ _ _ _ _ (@ixT_k _ (K) (by rfl)) (@pw _ 1 _ _ (Or.inl k_l_sum_l_other) (by rfl) (by decide) (by decide)) (@pe_int _ _ _ _) (fun _ _ => rfl))) (@pa_nil _) rfl) rfl) (by decide) (by rfl) (by rfl)))), ?_⟩
    exact ⟨_, rfl, a, _, _, _, rfl, rfl, SqT.of ha, rfl, _, rfl, b, _, _, _, rfl, rfl, SqT.of hb, rfl, _, _, rfl, rfl, mulS z1 z4, _, rfl, b, _, _, _, rfl, rfl, SqT.of hb, rfl, _, rfl, a, _, _, _, rfl, rfl, SqT.of ha, rfl, _, _, rfl, rfl, mulS z3 z2, _, _, rfl, rfl,
      _, rfl, a, _, _, _, rfl, rfl, SqT.of ha, rfl, _, rfl, b, _, _, _, rfl, rfl, SqT.of hb, rfl, _, _, rfl, rfl, mulS z2 z4, _, _, rfl, Int.mul_pos (by have := fp.pos; trivial) (by have := fq.pos; trivial), mulS9 z2 z4, fun o H' n => k o H' n⟩
theorem ok_l_product (T : Txt K mg) : FnOk P w K mg base CX0 2 T.f_l_product T.d_l_product ["_law_one", "_law_other"] (spFr2 KM.lTim) := by
  have G_l_frac := ok_frac (P := P) (w := w) (base := base) T
  refine T.F_l_product.ok sc_l_product (fun vs H Q E h => ?_) (fun cdv A outer s H vs Q E hr h => ?_)
  · obtain ⟨a, b, p, q, c1, c2, rfl, _⟩ := h
    rfl
  · obtain ⟨a, b, p, q, c1, c2, rfl, ha, hb, fp, fq, h1, h2, k⟩ := h
    obtain ⟨z1, z2, z3, z4, hd⟩ := s4' fp fq h1 h2
    refine ⟨_, (@pss_one _ _ _ (@ps_ret _ _ _ _ (@pe_call _ _ _ _ _ _ _ _ _ _ _ _ _ _ _ _ G_l_frac (hr.mono (by decide)) k_l_product_l_frac T.m_l_frac T.F_l_frac.kp T.B_l_frac .nil (@pass0 _) (@pa_c _ _ _ _ _ (@pe_op _ _ _ _ _ _ _ _ (@op_mulB _) (@pe_ix _ _ _ _ _ _ _ (@ixT_k _ (K) (by rfl)) (@pw _ 0 _ _ (Or.inl k_l_product_l_one) (by rfl) (by decide) (by decide)) (@pe_int _ _ _ _) (fun _ _ => rfl)) (@pe_ix _ _ _ _ _ _ _ (@ixT_k _ (K) (by rfl)) (@pw _ 1 _ _ (Or.inl k_l_product_l_other) (by rfl) (by decide) (by decide)) (@pe_int _ _ _ _) (fun _ _ => rfl))) (@pa_c _ _ _ _ _ (@pe_op _ _ _ _ _ _ _ _ (@op_mulB _) (@pe_ix _ _ _ _ _ _ _ (@ixT_k _ (K) (by rfl)) (@pw _ 0 _ _ (Or.inl k_l_product_l_one) (by rfl) (by decide) (by decide)) (@pe_int _ _ _ _) (fun _ _ => rfl)) (@pe_ix _ _ _ _ _ _ _ (@ixT_k _ (K) (by rfl)) (@pw _ 1 _ _ (Or.inl k_l_product_l_other) (by rfl) (by decide) (by decide)) (@pe_int _ _ _ _) (fun _ _ => rfl))) (@pa_nil _) rfl) rfl) (by decide) (by rfl) (by rfl)))), ?_⟩
    exact ⟨_, rfl, a, _, _, _, rfl, rfl, SqT.of ha, rfl, _, rfl, b, _, _, _, rfl, rfl, SqT.of hb, rfl, _, _, rfl, rfl, mulS z1 z3,
      _, rfl, a, _, _, _, rfl, rfl, SqT.of ha, rfl, _, rfl, b, _, _, _, rfl, rfl, SqT.of hb, rfl, _, _, rfl, rfl, mulS z2 z4, _, _, rfl, Int.mul_pos (by have := fp.pos; trivial) (by have := fq.pos; trivial), mulS9 z2 z4, fun o H' n => k o H' n⟩
inductive spAbove_ (vs : List V) (H : Hp) (Q : VK) : Prop
  | mk (a b : Addr) (p q : KM.Fra) (h0 : vs = [.ref a, .ref b]) (h1 : H a = some (fr p)) (h2 : H b = some (fr q)) (h3 : Sz 4000 p.1) (h4 : Sz 4000 p.2) (h5 : Sz 4000 q.1) (h6 : Sz 4000 q.2) (h7 : Q (.int (p.1 * q.2 - q.1 * p.2)) H)
def spAbove : Sp := fun vs H Q _ => spAbove_  vs H Q
theorem ok_l_above (T : Txt K mg) : FnOk P w K mg base CX0 1 T.f_l_above T.d_l_above ["_law_one", "_law_other"] spAbove := by
  refine T.F_l_above.ok sc_l_above (fun vs H Q E h => ?_) (fun cdv A outer s H vs Q E hr h => ?_)
  · obtain ⟨a, b, p, q, rfl, _⟩ := h
    rfl
  · obtain ⟨a, b, p, q, rfl, ha, hb, z1, z2, z3, z4, k⟩ := h
    refine ⟨_, (@pss_one _ _ _ (@ps_ret _ _ _ _ (@pe_op _ _ _ _ _ _ _ _ (@op_sub _) (@pe_op _ _ _ _ _ _ _ _ (@op_mulB _) (@pe_ix _ _ _ _ _ _ _ (@ixT_k _ (K) (by rfl)) (@pw _ 0 _ _ (Or.inl k_l_above_l_one) (by rfl) (by decide) (by decide)) (@pe_int _ _ _ _) (fun _ _ => rfl)) (@pe_ix _ _ _ _ _ _ _ (@ixT_k _ (K) (by rfl)) (@pw _ 1 _ _ (Or.inl k_l_above_l_other) (by rfl) (by decide) (by decide)) (@pe_int _ _ _ _) (fun _ _ => rfl))) (@pe_op _ _ _ _ _ _ _ _ (@op_mulB _) (@pe_ix _ _ _ _ _ _ _ (@ixT_k _ (K) (by rfl)) (@pw _ 1 _ _ (Or.inl k_l_above_l_other) (by rfl) (by decide) (by decide)) (@pe_int _ _ _ _) (fun _ _ => rfl)) (@pe_ix _ _ _ _ _ _ _ (@ixT_k _ (K) (by rfl)) (@pw _ 0 _ _ (Or.inl k_l_above_l_one) (by rfl) (by decide) (by decide)) (@pe_int _ _ _ _) (fun _ _ => rfl)))))), ?_⟩
    exact ⟨_, rfl, a, _, _, _, rfl, rfl, SqT.of ha, rfl, _, rfl, b, _, _, _, rfl, rfl, SqT.of hb, rfl, _, _, rfl, rfl, mulS z1 z4, _, rfl, b, _, _, _, rfl, rfl, SqT.of hb, rfl, _, rfl, a, _, _, _, rfl, rfl, SqT.of ha, rfl, _, _, rfl, rfl, mulS z3 z2, _, _, rfl, rfl, k⟩
theorem ok_are_parts (T : Txt K mg) : FnOk P w K mg base CX0 3 T.f_l_are_parts T.d_l_are_parts ["_law_thing", "_law_mosts"] spParts := by
  have G_l_is_fraction := ok_l_is_fraction (P := P) (w := w) (base := base) T
  have G_l_above := ok_l_above (P := P) (w := w) (base := base) T
  refine T.F_l_are_parts.ok sc_l_are_parts (fun vs H Q E h => ?_) (fun cdv A outer s H vs Q E hr h => ?_)
  · obtain ⟨x, ml, d, E', ys, ms, wn, wk, rfl, _⟩ := h
    rfl
  · obtain ⟨x, ml, d, E', ys, ms, wn, wk, rfl, hx, wd, hwn, hwk, hml, iy, fm, hm100, k⟩ := h
    refine ⟨_, (@pss_cons _ _ _ _ _ (@ps_if _ _ _ _ _ _ _ _ (@PW.pt _ _ _ (@pw_or _ _ _ _ _ _ _ (@pt_not _ _ _ _ (@pt_val _ _ _ (@pe_callB _ _ _ _ _ _ _ _ _ (@isinst_k _ (K) (by rfl)) k_l_are_parts_isinstance T.b_isinstance (@boot_b_isinstance) (@pa_c _ _ _ _ _ (@pw _ 0 _ _ (Or.inl k_l_are_parts_l_thing) (by rfl) (by decide) (by decide)) (@pa_c _ _ _ _ _ (@pe_ty _ _ _ _ k_l_are_parts_list T.b_list (@boot_ty_list) (by decide) (by decide)) (@pa_nil _) rfl) rfl) (by decide) (by decide) (by rfl) (by rfl)) (by intro _; rfl))) (@pw_or1 _ _ _ _ (@pt_cmpR _ _ _ _ _ _ _ _ (@op_ne _) (@pe_callB _ _ _ _ _ _ _ _ _ (@len_k _ (K) (by rfl)) k_l_are_parts_len T.b_len (@boot_b_len) (@pa_c _ _ _ _ _ (@pw _ 0 _ _ (Or.inl k_l_are_parts_l_thing) (by rfl) (by decide) (by decide)) (@pa_nil _) rfl) (by decide) (by decide) (by rfl) (by rfl)) (@pe_callB _ _ _ _ _ _ _ _ _ (@len_k _ (K) (by rfl)) k_l_are_parts_len T.b_len (@boot_b_len) (@pa_c _ _ _ _ _ (@pw _ 1 _ _ (Or.inl k_l_are_parts_l_mosts) (by rfl) (by decide) (by decide)) (@pa_nil _) rfl) (by decide) (by decide) (by rfl) (by rfl)) (@nomark _ _ (by decide) (by decide)))))) (@pss_one _ _ _ (@ps_ret _ _ _ _ (@pe_bl _ _ _ _))) (@pss_nil _)) (@pss_cons _ _ _ _ _ (@ps_if _ _ _ _ _ _ _ _ (@pt_not _ _ _ _ (@pt_val _ _ _ (@pe_callB _ _ _ _ _ _ _ _ _ (@all_k _ (K) rfl (by rfl)) k_l_are_parts_all T.b_all (@boot_b_all) (@pa_c _ _ _ _ _ (@pe_comp _ _ _ _ _ _ _ (["_law_one"]) (1) ([]) _ _ _ _ rfl (by kernel_rfl) (@pi_list_k _ (K) _ _ _ (@pw _ 0 _ _ (Or.inl k_l_are_parts_l_thing) (by rfl) (by decide) (by decide)) (by rfl)) (fun _ _ _ _ _ _ => (@pg_name _ _ (0) _ (@nodupS _ (by kernel_rfl)) rfl (Or.inl (by kernel_rfl)) (by first | exact .inl rfl | exact .inr rfl | assumption))) (fun _ _ _ _ _ _ => @pifs_nil _) (fun _ _ _ _ _ _ => (@pe_call _ _ _ _ _ _ _ _ _ _ _ _ _ _ _ _ G_l_is_fraction (hr.mono (by decide)) (by show _ = _; kernel_rfl) T.m_l_is_fraction T.F_l_is_fraction.kp T.B_l_is_fraction .nil (@pass0 _) (@pa_c _ _ _ _ _ (@pw _ 0 _ _ (Or.inl (by kernel_rfl)) (by rfl) (by decide) (by decide)) (@pa_nil _) rfl) (by decide) (by rfl) (by rfl))) (by intro _; rfl)) (@pa_nil _) rfl) (by decide) (by decide) (by rfl) (by rfl)) (by intro _; rfl))) (@pss_one _ _ _ (@ps_ret _ _ _ _ (@pe_bl _ _ _ _))) (@pss_nil _)) (@pss_one _ _ _ (@ps_ret _ _ _ _ (@pe_callB _ _ _ _ _ _ _ _ _ (@all_k _ (K) rfl (by rfl)) k_l_are_parts_all T.b_all (@boot_b_all) (@pa_c _ _ _ _ _ (@pe_comp _ _ _ _ _ _ _ (["_law_one", "_law_top"]) (2) ([]) _ _ _ _ rfl (by kernel_rfl) (@pi_zip_k _ (K) _ _ _ _ _ _ _ _ k_l_are_parts_zip T.b_zip (@pa_c _ _ _ _ _ (@pw _ 0 _ _ (Or.inl k_l_are_parts_l_thing) (by rfl) (by decide) (by decide)) (@pa_c _ _ _ _ _ (@pw _ 1 _ _ (Or.inl k_l_are_parts_l_mosts) (by rfl) (by decide) (by decide)) (@pa_nil _) rfl) rfl) (by rfl) (by rfl) (by rfl)) (fun _ _ _ _ _ _ => (@pg_tup_k _ (K) _ _ _ _ (2) rfl (@pgs_cons _ _ _ _ _ (@pg_name _ _ (0) _ (@nodupS _ (by kernel_rfl)) rfl (Or.inl (by kernel_rfl)) (by first | exact .inl rfl | exact .inr rfl | assumption)) (@pgs_cons _ _ _ _ _ (@pg_name _ _ (1) _ (@nodupS _ (by kernel_rfl)) rfl (Or.inl (by kernel_rfl)) (by first | exact .inl rfl | exact .inr rfl | assumption)) (@pgs_nil _) (by rfl)) (by rfl)) (by rfl) (by rfl) (by rfl))) (fun _ _ _ _ _ _ => @pifs_nil _) (fun _ _ _ _ _ _ => (@pe_and _ _ _ _ _ _ _ (@pe_cmpR _ _ _ _ _ _ _ _ (@op_ge _) (@pe_ix _ _ _ _ _ _ _ (@ixT_k _ (K) (by rfl)) (@pw _ 0 _ _ (Or.inl (by kernel_rfl)) (by rfl) (by decide) (by decide)) (@pe_int _ _ _ _) (fun _ _ => rfl)) (@pe_int _ _ _ _) (@nomark _ _ (by decide) (by decide))) (@pe_one _ _ _ _ _ (@pe_cmpR _ _ _ _ _ _ _ _ (@op_le _) (@pe_call _ _ _ _ _ _ _ _ _ _ _ _ _ _ _ _ G_l_above (hr.mono (by decide)) (by show _ = _; kernel_rfl) T.m_l_above T.F_l_above.kp T.B_l_above .nil (@pass0 _) (@pa_c _ _ _ _ _ (@pw _ 0 _ _ (Or.inl (by kernel_rfl)) (by rfl) (by decide) (by decide)) (@pa_c _ _ _ _ _ (@pw _ 1 _ _ (Or.inl (by kernel_rfl)) (by rfl) (by decide) (by decide)) (@pa_nil _) rfl) rfl) (by decide) (by rfl) (by rfl)) (@pe_int _ _ _ _) (@nomark _ _ (by decide) (by decide)))))) (by intro _; rfl)) (@pa_nil _) rfl) (by decide) (by decide) (by rfl) (by rfl)))))), ?_⟩
    refine ⟨_, rfl, _, _, _, _, rfl, hx.ty, kit_list d, _, rfl, ?_⟩
    have k0 := k H (Same.refl _)
    cases hx with
    | non => exact iteT (iteT k0)
    | bl b => exact iteT (iteT k0)
    | int i => exact iteT (iteT k0)
    | str y => exact iteT (iteT k0)
    | tup h r => exact iteT (iteT k0)
    | @lst a xs ds h ne r =>
      have lx := r.length
      have ly := iy.length
      rw [List.length_map] at ly
      have eP : partsB ms (.list ds) = (decide (ds.length = ms.length) && zall within ds ms) := rfl
      have wx' : ∀ dx ∈ ds, ∃ mw, mw ≤ wn ∧ Wt dx mw wk := fun dx hdx => by
        cases wd with
        | list wl =>
          obtain ⟨mw, q1, q2⟩ := wtL_mem wl hdx
          exact ⟨mw, by trivial, q2.deep (by trivial)⟩
      refine iteF ⟨_, rfl, a, xs, rfl, .inl (SqL.of h), _, rfl, ml, ys, rfl, .inl (SqL.of hml), rfl, _, rfl, ?_⟩
      by_cases hl : ds.length = ms.length
      · have ee : (!decide (V.int (xs.length : Int) = V.int (ys.length : Int))) = false := by
          rw [show xs.length = ys.length by trivial]; exact eq_len _
        rw [ee]
        rw [eP, decide_eq_true hl, Bool.true_and] at k
        refine iteF ⟨_, rfl, a, rfl, ⟨_, SqL.of h⟩, all_lst (E := E') isFr h r (by trivial) ?_ ?_⟩
        · intro x dx H' R hdx gx sm kk
          obtain ⟨mw, _, wx⟩ := wx' dx hdx
          exact ⟨back1, _, rfl, x, dx, E', mw, wk, rfl, gx, wx, fun H4 s4 => kk H4 s4⟩
        intro D H1 s1 hD1
        refine ⟨D, _, rfl, SqL.of hD1, _, rfl, ?_⟩
        rw [all_id]
        cases hb : ds.all isFr with
        | false =>
          rw [List.all_eq_false] at hb
          obtain ⟨d, hd, h0⟩ := hb
          rw [zall_false hl hd (within_fr (Bool.eq_false_iff.mpr h0))] at k
          exact iteT (k H1 s1)
        | true =>
          rw [List.all_eq_true] at hb
          refine iteF ⟨_, rfl, _, rfl, a, ml, true, true, rfl, ⟨_, SqL.of (s1 _ _ h)⟩, ⟨_, SqL.of (s1 _ _ hml)⟩, all_zip (E := E') (F := ED) (g := frD) within (fun H' s' => SqL.of (s' _ _ (s1 _ _ h))) (fun H' s' => SqL.of (s' _ _ (s1 _ _ hml))) (r.mono s1.toE) (iy.mono s1.toE) hl (by trivial) ?_ ?_⟩
          · intro x y dx m H' R hdx hm gx gy sm kk
            obtain ⟨n, e, rfl, h1, h2⟩ := isFr_inv (hb dx hdx)
            obtain ⟨o, rfl, ho⟩ := pair_inv gx
            obtain ⟨om, rfl, hom⟩ := isF_inv gy
            obtain ⟨mw, _, wx⟩ := wx' _ hdx
            obtain ⟨z1, z2⟩ := wt_pair wx
            have fm' := fm m hm
            have eW : within (.tuple [.int n, .int e]) m = (decide (0 ≤ n) && decide (n * m.2 ≤ m.1 * e)) := by
              have hf := hb _ hdx
              show ((isFr (.tuple [.int n, .int e]) && decide (0 ≤ n)) && decide (n * m.2 ≤ m.1 * e)) = _
              rw [hf]; rfl
            rw [eW] at kk
            refine ⟨back2, _, rfl, o, _, _, _, rfl, rfl, SqT.of ho, rfl, _, _, rfl, rfl, _, rfl, ?_⟩
            by_cases h0 : 0 ≤ n
            · rw [decide_eq_true h0, Bool.true_and] at kk
              rw [decide_eq_true h0]
              refine iteT ⟨_, rfl, _, rfl, o, om, (n, e), m, rfl, ho, hom, z1.mono (by decide), z2.mono (by decide), fm'.sn.mono (by decide), fm'.sd.mono (by decide), _, _, rfl, rfl, ?_⟩
              have e9 : decide (n * m.2 - m.1 * e ≤ 0) = decide (n * m.2 ≤ m.1 * e) := dec_congr (by trivial)
              show R (.bl (decide (n * m.2 - m.1 * e ≤ 0))) H'
              rw [e9]
              exact kk H' (Same.refl _)
            · rw [decide_eq_false h0, Bool.false_and] at kk
              rw [decide_eq_false h0]
              exact iteF (kk H' (Same.refl _))
          · intro D2 H2 s2 hD2
            exact ⟨D2, _, rfl, SqL.of hD2, k H2 (s1.trans s2)⟩
      · rw [eP, decide_eq_false hl, Bool.false_and] at k0
        have : (!decide (V.int (xs.length : Int) = V.int (ys.length : Int))) = true := ne_len (by trivial)
        rw [this]
        exact iteT k0
end
end K46
namespace K46
open PySem L2
set_option maxHeartbeats 4000000
theorem dec_gt0 (a b : Int) : decide (0 < a - b) = !decide (a ≤ b) := by
  by_cases h : a ≤ b
  · rw [decide_eq_true h, decide_eq_false (by trivial)]; rfl
  · rw [decide_eq_false h, decide_eq_true (by trivial)]; rfl
section
variable {P : Program} {w : World} {K : PySem.W.Frag} {mg : Str → Option Value} {base : Heap}
theorem ok_l_is_sending (T : Txt K mg) : FnOk P w K mg base CX0 6 T.f_l_is_sending T.d_l_is_sending ["_law_plan", "_law_thing"] spSend := by
  have G_l_are_parts := ok_are_parts (P := P) (w := w) (base := base) T
  have G_l_sum := ok_l_sum (P := P) (w := w) (base := base) T
  have G_l_above := ok_l_above (P := P) (w := w) (base := base) T
  refine T.F_l_is_sending.ok sc_l_is_sending (fun vs H Q E h => ?_) (fun cdv A outer s H vs Q E hr h => ?_)
  · obtain ⟨pv, x, ls, ss, ts, us, ws, qs, d, E', z, N, kd, rfl, _⟩ := h
    rfl
  · obtain ⟨pv, x, ls, ss, ts, us, ws, qs, d, E', z, N, kd, rfl, ip, pc, hx, wd, hz, hN, hkd, k⟩ := h
    obtain ⟨na, x1, p2, p3, p4, p5, x6, y2, y3, y4, y5, rfl, hna, hp2, hp3, hp4, hp5, ey2, i3, i4, i5⟩ := plan_parts ip
    have hs4 := pc.s4; have ht12 := pc.t12; have hu12 := pc.u12; have hw7 := pc.w7
    have l3 := i3.length; have l4 := i4.length; have l5 := i5.length
    rw [List.length_map] at l3 l4 l5
    rw [← ey2] at k
    refine ⟨_, (@pss_cons _ _ _ _ _ (@ps_if _ _ _ _ _ _ _ _ (@PW.pt _ _ _ (@pw_or _ _ _ _ _ _ _ (@pt_not _ _ _ _ (@pt_val _ _ _ (@pe_callB _ _ _ _ _ _ _ _ _ (@isinst_k _ (K) (by rfl)) k_l_is_sending_isinstance T.b_isinstance (@boot_b_isinstance) (@pa_c _ _ _ _ _ (@pw _ 1 _ _ (Or.inl k_l_is_sending_l_thing) (by rfl) (by decide) (by decide)) (@pa_c _ _ _ _ _ (@pe_ty _ _ _ _ k_l_is_sending_tuple T.b_tuple (@boot_ty_tuple) (by decide) (by decide)) (@pa_nil _) rfl) rfl) (by decide) (by decide) (by rfl) (by rfl)) (by intro _; rfl))) (@pw_or _ _ _ _ _ _ _ (@pt_cmpR _ _ _ _ _ _ _ _ (@op_ne _) (@pe_callB _ _ _ _ _ _ _ _ _ (@len_k _ (K) (by rfl)) k_l_is_sending_len T.b_len (@boot_b_len) (@pa_c _ _ _ _ _ (@pw _ 1 _ _ (Or.inl k_l_is_sending_l_thing) (by rfl) (by decide) (by decide)) (@pa_nil _) rfl) (by decide) (by decide) (by rfl) (by rfl)) (@pe_int _ _ _ _) (@nomark _ _ (by decide) (by decide))) (@pw_or1 _ _ _ _ (@pt_not _ _ _ _ (@pt_val _ _ _ (@pe_callB _ _ _ _ _ _ _ _ _ (@isinst_k _ (K) (by rfl)) k_l_is_sending_isinstance T.b_isinstance (@boot_b_isinstance) (@pa_c _ _ _ _ _ (@pe_ix _ _ _ _ _ _ _ (@ixT_k _ (K) (by rfl)) (@pw _ 1 _ _ (Or.inl k_l_is_sending_l_thing) (by rfl) (by decide) (by decide)) (@pe_int _ _ _ _) (fun _ _ => rfl)) (@pa_c _ _ _ _ _ (@pe_ty _ _ _ _ k_l_is_sending_list T.b_list (@boot_ty_list) (by decide) (by decide)) (@pa_nil _) rfl) rfl) (by decide) (by decide) (by rfl) (by rfl)) (by intro _; rfl))))))) (@pss_one _ _ _ (@ps_ret _ _ _ _ (@pe_bl _ _ _ _))) (@pss_nil _)) (@pss_cons _ _ _ _ _ (@ps_if _ _ _ _ _ _ _ _ (@pt_cmpR _ _ _ _ _ _ _ _ (@op_ne _) (@pe_callB _ _ _ _ _ _ _ _ _ (@len_k _ (K) (by rfl)) k_l_is_sending_len T.b_len (@boot_b_len) (@pa_c _ _ _ _ _ (@pe_ix _ _ _ _ _ _ _ (@ixT_k _ (K) (by rfl)) (@pw _ 1 _ _ (Or.inl k_l_is_sending_l_thing) (by rfl) (by decide) (by decide)) (@pe_int _ _ _ _) (fun _ _ => rfl)) (@pa_nil _) rfl) (by decide) (by decide) (by rfl) (by rfl)) (@pe_callB _ _ _ _ _ _ _ _ _ (@len_k _ (K) (by rfl)) k_l_is_sending_len T.b_len (@boot_b_len) (@pa_c _ _ _ _ _ (@pe_ix _ _ _ _ _ _ _ (@ixT_k _ (K) (by rfl)) (@pw _ 0 _ _ (Or.inl k_l_is_sending_l_plan) (by rfl) (by decide) (by decide)) (@pe_int _ _ _ _) (fun _ _ => rfl)) (@pa_nil _) rfl) (by decide) (by decide) (by rfl) (by rfl)) (@nomark _ _ (by decide) (by decide))) (@pss_one _ _ _ (@ps_ret _ _ _ _ (@pe_bl _ _ _ _))) (@pss_nil _)) (@pss_cons _ _ _ _ _ (@ps_for _ _ _ _ _ _ _ _ PassesOwn.never rfl (@pi_zip_k _ (K) _ _ _ _ _ _ _ _ k_l_is_sending_zip T.b_zip (@pa_c _ _ _ _ _ (@pe_ix _ _ _ _ _ _ _ (@ixT_k _ (K) (by rfl)) (@pw _ 1 _ _ (Or.inl k_l_is_sending_l_thing) (by rfl) (by decide) (by decide)) (@pe_int _ _ _ _) (fun _ _ => rfl)) (@pa_c _ _ _ _ _ (@pe_ix _ _ _ _ _ _ _ (@ixT_k _ (K) (by rfl)) (@pw _ 0 _ _ (Or.inl k_l_is_sending_l_plan) (by rfl) (by decide) (by decide)) (@pe_int _ _ _ _) (fun _ _ => rfl)) (@pa_nil _) rfl) rfl) (by rfl) (by rfl) (by rfl)) (@pg_tup_k _ (K) _ _ _ _ (2) rfl (@pgs_cons _ _ _ _ _ (@pg_name _ _ (2) _ sc_l_is_sending.nd rfl (Or.inl k_l_is_sending_l_load) (by first | exact .inl rfl | exact .inr rfl | assumption)) (@pgs_cons _ _ _ _ _ (@pg_name _ _ (3) _ sc_l_is_sending.nd rfl (Or.inl k_l_is_sending_l_tie) (by first | exact .inl rfl | exact .inr rfl | assumption)) (@pgs_nil _) (by rfl)) (by rfl)) (by rfl) (by rfl) (by rfl)) (@pss_cons _ _ _ _ _ (@ps_if _ _ _ _ _ _ _ _ (@pt_not _ _ _ _ (@pt_val _ _ _ (@pe_call _ _ _ _ _ _ _ _ _ _ _ _ _ _ _ _ G_l_are_parts (hr.mono (by decide)) k_l_is_sending_l_are_parts T.m_l_are_parts T.F_l_are_parts.kp T.B_l_are_parts .nil (@pass0 _) (@pa_c _ _ _ _ _ (@pw _ 2 _ _ (Or.inl k_l_is_sending_l_load) (by rfl) (by decide) (by decide)) (@pa_c _ _ _ _ _ (@pe_op _ _ _ _ _ _ _ _ (@op_repA _) (@pe_lstA _ _ _ _ (@pa_c _ _ _ _ _ (@pe_ix _ _ _ _ _ _ _ (@ixT_k _ (K) (by rfl)) (@pw _ 3 _ _ (Or.inl k_l_is_sending_l_tie) (by rfl) (by decide) (by decide)) (@pe_int _ _ _ _) (fun _ _ => rfl)) (@pa_nil _) rfl)) (@pe_callB _ _ _ _ _ _ _ _ _ (@len_k _ (K) (by rfl)) k_l_is_sending_len T.b_len (@boot_b_len) (@pa_c _ _ _ _ _ (@pe_ix _ _ _ _ _ _ _ (@ixT_k _ (K) (by rfl)) (@pw _ 0 _ _ (Or.inl k_l_is_sending_l_plan) (by rfl) (by decide) (by decide)) (@pe_int _ _ _ _) (fun _ _ => rfl)) (@pa_nil _) rfl) (by decide) (by decide) (by rfl) (by rfl))) (@pa_nil _) rfl) rfl) (by decide) (by rfl) (by rfl)) (by intro _; rfl))) (@pss_one _ _ _ (@ps_ret _ _ _ _ (@pe_bl _ _ _ _))) (@pss_nil _)) (@pss_cons _ _ _ _ _ (@ps_set _ _ (4) _ _ _ _ sc_l_is_sending.nd rfl (Or.inl k_l_is_sending_l_total) (@pe_tupA _ _ _ _ _ (@pa_c _ _ _ _ _ (@pe_int _ _ _ _) (@pa_c _ _ _ _ _ (@pe_int _ _ _ _) (@pa_nil _) rfl) rfl)) (by rfl) (by first | exact .inl rfl | exact .inr rfl | assumption)) (@pss_cons _ _ _ _ _ (@ps_for _ _ _ _ _ _ _ _ PassesOwn.never rfl (@pi_list_k _ (K) _ _ _ (@pw _ 2 _ _ (Or.inl k_l_is_sending_l_load) (by rfl) (by decide) (by decide)) (by rfl)) (@pg_name _ _ (5) _ sc_l_is_sending.nd rfl (Or.inl k_l_is_sending_l_one) (by first | exact .inl rfl | exact .inr rfl | assumption)) (@pss_one _ _ _ (@ps_set _ _ (4) _ _ _ _ sc_l_is_sending.nd rfl (Or.inl k_l_is_sending_l_total) (@pe_call _ _ _ _ _ _ _ _ _ _ _ _ _ _ _ _ G_l_sum (hr.mono (by decide)) k_l_is_sending_l_sum T.m_l_sum T.F_l_sum.kp T.B_l_sum .nil (@pass0 _) (@pa_c _ _ _ _ _ (@pw _ 4 _ _ (Or.inl k_l_is_sending_l_total) (by rfl) (by decide) (by decide)) (@pa_c _ _ _ _ _ (@pw _ 5 _ _ (Or.inl k_l_is_sending_l_one) (by rfl) (by decide) (by decide)) (@pa_nil _) rfl) rfl) (by decide) (by rfl) (by rfl)) (by rfl) (by first | exact .inl rfl | exact .inr rfl | assumption))) (by intro _; rfl)) (@pss_one _ _ _ (@ps_if _ _ _ _ _ _ _ _ (@pt_cmpR _ _ _ _ _ _ _ _ (@op_gt _) (@pe_call _ _ _ _ _ _ _ _ _ _ _ _ _ _ _ _ G_l_above (hr.mono (by decide)) k_l_is_sending_l_above T.m_l_above T.F_l_above.kp T.B_l_above .nil (@pass0 _) (@pa_c _ _ _ _ _ (@pw _ 4 _ _ (Or.inl k_l_is_sending_l_total) (by rfl) (by decide) (by decide)) (@pa_c _ _ _ _ _ (@pe_ix _ _ _ _ _ _ _ (@ixT_k _ (K) (by rfl)) (@pw _ 3 _ _ (Or.inl k_l_is_sending_l_tie) (by rfl) (by decide) (by decide)) (@pe_int _ _ _ _) (fun _ _ => rfl)) (@pa_nil _) rfl) rfl) (by decide) (by rfl) (by rfl)) (@pe_int _ _ _ _) (@nomark _ _ (by decide) (by decide))) (@pss_one _ _ _ (@ps_ret _ _ _ _ (@pe_bl _ _ _ _))) (@pss_nil _)))))) (by intro _; rfl)) (@pss_cons _ _ _ _ _ (@ps_set _ _ (6) _ _ _ _ sc_l_is_sending.nd rfl (Or.inl k_l_is_sending_l_turns_right) (@pe_call _ _ _ _ _ _ _ _ _ _ _ _ _ _ _ _ G_l_are_parts (hr.mono (by decide)) k_l_is_sending_l_are_parts T.m_l_are_parts T.F_l_are_parts.kp T.B_l_are_parts .nil (@pass0 _) (@pa_c _ _ _ _ _ (@pe_ix _ _ _ _ _ _ _ (@ixT_k _ (K) (by rfl)) (@pw _ 1 _ _ (Or.inl k_l_is_sending_l_thing) (by rfl) (by decide) (by decide)) (@pe_int _ _ _ _) (fun _ _ => rfl)) (@pa_c _ _ _ _ _ (@pe_comp _ _ _ _ _ _ _ (["_law_one"]) (1) ([]) _ _ _ _ rfl (by kernel_rfl) (@pi_tup_k _ (K) _ _ _ (@pe_ix _ _ _ _ _ _ _ (@ixT_k _ (K) (by rfl)) (@pw _ 0 _ _ (Or.inl k_l_is_sending_l_plan) (by rfl) (by decide) (by decide)) (@pe_int _ _ _ _) (fun _ _ => rfl)) (by rfl)) (fun _ _ _ _ _ _ => (@pg_name _ _ (0) _ (@nodupS _ (by kernel_rfl)) rfl (Or.inl (by kernel_rfl)) (by first | exact .inl rfl | exact .inr rfl | assumption))) (fun _ _ _ _ _ _ => @pifs_nil _) (fun _ _ _ _ _ _ => (@pe_ix _ _ _ _ _ _ _ (@ixT_k _ (K) (by rfl)) (@pw _ 0 _ _ (Or.inl (by kernel_rfl)) (by rfl) (by decide) (by decide)) (@pe_int _ _ _ _) (fun _ _ => rfl))) (by intro _; rfl)) (@pa_nil _) rfl) rfl) (by decide) (by rfl) (by rfl)) (by rfl) (by first | exact .inl rfl | exact .inr rfl | assumption)) (@pss_one _ _ _ (@ps_ret _ _ _ _ (@pe_and _ _ _ _ _ _ _ (@pw _ 6 _ _ (Or.inl k_l_is_sending_l_turns_right) (by rfl) (by decide) (by decide)) (@pe_one _ _ _ _ _ (@pe_call _ _ _ _ _ _ _ _ _ _ _ _ _ _ _ _ G_l_are_parts (hr.mono (by decide)) k_l_is_sending_l_are_parts T.m_l_are_parts T.F_l_are_parts.kp T.B_l_are_parts .nil (@pass0 _) (@pa_c _ _ _ _ _ (@pe_ix _ _ _ _ _ _ _ (@ixT_k _ (K) (by rfl)) (@pw _ 1 _ _ (Or.inl k_l_is_sending_l_thing) (by rfl) (by decide) (by decide)) (@pe_int _ _ _ _) (fun _ _ => rfl)) (@pa_c _ _ _ _ _ (@pe_comp _ _ _ _ _ _ _ (["_law_one"]) (1) ([]) _ _ _ _ rfl (by kernel_rfl) (@pi_tup_k _ (K) _ _ _ (@pe_ix _ _ _ _ _ _ _ (@ixT_k _ (K) (by rfl)) (@pw _ 0 _ _ (Or.inl k_l_is_sending_l_plan) (by rfl) (by decide) (by decide)) (@pe_int _ _ _ _) (fun _ _ => rfl)) (by rfl)) (fun _ _ _ _ _ _ => (@pg_name _ _ (0) _ (@nodupS _ (by kernel_rfl)) rfl (Or.inl (by kernel_rfl)) (by first | exact .inl rfl | exact .inr rfl | assumption))) (fun _ _ _ _ _ _ => @pifs_nil _) (fun _ _ _ _ _ _ => (@pe_ix _ _ _ _ _ _ _ (@ixT_k _ (K) (by rfl)) (@pw _ 0 _ _ (Or.inl (by kernel_rfl)) (by rfl) (by decide) (by decide)) (@pe_int _ _ _ _) (fun _ _ => rfl))) (by intro _; rfl)) (@pa_nil _) rfl) rfl) (by decide) (by rfl) (by rfl)))))))))), ?_⟩
    refine seqR fun DA nA rA => ?_
    refine ⟨_, rfl, _, _, _, _, rfl, hx.ty, kit_tuple d, _, rfl, ?_⟩
    have k0 := k H (Same.refl _)
    cases hx with
    | non => exact iteT (iteT (rA _ _ k0))
    | bl b => exact iteT (iteT (rA _ _ k0))
    | int i => exact iteT (iteT (rA _ _ k0))
    | str y => exact iteT (iteT (rA _ _ k0))
    | lst h ne r => exact iteT (iteT (rA _ _ k0))
    | @tup a xs ds h r =>
    have lx := r.length
    refine iteF ⟨_, rfl, a, xs, rfl, .inr (SqT.of h), rfl, _, rfl, ?_⟩
    cases ht : isTupN 3 (.tuple ds) with
    | false =>
      rw [sendB_no ht] at k0
      have : (!decide (V.int (xs.length : Int) = V.int 3)) = true := ne_len (b := 3) (fun z => by
        rw [show isTupN 3 (.tuple ds) = true from decide_eq_true (by trivial)] at ht; cases ht)
      rw [this]
      exact iteT (iteT (rA _ _ k0))
    | true =>
    obtain ⟨d1, d2, d3, e3⟩ := tup3 ht
    injection e3 with e3
    subst e3
    cases wd with
    | @tuple _ m' l' _ _ wl hm' hl' =>
    cases r with
    | @cons v1 _ _ _ r1 r =>
    cases r with
    | @cons v2 _ _ _ r2 r =>
    cases r with
    | @cons v3 _ _ _ r3 r =>
    cases r
    obtain ⟨n1, hn1, wt1, wg1⟩ := wgL_wt hz wl (d := d1) (by simp)
    obtain ⟨n2, hn2, wt2, wg2⟩ := wgL_wt hz wl (d := d2) (by simp)
    obtain ⟨n3, hn3, wt3, wg3⟩ := wgL_wt hz wl (d := d3) (by simp)
    have l3' : (!decide (V.int (([v1, v2, v3] : List V).length : Int) = V.int 3)) = false := rfl
    rw [l3']
    have eS : sendB y2.length ts us ws (.tuple [d1, d2, d3]) = (goesB y2.length ts d1 && (partsB (us.map TU.most) d2 && partsB (ws.map WE.most) d3)) := rfl
    rw [eS] at k k0
    refine iteF ⟨_, rfl, a, _, _, _, rfl, rfl, SqT.of h, rfl, _, _, _, _, rfl, r1.ty, kit_list d1, _, rfl, ?_⟩
    cases r1 with
    | non => exact iteT (rA _ _ k0)
    | bl b => exact iteT (rA _ _ k0)
    | int i => exact iteT (rA _ _ k0)
    | str y => exact iteT (rA _ _ k0)
    | tup h r => exact iteT (rA _ _ k0)
    | @lst g gs gd hg ne rg =>
    refine iteF (nA _ _ ?_)
    clear nA rA
    have lg := rg.length
    have eG : goesB y2.length ts (.list gd) = (decide (gd.length = ts.length) && zall (fun d t => loadB y2.length t.most d) gd ts) := rfl
    rw [eG] at k k0
    cases wg1 with
    | @list _ mg' lg' _ _ wlg hmg hlg =>
    have lgd := wlg.len
    refine seqR fun DA nA rA => ?_
    refine ⟨_, rfl, a, _, _, _, rfl, rfl, SqT.of h, rfl, g, gs, rfl, .inl (SqL.of hg), _, rfl, na, _, _, _, rfl, rfl, SqT.of hna, rfl, p3, y3, rfl, .inr (SqT.of hp3), rfl, _, rfl, ?_⟩
    by_cases hl : ¬ gd.length = ts.length
    · rw [decide_eq_false hl, Bool.false_and, Bool.false_and] at k0
      have : (!decide (V.int (gs.length : Int) = V.int (y3.length : Int))) = true := ne_len (by trivial)
      rw [this]
      exact iteT (rA _ _ k0)
    have hl := Classical.not_not.mp hl
    have ee : (!decide (V.int (gs.length : Int) = V.int (y3.length : Int))) = false := by
      rw [show gs.length = y3.length by trivial]; exact eq_len _
    rw [ee]
    rw [decide_eq_true hl, Bool.true_and] at k
    refine iteF (nA _ _ ?_)
    clear nA rA k0
    refine seqR fun DB nB rB => ?_
    refine ⟨_, rfl, a, _, _, _, rfl, rfl, SqT.of h, rfl, _, rfl, na, _, _, _, rfl, rfl, SqT.of hna, rfl, g, p3, true, false, rfl, ⟨_, SqL.of hg⟩, ⟨_, SqT.of hp3⟩, for_zip (xs := gs) (ys := y3) (n := ts.length) (fun i σ H' => Ex4 fun v2 v3 v4 v5 => σ = [some (.ref na), some (.ref a), v2, v3, v4, v5, none] ∧ Same H H' ∧ zall (fun d t => loadB y2.length (PT.most t) d) gd ts = zall (fun d t => loadB y2.length (PT.most t) d) (gd.drop i) (ts.drop i)) (by trivial) ⟨_, _, _, _, rfl, Same.refl _, rfl⟩ ?_ ?_ ?_⟩
    · rintro i σ H' hi ⟨u2, u3, u4, u5, rfl, sm, _⟩
      exact ⟨SqL.of (sm _ _ hg), SqT.of (sm _ _ hp3)⟩
    · rintro i x y T' σ H' hxi hyi hT ⟨u2, u3, u4, u5, rfl, sm, ef⟩
      obtain ⟨dx, edx, gx⟩ := rg.get hxi
      obtain ⟨dy, edy, gy⟩ := i3.get hyi
      rw [List.getElem?_map] at edy
      obtain ⟨t, et, rfl⟩ := Option.map_eq_some_iff.mp edy
      rw [zall_step edx et] at ef
      have st := sm.trans (Same.new (o := .tup [x, y]) hT)
      have nT : Nw H' T' (.tup [x, y]) (upd H' T' (.tup [x, y])) := .mk' hT
      generalize upd H' T' (.tup [x, y]) = G0 at st nT ⊢
      have ft := (pc.tc t (List.mem_of_getElem? et)).fm
      obtain ⟨at', c1, c2, om, c4, rfl, hat, hom⟩ := pt_parts (gy.mono st.toE)
      obtain ⟨nx, hnx, wtx, wgx⟩ := wgL_wt hz wlg (List.mem_of_getElem? edx)
      have no : ∀ H2, Same G0 H2 → loadB y2.length t.most dx = false → Q (.bl false) H2 := fun H2 s2 q => by
        have z' := k H2 (st.trans s2)
        rw [ef, q] at z'
        exact z'
      refine ⟨T', _, rfl, SqT.of nT.at', rfl, _, _, rfl, _, _, rfl, rfl, ?_⟩
      refine bodyR (t := tSeq _ _) fun DC nC rC => ?_
      have no' : ∀ H2, Same G0 H2 → loadB y2.length t.most dx = false → DC.rt (.bl false) H2 := fun H2 s2 q => rC _ _ (rB _ _ (no H2 s2 q))
      refine seqR fun DD nD rD => ?_
      refine ⟨_, rfl, _, rfl, at', _, _, _, rfl, rfl, SqT.of hat, rfl, (by show 1 ≤ 10000; decide), fun q1 G1 n1 => ⟨_, rfl, na, _, _, _, rfl, rfl, SqT.of ((st.trans n1.sm) _ _ hna), rfl, p2, y2, rfl, .inr (SqT.of ((st.trans n1.sm) _ _ hp2)), q1, _, _, rfl, rfl, n1.at', by trivial, by trivial, (by show 1 * _ ≤ 10000; trivial), fun q2 G2 n2 => ?_⟩⟩
      have s2 := n1.sm.trans n2.sm
      have e2 : G2 q2 = some (.lst (List.replicate y2.length (.ref om))) := by
        rw [n2.at', Int.toNat_natCast, rep_flat]
      refine ⟨x, q2, dx, E', _, List.replicate y2.length t.most, nx, lg', rfl, gx.mono (st.trans s2).toE, wtx, by trivial, by trivial, e2, by rw [List.map_replicate]; exact isAll_rep (isF (s2 _ _ hom)) _, fun m hm => by rw [List.eq_of_mem_replicate hm]; exact ft, by rw [List.length_replicate]; trivial, fun G3 s3 => ⟨_, rfl, ?_⟩⟩
      have s03 := s2.trans s3
      cases hb : partsB (List.replicate y2.length t.most) dx with
      | false =>
        refine iteT (rD _ _ (no' _ s03 ?_))
        cases dx with
        | list dl => rw [← load_eq (rdF ft), hb, Bool.false_and]
        | _ => rfl
      | true =>
      refine iteF (nD _ _ ?_)
      clear nD rD
      cases gx with
      | non => cases hb
      | bl b => cases hb
      | int i => cases hb
      | str y => cases hb
      | tup h r => cases hb
      | @lst o zs dl ho ne' rl =>
      obtain ⟨hb0, hbl⟩ := parts_fr0 hb
      have lzs := rl.length
      cases wgx with
      | @list _ mx lx' _ _ wlx hmx hlx =>
      have eL : loadB y2.length t.most (.list dl) = leF (KM.sumF (dl.map frOf)) t.most := by rw [← load_eq (rdF ft), hb, Bool.true_and]
      rw [eL] at ef no'
      have fl := fl_up (fl_of rl wlx hb0) (show 200 + z ≤ 204 by trivial)
      refine seqR fun DE nE rE => ?_
      refine ⟨(by show 2 ≤ 10000; decide), fun q4 G4 n4 => ?_⟩
      refine nE _ _ ?_
      clear nE rE
      have s04 := s03.trans n4.sm
      have sH4 := st.trans s04
      refine seqR fun DF nF rF => ?_
      refine ⟨_, rfl, o, rfl, ⟨_, SqL.of (sH4 _ _ ho)⟩, for_list (xs := zs) (fun j σ H' => Ex2 fun o' v5 => σ = [some (.ref na), some (.ref a), some (.ref o), some (.ref at'), some (.ref o'), v5, none] ∧ Same G4 H' ∧ H' o' = some (fr (KM.sumF ((dl.map frOf).take j))) ∧ Fb (205 * j + 1) (KM.sumF ((dl.map frOf).take j)).1 (KM.sumF ((dl.map frOf).take j)).2) ⟨q4, _, rfl, Same.refl _, n4.at', fb01⟩ ?_ ?_ ?_⟩
      · rintro j σ H' _ ⟨_, _, _, s, _⟩
        exact SqL.of (s _ _ (sH4 _ _ ho))
      · rintro j x σ H' hx ⟨o', v5, rfl, s, ho', hb'⟩
        obtain ⟨ox, p, rfl, hp, hpx, fp⟩ := (fl.sm (sH4.trans s)).get hx
        have hj : j < zs.length := (List.getElem?_eq_some_iff.mp hx).1
        refine ⟨_, rfl, _, rfl, o', ox, _, _, _, _, rfl, ho', hpx, hb', fp, by trivial, by decide, fun o2 H2 n2 => ⟨o2, _, rfl, s.trans n2.sm, ?_, ?_⟩⟩
        · rw [ptake hp, sum_snoc]
          exact n2.at'
        · rw [ptake hp, sum_snoc]
          exact Fb.add' hb' fp (by trivial)
      rintro σ G5 ⟨o', v5, rfl, s5, ho', hb'⟩
      have lf := fl.length
      rw [lf, List.take_length] at ho' hb'
      refine nF _ _ ?_
      have s05 := s04.trans s5
      have hb8 := hb'.mono (show 205 * (dl.map frOf).length + 1 ≤ 4000 by rw [List.length_map]; trivial)
      refine ⟨_, rfl, _, rfl, at', _, _, _, rfl, rfl, SqT.of (s05 _ _ hat), rfl, o', om, _, _, rfl, ho', s05 _ _ hom, hb8.sn, hb8.sd, ft.sn.mono (by decide), ft.sd.mono (by decide), _, _, rfl, rfl, _, rfl, ?_⟩
      rw [dec_gt0]
      cases hc : leF (KM.sumF (dl.map frOf)) t.most with
      | false =>
        have hc' : decide ((KM.sumF (dl.map frOf)).1 * t.most.2 ≤ t.most.1 * (KM.sumF (dl.map frOf)).2) = false := hc
        rw [hc']
        exact iteT (no' _ s05 hc)
      | true =>
        have hc' : decide ((KM.sumF (dl.map frOf)).1 * t.most.2 ≤ t.most.1 * (KM.sumF (dl.map frOf)).2) = true := hc
        rw [hc']
        rw [hc, Bool.true_and] at ef
        exact iteF (nC _ _ ⟨_, _, _, _, rfl, st.trans s05, ef⟩)
    rintro σ H1 ⟨u2, u3, u4, u5, rfl, s1, ef⟩
    refine nB _ _ ?_
    have hz1 : zall (fun d t => loadB y2.length (PT.most t) d) gd ts = true := by
      rw [ef, List.drop_eq_nil_of_le (by trivial), List.drop_eq_nil_of_le (by trivial)]; rfl
    rw [hz1, Bool.true_and] at k
    clear nB rB
    refine seqR fun DB nB rB => ?_
    refine ⟨_, rfl, a, _, _, _, rfl, rfl, SqT.of (s1 _ _ h), rfl, _, rfl, na, _, _, _, rfl, rfl, SqT.of (s1 _ _ hna), rfl, p4, rfl, ⟨_, SqT.of (s1 _ _ hp4)⟩, map_tup (g := tuD) (h := TU.most) (s1 _ _ hp4) (i4.mono s1.toE) (by trivial) ?_ ?_⟩
    · intro x t H' R hm gx sm kk
      obtain ⟨at', u1, u2, u3, om, u5, rfl, hat, hom⟩ := tu_parts gx
      exact ⟨back1, _, rfl, at', _, _, _, rfl, rfl, SqT.of hat, rfl, kk _ (isF hom)⟩
    intro D2 H2 ys s2 hD2 ia2
    have s02 := s1.trans s2
    refine ⟨v2, D2, d2, E', ys, us.map TU.most, n2, l', rfl, r2.sm s02, wt2, by trivial, by trivial, hD2, by rw [List.map_map]; exact ia2, fun m hm => ?_, by rw [List.length_map]; trivial, fun H3 s3 => nB _ _ ⟨_, rfl, _, rfl, ?_⟩⟩
    · obtain ⟨t, ht', rfl⟩ := List.mem_map.mp hm
      exact (pc.uc t ht').fm
    have s03 := s02.trans s3
    cases hb2 : partsB (us.map TU.most) d2 with
    | false =>
      rw [hb2] at k
      exact iteF (k H3 s03)
    | true =>
      rw [hb2, Bool.true_and] at k
      refine iteT ⟨_, rfl, a, _, _, _, rfl, rfl, SqT.of (s03 _ _ h), rfl, _, rfl, na, _, _, _, rfl, rfl, SqT.of (s03 _ _ hna), rfl, p5, rfl, ⟨_, SqT.of (s03 _ _ hp5)⟩, map_tup (g := weD) (h := WE.most) (s03 _ _ hp5) (i5.mono s03.toE) (by trivial) ?_ ?_⟩
      · intro x t H' R hm gx sm kk
        obtain ⟨at', u1, u2, om, rfl, hat, hom⟩ := we_parts gx
        exact ⟨back1, _, rfl, at', _, _, _, rfl, rfl, SqT.of hat, rfl, kk _ (isF hom)⟩
      intro D4 H4 ys4 s4 hD4 ia4
      have s04 := s03.trans s4
      refine ⟨v3, D4, d3, E', ys4, ws.map WE.most, n3, l', rfl, r3.sm s04, wt3, by trivial, by trivial, hD4, by rw [List.map_map]; exact ia4, fun m hm => ?_, by rw [List.length_map]; trivial, fun H5 s5 => k H5 (s04.trans s5)⟩
      obtain ⟨t, ht', rfl⟩ := List.mem_map.mp hm
      exact (pc.wc t ht').fm
end
end K46
namespace K46
open PySem L2
set_option maxHeartbeats 4000000
inductive Two {α β : Type} (R : α → β → Prop) : List α → List β → Prop
  | nil : Two R [] []
  | cons {a : α} {b : β} {as : List α} {bs : List β} (h : R a b) (r : Two R as bs) : Two R (a :: as) (b :: bs)
theorem Two.snoc {α β : Type} {R : α → β → Prop} {a : α} {b : β} (h : R a b) : ∀ {as : List α} {bs : List β}, Two R as bs → Two R (as ++ [a]) (bs ++ [b])
  | _, _, .nil => .cons h .nil
  | _, _, .cons h' r => .cons h' (Two.snoc h r)
theorem Two.length {α β : Type} {R : α → β → Prop} : ∀ {as : List α} {bs : List β}, Two R as bs → as.length = bs.length
  | _, _, .nil => rfl
  | _, _, .cons _ r => by simp [r.length]
structure PartC (m p : KM.Fra) : Prop where
  f : Fb 27 p.1 p.2
  n : 0 ≤ p.1
  le : KM.vl p ≤ KM.vl m
structure LoadC (n : Nat) (m : KM.Fra) (f : List KM.Fra) : Prop where
  len : f.length = n
  fb : ∀ p ∈ f, Fb 27 p.1 p.2
  nn : ∀ p ∈ f, 0 ≤ p.1
  le : KM.rsum (f.map KM.vl) ≤ KM.vl m
abbrev loadD (f : List KM.Fra) : PyData := .list (f.map frD)
def sendD (fs : List (List KM.Fra)) (ps rs : List KM.Fra) : PyData := .tuple [.list (fs.map loadD), .list (ps.map frD), .list (rs.map frD)]
theorem rsum_all {M : Rat} {n : Rat} : ∀ {xs : List Rat}, (∀ x ∈ xs, x * n ≤ M) → KM.rsum xs * n ≤ (xs.length : Rat) * M
  | [], _ => by
    show (0 : Rat) * n ≤ ((0 : Nat) : Rat) * M
    have : ((0 : Nat) : Rat) = 0 := rfl
    rw [this]; grind
  | y :: r, h => by
    have h1 := rsum_all (xs := r) fun x hx => h x (List.mem_cons_of_mem _ hx)
    have h2 := h y (by simp)
    show (y + KM.rsum r) * n ≤ ((r.length + 1 : Nat) : Rat) * M
    have e : ((r.length + 1 : Nat) : Rat) = (r.length : Rat) + 1 := by simp
    rw [e]
    grind
theorem rsum_zero : ∀ n, KM.rsum ((List.replicate n ((0, 1) : KM.Fra)).map KM.vl) = 0
  | 0 => rfl
  | n + 1 => by
    show KM.vl (0, 1) + KM.rsum ((List.replicate n ((0, 1) : KM.Fra)).map KM.vl) = 0
    rw [rsum_zero n, KM.vl_zero]; grind
theorem rsum_set {q : KM.Fra} (h : 0 ≤ KM.vl q) : ∀ n j, KM.rsum (((List.replicate n ((0, 1) : KM.Fra)).set j q).map KM.vl) ≤ KM.vl q
  | 0, j => by
    show (0 : Rat) ≤ _
    exact h
  | n + 1, 0 => by
    show KM.vl q + KM.rsum ((List.replicate n ((0, 1) : KM.Fra)).map KM.vl) ≤ _
    rw [rsum_zero]; grind
  | n + 1, j + 1 => by
    show KM.vl (0, 1) + KM.rsum (((List.replicate n ((0, 1) : KM.Fra)).set j q).map KM.vl) ≤ _
    have := rsum_set h n j
    rw [KM.vl_zero]; grind
theorem mem_set_rep {q p : KM.Fra} {n j : Nat} (h : p ∈ (List.replicate n ((0, 1) : KM.Fra)).set j q) : p = (0, 1) ∨ p = q := by
  rcases List.mem_or_eq_of_mem_set h with h | h
  · exact .inl (List.eq_of_mem_replicate h)
  · exact .inr h
theorem load_way0 {n : Nat} {m : KM.Fra} {f : List KM.Fra} (hn : 1 ≤ n) (hl : f.length = n) (h : ∀ p ∈ f, Fb 27 p.1 p.2 ∧ 0 ≤ p.1 ∧ KM.vl p * (n : Rat) ≤ KM.vl m) : LoadC n m f := by
  refine ⟨hl, fun p hp => (h p hp).1, fun p hp => (h p hp).2.1, ?_⟩
  have h1 := rsum_all (M := KM.vl m) (n := (n : Rat)) (xs := f.map KM.vl) fun x hx => by
    obtain ⟨p, hp, rfl⟩ := List.mem_map.mp hx
    exact (h p hp).2.2
  rw [List.length_map, hl] at h1
  have hp : (0 : Rat) < (n : Rat) := by exact_mod_cast (show 0 < n by trivial)
  rw [Rat.mul_comm] at h1
  exact Rat.le_of_mul_le_mul_left h1 hp
theorem load_true {n : Nat} {m : KM.Fra} {f : List KM.Fra} (hm : KM.Rd m) (h : LoadC n m f) : loadB n m (loadD f) = true := by
  show (decide ((f.map frD).length = n) && ((f.map frD).all isFr0 && leF (KM.sumF ((f.map frD).map frOf)) m)) = true
  have e1 : (f.map frD).map frOf = f := by
    rw [List.map_map]
    exact (List.map_congr_left fun p _ => rfl).trans (List.map_id _)
  have rd : ∀ p ∈ f, KM.Rd p := fun p hp => ⟨(h.fb p hp).pos, (h.fb p hp).co⟩
  obtain ⟨a1, a2⟩ := KM.sumF_vl rd
  rw [e1, List.length_map, decide_eq_true h.len, allMap fun p hp => fr0_true (h.fb p hp) (h.nn p hp), (leF_vl a1 hm).mpr (by rw [a2]; exact h.le)]; rfl
theorem part_true {m p : KM.Fra} (hm : KM.Rd m) (h : PartC m p) : within (frD p) m = true := by
  rw [within_eq, fr0_true h.f h.n]
  exact (leF_vl ⟨h.f.pos, h.f.co⟩ hm).mpr h.le
theorem two_zall {α β : Type} {R : α → β → Prop} {f : PyData → α → Bool} {g : β → PyData} (h : ∀ a b, R a b → f (g b) a = true) : ∀ {as : List α} {bs : List β}, Two R as bs → zall f (bs.map g) as = true
  | _, _, .nil => rfl
  | _, _, .cons (a := a) (b := b) h' r => by
    show (f (g b) a && zall f _ _) = true
    rw [h a b h', two_zall h r]; rfl
theorem two_map {α β γ : Type} {R : γ → β → Prop} {g : α → γ} : ∀ {as : List α} {bs : List β}, Two (fun a b => R (g a) b) as bs → Two R (as.map g) bs
  | _, _, .nil => .nil
  | _, _, .cons h r => .cons h (two_map r)
theorem two_mono {α β : Type} {R S : α → β → Prop} : ∀ {as : List α} {bs : List β}, (∀ a ∈ as, ∀ b, R a b → S a b) → Two R as bs → Two S as bs
  | _, _, _, .nil => .nil
  | _, _, h, .cons h' r => .cons (h _ (by simp) _ h') (two_mono (fun a ha b => h a (List.mem_cons_of_mem _ ha) b) r)
theorem send_true {n : Nat} {ls ss : List (List Nat)} {ts : List PT} {us : List TU} {ws qs : List WE} {fs : List (List KM.Fra)} {ps rs : List KM.Fra} (c : PlC ls ss ts us ws qs) (h1 : Two (fun t f => LoadC n (PT.most t) f) ts fs) (h2 : Two (fun u p => PartC (TU.most u) p) us ps) (h3 : Two (fun u p => PartC (WE.most u) p) ws rs) : sendB n ts us ws (sendD fs ps rs) = true := by
  have g1 : zall (fun d t => loadB n (PT.most t) d) (fs.map loadD) ts = true := by
    refine two_zall (R := fun t f => loadB n (PT.most t) (loadD f) = true) (fun a b h => h) (two_mono (fun t ht f h => ?_) h1)
    exact load_true ⟨(c.tc t ht).fm.pos, (c.tc t ht).fm.co⟩ h
  have g2 : zall within (ps.map frD) (us.map TU.most) = true := by
    refine two_zall (R := fun m p => within (frD p) m = true) (fun a b h => h) (two_map (g := TU.most) (two_mono (fun t ht f h => ?_) h2))
    exact part_true ⟨(c.uc t ht).fm.pos, (c.uc t ht).fm.co⟩ h
  have g3 : zall within (rs.map frD) (ws.map WE.most) = true := by
    refine two_zall (R := fun m p => within (frD p) m = true) (fun a b h => h) (two_map (g := WE.most) (two_mono (fun t ht f h => ?_) h3))
    exact part_true ⟨(c.wc t ht).fm.pos, (c.wc t ht).fm.co⟩ h
  show ((decide ((fs.map loadD).length = ts.length) && zall (fun d t => loadB n (PT.most t) d) (fs.map loadD) ts) && ((decide ((ps.map frD).length = (us.map TU.most).length) && zall within (ps.map frD) (us.map TU.most)) && (decide ((rs.map frD).length = (ws.map WE.most).length) && zall within (rs.map frD) (ws.map WE.most)))) = true
  have e1 := h1.length; have e2 := h2.length; have e3 := h3.length
  rw [g1, g2, g3, List.length_map, List.length_map, List.length_map, List.length_map, List.length_map, decide_eq_true e1.symm, decide_eq_true e2.symm, decide_eq_true e3.symm]; rfl
section
variable {P : Program} {w : World} {K : PySem.W.Frag} {mg : Str → Option Value} {base : Heap}
inductive spPartOf_ (vs : List V) (H : Hp) (Q : VK) : Prop
  | mk (b o : Addr) (m : KM.Fra) (many : Nat) (t : Int) (h0 : vs = [.ref b, .ref o, .int (many : Int)]) (h1 : Bx H b t) (h2 : 0 ≤ t) (h3 : t ≤ 900000) (h4 : H o = some (fr m)) (h5 : Fb 24 m.1 m.2) (h6 : 0 ≤ m.1) (h7 : 1 ≤ many) (h8 : many ≤ 4) (h9 : ∀ o' q t' H', SameE (Eb b) H H' → H' o' = some (fr q) → Fb 27 q.1 q.2 → 0 ≤ q.1 → KM.vl q * (many : Rat) ≤ KM.vl m → Bx H' b t' → t ≤ t' → t' ≤ t + 1 → Q (.ref o') H')
def spPartOf : Sp := fun vs H Q _ => spPartOf_  vs H Q
theorem ok_part_of (T : Txt K mg) : FnOk P w K mg base CX0 3 T.f_l_part_of T.d_l_part_of ["_law_box_here", "_law_top", "_law_many"] spPartOf := by
  have G_l_product := ok_l_product (P := P) (w := w) (base := base) T
  have G_l_take := ok_take (P := P) (w := w) (base := base) T
  refine T.F_l_part_of.ok sc_l_part_of (fun vs H Q E h => ?_) (fun cdv A outer s H vs Q E hr h => ?_)
  · obtain ⟨b, o, m, many, t, rfl, _⟩ := h
    rfl
  · obtain ⟨b, o, m, many, t, rfl, B, ht0, ht1, ho, fm, m0, h1, h4, k⟩ := h
    refine ⟨_, (@pss_one _ _ _ (@ps_ret _ _ _ _ (@pe_call _ _ _ _ _ _ _ _ _ _ _ _ _ _ _ _ G_l_product (hr.mono (by decide)) k_l_part_of_l_product T.m_l_product T.F_l_product.kp T.B_l_product .nil (@pass0 _) (@pa_c _ _ _ _ _ (@pw _ 1 _ _ (Or.inl k_l_part_of_l_top) (by rfl) (by decide) (by decide)) (@pa_c _ _ _ _ _ (@pe_ifExp _ _ _ _ _ _ _ _ (@pt_cmpR _ _ _ _ _ _ _ _ (@op_eq _) (@pw _ 2 _ _ (Or.inl k_l_part_of_l_many) (by rfl) (by decide) (by decide)) (@pe_int _ _ _ _) (@nomark _ _ (by decide) (by decide))) (@pe_ix _ _ _ _ _ _ _ (@ixL_k _ (K) (by rfl)) (@pe_lstA _ _ _ _ (@pa_c _ _ _ _ _ (@pe_tupA _ _ _ _ _ (@pa_c _ _ _ _ _ (@pe_int _ _ _ _) (@pa_c _ _ _ _ _ (@pe_int _ _ _ _) (@pa_nil _) rfl) rfl)) (@pa_c _ _ _ _ _ (@pe_tupA _ _ _ _ _ (@pa_c _ _ _ _ _ (@pe_int _ _ _ _) (@pa_c _ _ _ _ _ (@pe_int _ _ _ _) (@pa_nil _) rfl) rfl)) (@pa_c _ _ _ _ _ (@pe_tupA _ _ _ _ _ (@pa_c _ _ _ _ _ (@pe_int _ _ _ _) (@pa_c _ _ _ _ _ (@pe_int _ _ _ _) (@pa_nil _) rfl) rfl)) (@pa_c _ _ _ _ _ (@pe_tupA _ _ _ _ _ (@pa_c _ _ _ _ _ (@pe_int _ _ _ _) (@pa_c _ _ _ _ _ (@pe_int _ _ _ _) (@pa_nil _) rfl) rfl)) (@pa_nil _) rfl) rfl) rfl) rfl)) (@pe_call _ _ _ _ _ _ _ _ _ _ _ _ _ _ _ _ G_l_take (hr.mono (by decide)) k_l_part_of_l_take T.m_l_take T.F_l_take.kp T.B_l_take .nil (@pass0 _) (@pa_c _ _ _ _ _ (@pw _ 0 _ _ (Or.inl k_l_part_of_l_box_here) (by rfl) (by decide) (by decide)) (@pa_c _ _ _ _ _ (@pe_int _ _ _ _) (@pa_nil _) rfl) rfl) (by decide) (by rfl) (by rfl)) (fun _ _ => rfl)) (@pe_tupA _ _ _ _ _ (@pa_c _ _ _ _ _ (@pe_int _ _ _ _) (@pa_c _ _ _ _ _ (@pw _ 2 _ _ (Or.inl k_l_part_of_l_many) (by rfl) (by decide) (by decide)) (@pa_nil _) rfl) rfl))) (@pa_nil _) rfl) rfl) (by decide) (by rfl) (by rfl)))), ?_⟩
    refine ⟨_, rfl, _, rfl, rfl, _, rfl, ifE (fun v H' => Ex3 fun o' q t' => v = .ref o' ∧ H' o' = some (fr q) ∧ Fb 3 q.1 q.2 ∧ 0 ≤ q.1 ∧ KM.vl q * (many : Rat) ≤ 1 ∧ SameE (Eb b) H H' ∧ Bx H' b t' ∧ t ≤ t' ∧ t' ≤ t + 1) ?rest ?h1 ?h2⟩
    case h1 =>
      intro hc rest
      have e1 : many = 1 := by
        have := of_decide_eq_true hc
        injection this with this
        trivial
      subst e1
      refine ⟨(by show 2 ≤ 10000; decide), fun u1 J1 n1 => ⟨(by show 2 ≤ 10000; decide), fun u2 J2 n2 => ⟨(by show 2 ≤ 10000; decide), fun u3 J3 n3 => ⟨(by show 2 ≤ 10000; decide), fun u4 J4 n4 => ⟨(by show 4 ≤ 10000; decide), fun u5 J5 n5 => ?_⟩⟩⟩⟩⟩
      have s5 := (((n1.sm.trans n2.sm).trans n3.sm).trans n4.sm).trans n5.sm
      have nu : ¬ u5 = b := fun z => (B.same (((n1.sm.trans n2.sm).trans n3.sm).trans n4.sm)).ne n5.fr z.symm
      refine ⟨_, rfl, b, 4, t, rfl, B.same s5, by decide, by decide, ht0, by trivial, fun wy t6 J6 w0 w1 _ _ s6 B6 => ?_⟩
      have R : ∀ {u : Addr} {p : KM.Fra}, J5 u = some (fr p) → J6 u = some (fr p) := fun h => s6.tup _ _ h
      obtain ⟨u, q, eu, hu, fq, q0, qv⟩ : Ex2 fun u q => atI [V.ref u1, .ref u2, .ref u3, .ref u4] wy = some (.ref u) ∧ J6 u = some (fr q) ∧ Fb 3 q.1 q.2 ∧ 0 ≤ q.1 ∧ KM.vl q * ((1 : Nat) : Rat) ≤ 1 := by
        obtain rfl | rfl | rfl | rfl : wy = 0 ∨ wy = 1 ∨ wy = 2 ∨ wy = 3 := by trivial
        · exact ⟨u1, (0, 1), rfl, R ((((n2.sm.trans n3.sm).trans n4.sm).trans n5.sm) _ _ n1.at'), Fb.small (by decide) (by decide) (by decide) (by decide), by decide, by decide +kernel⟩
        · exact ⟨u2, (1, 1), rfl, R (((n3.sm.trans n4.sm).trans n5.sm) _ _ n2.at'), Fb.small (by decide) (by decide) (by decide) (by decide), by decide, by decide +kernel⟩
        · exact ⟨u3, (1, 2), rfl, R ((n4.sm.trans n5.sm) _ _ n3.at'), Fb.small (by decide) (by decide) (by decide) (by decide), by decide, by decide +kernel⟩
        · exact ⟨u4, (2, 7), rfl, R (n5.sm _ _ n4.at'), Fb.small (by decide) (by decide) (by decide) (by decide), by decide, by decide +kernel⟩
      exact ⟨u5, _, _, _, rfl, rfl, SqL.of (s6.old u5 _ nu n5.at'), eu, rest _ _ ⟨u, q, t6, rfl, hu, fq, q0, qv, s5.toE.trans s6, B6, by trivial, by trivial⟩⟩
    case h2 =>
      intro hc rest
      have e1 : many ≠ 1 := fun z => by
        subst z
        exact absurd (decide_eq_true rfl) (by rw [Bool.eq_false_iff] at hc; exact hc)
      refine ⟨_, rfl, (by show 2 ≤ 10000; decide), fun u1 J1 n1 => rest _ _ ⟨u1, (1, (many : Int)), t, rfl, n1.at', ?_, (by show (0 : Int) ≤ 1; decide), ?_, n1.sm.toE, B.same n1.sm, by trivial, by trivial⟩⟩
      · obtain rfl | rfl | rfl : many = 2 ∨ many = 3 ∨ many = 4 := by trivial
        all_goals exact Fb.small (by decide) (by decide) (by decide) (by decide)
      · obtain rfl | rfl | rfl : many = 2 ∨ many = 3 ∨ many = 4 := by trivial
        all_goals decide +kernel
    case rest =>
    rintro _ H1 ⟨o1, q, t1, rfl, ho1, fq, q0, qv, s1, B1, h1a, h1b⟩
    refine ⟨o, o1, m, q, 24, 3, rfl, s1.tup _ _ ho, ho1, fm, fq, by decide, by decide, fun o2 H2 n2 => ?_⟩
    have rm : KM.Rd m := ⟨fm.pos, fm.co⟩
    have rq : KM.Rd q := ⟨fq.pos, fq.co⟩
    have rt := rm.tim rq
    have ev := KM.vl_tim rm.nz rq.nz
    have vm := (vl_nn rm).mpr m0
    have vq := (vl_nn rq).mpr q0
    refine k o2 _ t1 H2 (s1.trans n2.sm.toE) n2.at' (Fb.tim' fm fq (by decide)) ?_ ?_ (B1.same n2.sm) h1a h1b
    · refine (vl_nn rt).mp ?_
      rw [ev]
      exact Rat.mul_nonneg vm vq
    · show KM.vl (KM.lTim m q) * (many : Rat) ≤ KM.vl m
      rw [ev, Rat.mul_assoc]
      have := Rat.mul_le_mul_of_nonneg_left qv vm
      rw [Rat.mul_one] at this
      exact this
end
end K46
namespace K46
open PySem L2
set_option maxHeartbeats 4000000
section
variable {P : Program} {w : World} {K : PySem.W.Frag} {mg : Str → Option Value} {base : Heap}
theorem parts_comp {α : Type} {b q : Addr} {zs : List V} {us : List α} {g : α → PyData} {h : α → KM.Fra} {H1 : Hp} {t1 : Int} {σc : St} {tg : TG} {te : TE} {Q : VK} (B : Bx H1 b t1) (hq : H1 q = some (.tup zs)) (r : IsAll ED H1 zs (us.map g)) (hl : us.length ≤ 12)
    (step : ∀ x u H' t' (R : VK), u ∈ us → IsD ED H' x (g u) → Bx H' b t' → t1 ≤ t' → t' ≤ t1 + 12 → (∀ o p t'' H'', SameE (Eb b) H' H'' → H'' o = some (fr p) → PartC (h u) p → Bx H'' b t'' → t' ≤ t'' → t'' ≤ t' + 1 → R (.ref o) H'') → tg x σc H' fun σ2 H2 => Back σc σ2 ∧ te σ2 H2 R)
    (fin : ∀ D H' ys ps t', SameE (Eb b) H1 H' → H1 D = none → H' D = some (.lst ys) → IsAll ED H' ys ((ps : List KM.Fra).map frD) → Two (fun u p => PartC (h u) p) us ps → Bx H' b t' → t1 ≤ t' → t' ≤ t1 + 12 → Q (.ref D) H') : ∀ D, H1 D = none → CompW (Itt K q) σc tg tT te D H1 Q := fun D hD => by
  have lz := r.length
  rw [List.length_map] at lz
  have nD : ¬ D = b := fun z => B.ne hD z.symm
  refine comp_each (n := zs.length) (fun i H' ys => Ex2 fun ps t' => H' D = some (.lst ys) ∧ ys.length = i ∧ SameE (Eb b) H1 H' ∧ IsAll ED H' ys ((ps : List KM.Fra).map frD) ∧ Two (fun u p => PartC (h u) p) (us.take i) ps ∧ Bx H' b t' ∧ t1 ≤ t' ∧ t' ≤ t1 + i) (sz_of (by trivial)) ⟨[], t1, upd_same, rfl, (Same.new hD).toE, .nil, .nil, B.same (Same.new hD), by trivial, by trivial⟩ ?_ ?_ ?_ ?_ ?_
  · rintro i H' ys ⟨ps, t', e, rfl, _⟩
    exact ⟨e, Nat.le_refl _⟩
  · rintro i H' ys hi ⟨ps, t', _, _, sm, _⟩
    exact ⟨zs, zs[i], SqT.of (sm.tup _ _ hq), by simp [hi]⟩
  · rintro H' ys ⟨ps, t', _, _, sm, _⟩
    exact ⟨zs, SqT.of (sm.tup _ _ hq), Nat.le_refl _⟩
  · rintro i H' ys x H'' hi ⟨ps, t', e, rfl, sm, ia, tw, B', ha, hb⟩ ⟨rfl, ex⟩
    obtain ⟨dx, e1, g1⟩ := r.get (ex _ (SqT.of (sm.tup _ _ hq)))
    rw [List.getElem?_map] at e1
    obtain ⟨u, e2, rfl⟩ := Option.map_eq_some_iff.mp e1
    refine step x u H'' t' _ (List.mem_of_getElem? e2) (g1.tupS (F := ED) sm) B' ha (by trivial) fun o p t'' H3 s3 ho pc B3 h3a h3b => ?_
    have eD := s3.old D _ nD e
    have c' : Ch H3 D (ys ++ [.ref o]) (upd H3 D (.lst (ys ++ [.ref o]))) := Ch.mk'
    refine ⟨eD, ps ++ [p], t'', upd_same, by rw [List.length_append]; rfl, (sm.trans s3).up hD, ?_, ?_, B3.ch c' (Ne.symm nD), by trivial, by trivial⟩
    · rw [List.map_append]
      exact all_snoc c' eD (ia.tupS s3) (isF ho)
    · rw [ptake e2]
      exact Two.snoc (R := fun u p => PartC (h u) p) (a := u) pc tw
  · rintro H' ys ⟨ps, t', e, el, sm, ia, tw, B', ha, hb⟩
    rw [lz, List.take_length] at tw
    exact fin D H' ys ps t' sm hD e ia tw B' ha (by trivial)
inductive spAnySend_ (vs : List V) (H : Hp) (Q : VK) : Prop
  | mk (b : Addr) (pv : V) (t : Int) (ls ss : List (List Nat)) (ts : List PT) (us : List TU) (ws qs : List WE) (h0 : vs = [.ref b, pv]) (h1 : Bx H b t) (h2 : 0 ≤ t) (h3 : t ≤ 800000) (h4 : IsD ED H pv (planD ls ss ts us ws qs)) (h5 : PlC ls ss ts us ws qs) (h6 : ∀ v fs ps rs t' H', SameE (Eb b) H H' → IsD (Eb b) H' v (sendD fs ps rs) → Two (fun t f => LoadC ss.length (PT.most t) f) ts fs → Two (fun u p => PartC (TU.most u) p) us ps → Two (fun u p => PartC (WE.most u) p) ws rs → Bx H' b t' → t ≤ t' → t' ≤ t + 200 → Q v H')
def spAnySend : Sp := fun vs H Q _ => spAnySend_  vs H Q
theorem ok_any_sending (T : Txt K mg) : FnOk P w K mg base CX0 4 T.f_l_any_sending T.d_l_any_sending ["_law_box_here", "_law_plan"] spAnySend := by
  have G_l_take := ok_take (P := P) (w := w) (base := base) T
  have G_l_part_of := ok_part_of (P := P) (w := w) (base := base) T
  refine T.F_l_any_sending.ok sc_l_any_sending (fun vs H Q E h => ?_) (fun cdv A outer s H vs Q E hr h => ?_)
  · obtain ⟨b, pv, t, ls, ss, ts, us, ws, qs, rfl, _⟩ := h
    rfl
  · obtain ⟨b, pv, t, ls, ss, ts, us, ws, qs, rfl, B, ht0, ht1, ip, pc, k⟩ := h
    obtain ⟨na, x1, p2, p3, p4, p5, x6, y2, y3, y4, y5, rfl, hna, hp2, hp3, hp4, hp5, ey2, i3, i4, i5⟩ := plan_parts ip
    have hs1 := pc.s1; have hs4 := pc.s4; have ht12 := pc.t12; have hu12 := pc.u12; have hw7 := pc.w7
    have l3 := i3.length
    rw [List.length_map] at l3
    rw [← ey2] at k
    refine ⟨_, (@pss_cons _ _ _ _ _ (@ps_set _ _ (2) _ _ _ _ sc_l_any_sending.nd rfl (Or.inl k_l_any_sending_l_goes) (@pe_lstA _ _ _ _ (@pa_nil _)) (by rfl) (by first | exact .inl rfl | exact .inr rfl | assumption)) (@pss_cons _ _ _ _ _ (@ps_for _ _ _ _ _ _ _ _ PassesOwn.never rfl (@pi_tup_k _ (K) _ _ _ (@pe_ix _ _ _ _ _ _ _ (@ixT_k _ (K) (by rfl)) (@pw _ 1 _ _ (Or.inr (Or.inl k_l_any_sending_l_plan)) (by rfl) (by decide) (by decide)) (@pe_int _ _ _ _) (fun _ _ => rfl)) (by rfl)) (@pg_name _ _ (3) _ sc_l_any_sending.nd rfl (Or.inr k_l_any_sending_l_tie) (by first | exact .inl rfl | exact .inr rfl | assumption)) (@pss_cons _ _ _ _ _ (@ps_par _ _ (4) (5) _ _ _ _ _ _ _ _ _ _ _ rfl sc_l_any_sending.nd rfl rfl (by decide) k_l_any_sending_l_way k_l_any_sending_l_some (@pa_c _ _ _ _ _ (@pe_call _ _ _ _ _ _ _ _ _ _ _ _ _ _ _ _ G_l_take (hr.mono (by decide)) k_l_any_sending_l_take T.m_l_take T.F_l_take.kp T.B_l_take .nil (@pass0 _) (@pa_c _ _ _ _ _ (@pw _ 0 _ _ (Or.inr (Or.inl k_l_any_sending_l_box_here)) (by rfl) (by decide) (by decide)) (@pa_c _ _ _ _ _ (@pe_int _ _ _ _) (@pa_nil _) rfl) rfl) (by decide) (by rfl) (by rfl)) (@pa_c _ _ _ _ _ (@pe_op _ _ _ _ _ _ _ _ (@op_repA _) (@pe_lstA _ _ _ _ (@pa_c _ _ _ _ _ (@pe_tupA _ _ _ _ _ (@pa_c _ _ _ _ _ (@pe_int _ _ _ _) (@pa_c _ _ _ _ _ (@pe_int _ _ _ _) (@pa_nil _) rfl) rfl)) (@pa_nil _) rfl)) (@pe_callB _ _ _ _ _ _ _ _ _ (@len_k _ (K) (by rfl)) k_l_any_sending_len T.b_len (@boot_b_len) (@pa_c _ _ _ _ _ (@pe_ix _ _ _ _ _ _ _ (@ixT_k _ (K) (by rfl)) (@pw _ 1 _ _ (Or.inr (Or.inl k_l_any_sending_l_plan)) (by rfl) (by decide) (by decide)) (@pe_int _ _ _ _) (fun _ _ => rfl)) (@pa_nil _) rfl) (by decide) (by decide) (by rfl) (by rfl))) (@pa_nil _) rfl) rfl) (by kernel_rfl) (by rfl)) (@pss_cons _ _ _ _ _ (@ps_if _ _ _ _ _ _ _ _ (@pt_cmpR _ _ _ _ _ _ _ _ (@op_eq _) (@pw _ 4 _ _ (Or.inl k_l_any_sending_l_way) (by rfl) (by decide) (by decide)) (@pe_int _ _ _ _) (@nomark _ _ (by decide) (by decide))) (@pss_one _ _ _ (@ps_setComp _ _ _ _ _ _ _ (["_law_stuff", "_law_box_here", "_law_plan", "_law_tie"]) (1) ([0, 1, 3]) _ _ _ _ (5) _ _ _ sc_l_any_sending.nd rfl k_l_any_sending_l_some (by kernel_rfl) rfl (by kernel_rfl) (@pi_tup_k _ (K) _ _ _ (@pe_ix _ _ _ _ _ _ _ (@ixT_k _ (K) (by rfl)) (@pw _ 1 _ _ (Or.inr (Or.inl k_l_any_sending_l_plan)) (by rfl) (by decide) (by decide)) (@pe_int _ _ _ _) (fun _ _ => rfl)) (by rfl)) (fun _ _ _ _ _ _ => (@pg_name _ _ (0) _ (@nodupS _ (by kernel_rfl)) rfl (Or.inl (by kernel_rfl)) (by first | exact .inl rfl | exact .inr rfl | assumption))) (fun _ _ _ _ _ _ => @pifs_nil _) (fun _ _ _ _ _ _ => (@pe_call _ _ _ _ _ _ _ _ _ _ _ _ _ _ _ _ G_l_part_of (hr.mono (by decide)) (by show _ = _; kernel_rfl) T.m_l_part_of T.F_l_part_of.kp T.B_l_part_of .nil (@pass0 _) (@pa_c _ _ _ _ _ (@pw _ 1 _ _ (Or.inr (Or.inl (by kernel_rfl))) (by rfl) (by decide) (by decide)) (@pa_c _ _ _ _ _ (@pe_ix _ _ _ _ _ _ _ (@ixT_k _ (K) (by rfl)) (@pw _ 3 _ _ (Or.inr (Or.inl (by kernel_rfl))) (by rfl) (by decide) (by decide)) (@pe_int _ _ _ _) (fun _ _ => rfl)) (@pa_c _ _ _ _ _ (@pe_callB _ _ _ _ _ _ _ _ _ (@len_k _ (K) (by rfl)) (by show _ = _; kernel_rfl) T.b_len (@boot_b_len) (@pa_c _ _ _ _ _ (@pe_ix _ _ _ _ _ _ _ (@ixT_k _ (K) (by rfl)) (@pw _ 2 _ _ (Or.inr (Or.inl (by kernel_rfl))) (by rfl) (by decide) (by decide)) (@pe_int _ _ _ _) (fun _ _ => rfl)) (@pa_nil _) rfl) (by decide) (by decide) (by rfl) (by rfl)) (@pa_nil _) rfl) rfl) rfl) (by decide) (by rfl) (by rfl))) (by intro _; rfl))) (@pss_nil _)) (@pss_cons _ _ _ _ _ (@ps_if _ _ _ _ _ _ _ _ (@pt_cmpR _ _ _ _ _ _ _ _ (@op_eq _) (@pw _ 4 _ _ (Or.inl k_l_any_sending_l_way) (by rfl) (by decide) (by decide)) (@pe_int _ _ _ _) (@nomark _ _ (by decide) (by decide))) (@pss_one _ _ _ (@ps_asg _ _ _ _ _ _ (@pe_call _ _ _ _ _ _ _ _ _ _ _ _ _ _ _ _ G_l_part_of (hr.mono (by decide)) k_l_any_sending_l_part_of T.m_l_part_of T.F_l_part_of.kp T.B_l_part_of .nil (@pass0 _) (@pa_c _ _ _ _ _ (@pw _ 0 _ _ (Or.inr (Or.inl k_l_any_sending_l_box_here)) (by rfl) (by decide) (by decide)) (@pa_c _ _ _ _ _ (@pe_ix _ _ _ _ _ _ _ (@ixT_k _ (K) (by rfl)) (@pw _ 3 _ _ (Or.inr (Or.inl k_l_any_sending_l_tie)) (by rfl) (by decide) (by decide)) (@pe_int _ _ _ _) (fun _ _ => rfl)) (@pa_c _ _ _ _ _ (@pe_int _ _ _ _) (@pa_nil _) rfl) rfl) rfl) (by decide) (by rfl) (by rfl)) (@pg_sub _ _ _ _ _ _ _ (@pw _ 5 _ _ (Or.inl k_l_any_sending_l_some) (by rfl) (by decide) (by decide)) (@pe_call _ _ _ _ _ _ _ _ _ _ _ _ _ _ _ _ G_l_take (hr.mono (by decide)) k_l_any_sending_l_take T.m_l_take T.F_l_take.kp T.B_l_take .nil (@pass0 _) (@pa_c _ _ _ _ _ (@pw _ 0 _ _ (Or.inr (Or.inl k_l_any_sending_l_box_here)) (by rfl) (by decide) (by decide)) (@pa_c _ _ _ _ _ (@pe_callB _ _ _ _ _ _ _ _ _ (@len_k _ (K) (by rfl)) k_l_any_sending_len T.b_len (@boot_b_len) (@pa_c _ _ _ _ _ (@pw _ 5 _ _ (Or.inl k_l_any_sending_l_some) (by rfl) (by decide) (by decide)) (@pa_nil _) rfl) (by decide) (by decide) (by rfl) (by rfl)) (@pa_nil _) rfl) rfl) (by decide) (by rfl) (by rfl)) (@set_listA _) (by intro _; rfl)) (by rfl) (by rfl) (by rfl))) (@pss_nil _)) (@pss_one _ _ _ (@ps_expr _ _ _ _ (@pe_bm_k _ (K) _ _ _ _ _ _ _ _ _ _ _ PySem.F.plainAttrs_list PySem.F.slot_list_append PySem.F.type_list_append (@mt_appendA _) (@pw _ 2 _ _ (Or.inl k_l_any_sending_l_goes) (by rfl) (by decide) (by decide)) (@pa_c _ _ _ _ _ (@pw _ 5 _ _ (Or.inl k_l_any_sending_l_some) (by rfl) (by decide) (by decide)) (@pa_nil _) rfl) (by rfl) (by rfl) (by rfl) (by rfl) (by rfl) (by rfl)) (by rfl)))))) (by intro _; rfl)) (@pss_cons _ _ _ _ _ (@ps_setComp _ _ _ _ _ _ _ (["_law_one", "_law_box_here"]) (1) ([0]) _ _ _ _ (6) _ _ _ sc_l_any_sending.nd rfl k_l_any_sending_l_turns (by kernel_rfl) rfl (by kernel_rfl) (@pi_tup_k _ (K) _ _ _ (@pe_ix _ _ _ _ _ _ _ (@ixT_k _ (K) (by rfl)) (@pw _ 1 _ _ (Or.inr (Or.inl k_l_any_sending_l_plan)) (by rfl) (by decide) (by decide)) (@pe_int _ _ _ _) (fun _ _ => rfl)) (by rfl)) (fun _ _ _ _ _ _ => (@pg_name _ _ (0) _ (@nodupS _ (by kernel_rfl)) rfl (Or.inl (by kernel_rfl)) (by first | exact .inl rfl | exact .inr rfl | assumption))) (fun _ _ _ _ _ _ => @pifs_nil _) (fun _ _ _ _ _ _ => (@pe_call _ _ _ _ _ _ _ _ _ _ _ _ _ _ _ _ G_l_part_of (hr.mono (by decide)) (by show _ = _; kernel_rfl) T.m_l_part_of T.F_l_part_of.kp T.B_l_part_of .nil (@pass0 _) (@pa_c _ _ _ _ _ (@pw _ 1 _ _ (Or.inr (Or.inl (by kernel_rfl))) (by rfl) (by decide) (by decide)) (@pa_c _ _ _ _ _ (@pe_ix _ _ _ _ _ _ _ (@ixT_k _ (K) (by rfl)) (@pw _ 0 _ _ (Or.inl (by kernel_rfl)) (by rfl) (by decide) (by decide)) (@pe_int _ _ _ _) (fun _ _ => rfl)) (@pa_c _ _ _ _ _ (@pe_int _ _ _ _) (@pa_nil _) rfl) rfl) rfl) (by decide) (by rfl) (by rfl))) (by intro _; rfl)) (@pss_one _ _ _ (@ps_ret _ _ _ _ (@pe_tupA _ _ _ _ _ (@pa_c _ _ _ _ _ (@pw _ 2 _ _ (Or.inl k_l_any_sending_l_goes) (by rfl) (by decide) (by decide)) (@pa_c _ _ _ _ _ (@pw _ 6 _ _ (Or.inl k_l_any_sending_l_turns) (by rfl) (by decide) (by decide)) (@pa_c _ _ _ _ _ (@pe_comp _ _ _ _ _ _ _ (["_law_one", "_law_box_here"]) (1) ([0]) _ _ _ _ rfl (by kernel_rfl) (@pi_tup_k _ (K) _ _ _ (@pe_ix _ _ _ _ _ _ _ (@ixT_k _ (K) (by rfl)) (@pw _ 1 _ _ (Or.inr (Or.inl k_l_any_sending_l_plan)) (by rfl) (by decide) (by decide)) (@pe_int _ _ _ _) (fun _ _ => rfl)) (by rfl)) (fun _ _ _ _ _ _ => (@pg_name _ _ (0) _ (@nodupS _ (by kernel_rfl)) rfl (Or.inl (by kernel_rfl)) (by first | exact .inl rfl | exact .inr rfl | assumption))) (fun _ _ _ _ _ _ => @pifs_nil _) (fun _ _ _ _ _ _ => (@pe_call _ _ _ _ _ _ _ _ _ _ _ _ _ _ _ _ G_l_part_of (hr.mono (by decide)) (by show _ = _; kernel_rfl) T.m_l_part_of T.F_l_part_of.kp T.B_l_part_of .nil (@pass0 _) (@pa_c _ _ _ _ _ (@pw _ 1 _ _ (Or.inr (Or.inl (by kernel_rfl))) (by rfl) (by decide) (by decide)) (@pa_c _ _ _ _ _ (@pe_ix _ _ _ _ _ _ _ (@ixT_k _ (K) (by rfl)) (@pw _ 0 _ _ (Or.inl (by kernel_rfl)) (by rfl) (by decide) (by decide)) (@pe_int _ _ _ _) (fun _ _ => rfl)) (@pa_c _ _ _ _ _ (@pe_int _ _ _ _) (@pa_nil _) rfl) rfl) rfl) (by decide) (by rfl) (by rfl))) (by intro _; rfl)) (@pa_nil _) rfl) rfl) rfl))))))), ?_⟩
    refine seqH fun DA nA => ?_
    refine ⟨(by show 0 ≤ 10000; decide), fun D H1 n1 => ?_⟩
    refine nA _ _ ?_
    have B1 := B.same n1.sm
    have nDb : ¬ D = b := fun z => B.ne n1.fr z.symm
    refine seqH fun DB nB => ?_
    refine ⟨_, rfl, na, _, _, _, rfl, rfl, SqT.of (n1.sm _ _ hna), rfl, p3, rfl, ⟨_, SqT.of (n1.sm _ _ hp3)⟩, for_tup (xs := y3) (fun i σ H' => Ex6 fun v3 v4 v5 ys fs t' => σ = [some (.ref b), some (.ref na), some (.ref D), v3, v4, v5, none] ∧ H' D = some (.lst ys) ∧ ys.length = i ∧ IsAll (Et b D) H' ys ((fs : List (List KM.Fra)).map loadD) ∧ Two (fun t f => LoadC y2.length (PT.most t) f) (ts.take i) fs ∧ SameE (Eb b) H H' ∧ Bx H' b t' ∧ t ≤ t' ∧ t' ≤ t + 10 * i) ⟨_, _, _, [], [], t, rfl, n1.at', rfl, .nil, .nil, n1.sm.toE, B1, by trivial, by trivial⟩ ?_ ?_ ?_⟩
    · rintro i σ H' _ ⟨v3, v4, v5, ys, fs, t', rfl, _, _, _, _, sm, _⟩
      exact SqT.of (sm.tup _ _ hp3)
    · rintro i x σ G hx ⟨v3, v4, v5, ys, fs, t1, rfl, hD, lD, iD, tw, sG, BG, h1a, h1b⟩
      have hi12 : i < y3.length := (List.getElem?_eq_some_iff.mp hx).1
      obtain ⟨dy, edy, gy⟩ := i3.get hx
      rw [List.getElem?_map] at edy
      obtain ⟨tt, et, rfl⟩ := Option.map_eq_some_iff.mp edy
      have tcm := pc.tc tt (List.mem_of_getElem? et)
      obtain ⟨at', c1, c2, om, c4, rfl, hat, hom⟩ := pt_parts (gy.tupS (F := ED) sG)
      refine bodyH (t := tSeq _ _) fun DC nC => ?_
      refine seqH fun DD nD => ?_
      refine ⟨_, rfl, b, 3, t1, rfl, BG, by decide, by decide, by trivial, by trivial, fun wy t2 G1 w0 w1 h2a h2b g1 BG1 => ⟨(by show 2 ≤ 10000; decide), fun z1 G2 m2 => ⟨(by show 1 ≤ 10000; decide), fun z2 G3 m3 => ?_⟩⟩⟩
      have g13 := (g1.trans m2.sm.toE).trans m3.sm.toE
      have sG3 := sG.trans g13
      refine ⟨_, rfl, na, _, _, _, rfl, rfl, SqT.of (sG3.tup _ _ hna), rfl, p2, y2, rfl, .inr (SqT.of (sG3.tup _ _ hp2)), z2, _, _, rfl, rfl, m3.at', by trivial, by trivial, (by show 1 * _ ≤ 10000; trivial), fun S0 G4 m4 => ⟨_, _, rfl, ?_⟩⟩
      refine nD _ _ ?_
      clear nD
      have g14 := g13.trans m4.sm.toE
      have BG4 := ((BG1.same m2.sm).same m3.sm).same m4.sm
      have hS0 : G4 S0 = some (.lst (List.replicate y2.length (.ref z1))) := by rw [m4.at', Int.toNat_natCast, rep_flat]
      have fS0 : G S0 = none := SameE.free g13 ((BG1.same m2.sm).same m3.sm) m4.fr
      have iS0 : IsAll ED G4 (List.replicate y2.length (.ref z1)) ((List.replicate y2.length ((0, 1) : KM.Fra)).map frD) := by
        rw [List.map_replicate]
        exact isAll_rep (isF (p := (0, 1)) ((m3.sm.trans m4.sm) _ _ m2.at')) _
      have rmost : KM.Rd tt.most := ⟨tcm.fm.pos, tcm.fm.co⟩
      have vmost := (vl_nn rmost).mpr tcm.m0
      have f01 : Fb 27 (0 : Int) 1 := Fb.small (by decide) (by decide) (by decide) (by decide)
      have L0 : LoadC y2.length tt.most (List.replicate y2.length (0, 1)) := ⟨List.length_replicate, fun p hp => by rw [List.eq_of_mem_replicate hp]; exact f01, fun p hp => by rw [List.eq_of_mem_replicate hp]; decide, by rw [rsum_zero]; exact vmost⟩
      refine joinS (fun σ H' => Ex4 fun S xs f t' => σ = [some (.ref b), some (.ref na), some (.ref D), some (.ref at'), some (.int wy), some (.ref S), none] ∧ H' S = some (.lst xs) ∧ IsAll ED H' xs ((f : List KM.Fra).map frD) ∧ LoadC y2.length tt.most f ∧ (wy = 1 → f = List.replicate y2.length (0, 1)) ∧ G S = none ∧ SameE (Eb b) G H' ∧ Bx H' b t' ∧ t1 ≤ t' ∧ t' ≤ t1 + 5) ?rest1 ?h1
      case h1 =>
        intro rest
        refine ⟨_, rfl, rfl, _, rfl, ite2 (fun c => ?_) (fun c => ?_)⟩
        · have hw0 : wy = 0 := by
            have := of_decide_eq_true c
            injection this
          refine ⟨_, rfl, na, _, _, _, rfl, rfl, SqT.of ((sG.trans g14).tup _ _ hna), rfl, p2, rfl, ⟨_, SqT.of ((sG.trans g14).tup _ _ hp2)⟩, fun S hS => comp_each (n := y2.length) (fun j H' xs => Ex2 fun (f : List KM.Fra) (t' : Int) => H' S = some (.lst xs) ∧ IsAll ED H' xs (f.map frD) ∧ xs.length = j ∧ (∀ p ∈ f, Fb 27 p.1 p.2 ∧ 0 ≤ p.1 ∧ KM.vl p * (y2.length : Rat) ≤ KM.vl tt.most) ∧ Bx H' b t' ∧ t2 ≤ t' ∧ t' ≤ t2 + j ∧ SameE (Eb b) G4 H') ?_ ?_ ?_ ?_ ?_ ?_ ?_⟩
          · rw [sizeLine_eq]; trivial
          · exact ⟨[], t2, upd_same, .nil, rfl, fun h hh => (by cases hh), BG4.same (Same.new hS), by trivial, by trivial, (Same.new hS).toE⟩
          · rintro j H' xs ⟨f, t8, e, _, rfl, _⟩
            exact ⟨e, Nat.le_refl _⟩
          · rintro j H' xs hj ⟨f, t8, _, _, _, _, _, _, _, s8⟩
            exact ⟨y2, y2[j], SqT.of (((sG.trans g14).trans s8).tup _ _ hp2), by simp [hj]⟩
          · rintro H' xs ⟨f, t8, _, _, _, _, _, _, _, s8⟩
            exact ⟨y2, SqT.of (((sG.trans g14).trans s8).tup _ _ hp2), Nat.le_refl _⟩
          · have nS : ¬ S = b := fun z => BG4.ne hS z.symm
            rintro j Ha xs x Hb hj ⟨f, t8, g1', g2', g3', g4', g5', g6', g7', g8'⟩ ⟨rfl, _⟩
            have sHa := (sG.trans g14).trans g8'
            have gHa := g14.trans g8'
            refine ⟨back1, _, rfl, _, rfl, at', _, _, _, rfl, rfl, SqT.of (gHa.tup _ _ hat), rfl, _, rfl, na, _, _, _, rfl, rfl, SqT.of (sHa.tup _ _ hna), rfl, p2, y2, rfl, .inr (SqT.of (sHa.tup _ _ hp2)), b, om, tt.most, y2.length, t8, rfl, g5', by trivial, by trivial, gHa.tup _ _ hom, tcm.fm, tcm.m0, by trivial, by trivial, fun o' q t9 Hc jc hq fq q0 qv Cc h9a h9b => ?_⟩
            have eS := jc.old S _ nS g1'
            have c' : Ch Hc S (xs ++ [.ref o']) (upd Hc S (.lst (xs ++ [.ref o']))) := Ch.mk'
            refine ⟨eS, f ++ [q], t9, upd_same, ?_, by rw [List.length_append, g3']; rfl, fun p hp => ?_, Cc.ch c' (Ne.symm nS), by trivial, by trivial, (g8'.trans jc).up hS⟩
            · rw [List.map_append]
              exact all_snoc c' eS (g2'.tupS jc) (isF hq)
            · rcases List.mem_append.mp hp with hp | hp
              · exact g4' p hp
              · rw [List.mem_singleton.mp hp]; exact ⟨fq, q0, qv⟩
          rintro G5 xs ⟨f, t8, e5, i5', l5', c5, B5, h5a, h5b, g5⟩
          have lf : f.length = y2.length := by have := i5'.length; rw [List.length_map] at this; trivial
          exact rest _ _ ⟨S, xs, f, t8, rfl, e5, i5', load_way0 (by trivial) lf c5, fun z => by trivial, SameE.free g14 BG4 hS, g14.trans g5, B5, by trivial, by trivial⟩
        · exact rest _ _ ⟨S0, _, _, t2, rfl, hS0, iS0, L0, fun _ => rfl, fS0, g14, BG4, by trivial, by trivial⟩
      case rest1 =>
      clear hS0 iS0 fS0 m4 g14 BG4 sG3
      rintro σ G5 ⟨S, xs, f, t5, rfl, hS, iS, LS, hw1, fS, g5, B5, h5a, h5b⟩
      have nSb : ¬ S = b := fun z => BG.ne fS z.symm
      have nSD : ¬ S = D := fun z => by rw [z, hD] at fS; cases fS
      have lxs : xs.length = y2.length := by rw [iS.length, List.length_map, LS.len]
      refine joinS (fun σ H' => Ex3 fun xs f t' => σ = [some (.ref b), some (.ref na), some (.ref D), some (.ref at'), some (.int wy), some (.ref S), none] ∧ H' S = some (.lst xs) ∧ IsAll ED H' xs ((f : List KM.Fra).map frD) ∧ LoadC y2.length tt.most f ∧ SameE (Eb b) G H' ∧ Bx H' b t' ∧ t1 ≤ t' ∧ t' ≤ t1 + 8) ?rest2 ?h2
      case h2 =>
        intro rest
        refine ⟨_, rfl, rfl, _, rfl, ite2 (fun c => ?_) (fun c => ?_)⟩
        · have hw : wy = 1 := by
            have := of_decide_eq_true c
            injection this
          have ef := hw1 hw
          subst ef
          refine ⟨_, rfl, _, rfl, at', _, _, _, rfl, rfl, SqT.of (g5.tup _ _ hat), rfl, b, om, tt.most, 1, t5, rfl, B5, by trivial, by trivial, g5.tup _ _ hom, tcm.fm, tcm.m0, by decide, by decide, fun o' q t6 G6 g6 hq fq q0 qv B6 h6a h6b => ?_⟩
          have hS6 := g6.old S _ nSb hS
          refine ⟨_, rfl, _, rfl, _, rfl, S, xs, rfl, .inl (SqL.of hS6), b, _, t6, rfl, B6, by trivial, log9 (by trivial) (by trivial), by trivial, by trivial, fun ix t7 G7 i0 i1 h7a h7b g7 B7 => ?_⟩
          have hS7 := g7.old S _ nSb hS6
          refine ⟨S, xs, ix, ix.toNat, rfl, rfl, hS7, (by unfold ixN; rw [if_pos i0, if_pos (by trivial)]), fun G8 c8 => ?_⟩
          have g8 := ((g5.trans g6).trans g7).ch c8 fS
          have vq : KM.vl q ≤ KM.vl tt.most := by
            have e1 : ((1 : Nat) : Rat) = 1 := rfl
            rw [e1, Rat.mul_one] at qv
            exact qv
          have vq0 : 0 ≤ KM.vl q := (vl_nn ⟨fq.pos, fq.co⟩).mpr q0
          refine rest _ _ ⟨_, (List.replicate y2.length ((0, 1) : KM.Fra)).set ix.toNat q, t7, rfl, c8.at', ?_, ⟨by rw [List.length_set, List.length_replicate], fun p hp => ?_, fun p hp => ?_, Rat.le_trans (rsum_set vq0 _ _) vq⟩, g8, B7.ch c8 (Ne.symm nSb), by trivial, by trivial⟩
          · have iS8 : IsAll ED G8 xs ((List.replicate y2.length ((0, 1) : KM.Fra)).map frD) := ((iS.tupS g6).tupS g7).mono ⟨fun _ _ n _ => absurd trivial n, fun _ _ e => c8.tup e hS7⟩
            have iq : IsD ED G8 (.ref o') (frD q) := (isF (p := q) (g7.tup _ _ hq)).tupC c8 hS7
            rw [List.map_set]
            exact iS8.set iq _
          · rcases mem_set_rep hp with e | e
            · rw [e]; exact f01
            · rw [e]; exact fq
          · rcases mem_set_rep hp with e | e
            · rw [e]; decide
            · rw [e]; exact q0
        · exact rest _ _ ⟨xs, f, t5, rfl, hS, iS, LS, g5, B5, by trivial, by trivial⟩
      case rest2 =>
      clear iS LS hw1 g5 B5 hS lxs h5a h5b
      rintro σ G6 ⟨xs, f, t6, rfl, hS, iS, LS, g6, B6, h6a, h6b⟩
      have hD6 := g6.old D _ nDb hD
      refine ⟨_, rfl, .inl ⟨rfl, _, SqL.of hD6⟩, _, rfl, D, _, _, rfl, rfl, hD6, by trivial, fun G7 c7 => ?_⟩
      refine nC _ _ ⟨_, _, _, ys ++ [.ref S], fs ++ [f], t6, rfl, c7.at', by rw [List.length_append, lD]; rfl, ?_, ?_, (sG.trans g6).ch c7 n1.fr, B6.ch c7 (Ne.symm nDb), by trivial, by trivial⟩
      · have s7 : SameE (Et b D) G6 G7 := ⟨fun a o ne e => c7.ol a o (fun z => ne (.inr z)) e, fun a us e => c7.tup e hD6⟩
        rw [List.map_append]
        refine (((iD.mono (g6.weak (.inl rfl))).mono s7)).append (.cons ?_ .nil)
        have hS7 := c7.ol S _ nSD hS
        exact .lst hS7 (fun z => z.elim nSb nSD) (((iS.narrow fun _ _ => trivial : IsAll (Et b D) G6 xs (f.map frD))).mono s7)
      · rw [ptake et]
        exact Two.snoc (R := fun t f => LoadC y2.length (PT.most t) f) (a := tt) LS tw
    rintro σ G ⟨v3, v4, v5, ys, fs, t1, rfl, hD, lD, iD, tw, sG, BG, h1a, h1b⟩
    rw [l3, List.take_length] at tw
    refine nB _ _ ?_
    refine seqH fun DE nE => ?_
    refine ⟨_, rfl, na, _, _, _, rfl, rfl, SqT.of (sG.tup _ _ hna), rfl, p4, rfl, ⟨_, SqT.of (sG.tup _ _ hp4)⟩, parts_comp (g := tuD) (h := TU.most) BG (sG.tup _ _ hp4) (i4.tupS sG) hu12 ?_ ?_⟩
    · intro x u H' t' R hm gx B' ha hb kk
      obtain ⟨at', u1, u2, u3, om, u5, rfl, hat, hom⟩ := tu_parts gx
      have uc := pc.uc u hm
      exact ⟨back1, _, rfl, _, rfl, at', _, _, _, rfl, rfl, SqT.of hat, rfl, b, om, u.most, 1, t', rfl, B', by trivial, by trivial, hom, uc.fm, uc.m0, by decide, by decide, fun o' q t'' H'' s'' hq fq q0 qv B'' h1 h2 => kk o' q t'' H'' s'' hq ⟨fq, q0, by
        have e1 : ((1 : Nat) : Rat) = 1 := rfl
        rw [e1, Rat.mul_one] at qv
        exact qv⟩ B'' h1 h2⟩
    intro U G1 zs ps t2 g1 fU hU iU tw2 BG1 h2a h2b
    refine nE _ _ ?_
    have nUb : ¬ U = b := fun z => BG.ne fU z.symm
    have sG1 := sG.trans g1
    refine ⟨_, rfl, _, rfl, _, rfl, na, _, _, _, rfl, rfl, SqT.of (sG1.tup _ _ hna), rfl, p5, rfl, ⟨_, SqT.of (sG1.tup _ _ hp5)⟩, parts_comp (g := weD) (h := WE.most) BG1 (sG1.tup _ _ hp5) (i5.tupS sG1) (by trivial) ?_ ?_⟩
    · intro x u H' t' R hm gx B' ha hb kk
      obtain ⟨at', u1, u2, om, rfl, hat, hom⟩ := we_parts gx
      have wc := pc.wc u hm
      exact ⟨back1, _, rfl, _, rfl, at', _, _, _, rfl, rfl, SqT.of hat, rfl, b, om, u.most, 1, t', rfl, B', by trivial, by trivial, hom, wc.fm, wc.m0, by decide, by decide, fun o' q t'' H'' s'' hq fq q0 qv B'' h1 h2 => kk o' q t'' H'' s'' hq ⟨fq, q0, by
        have e1 : ((1 : Nat) : Rat) = 1 := rfl
        rw [e1, Rat.mul_one] at qv
        exact qv⟩ B'' h1 h2⟩
    intro W G2 xs2 rs t3 g2 fW hW iW tw3 BG2 h3a h3b
    have nWb : ¬ W = b := fun z => BG1.ne fW z.symm
    refine ⟨(by show 3 ≤ 10000; decide), fun v G3 n3 => ?_⟩
    have g12 := g1.trans g2
    have g13 := g12.trans n3.sm.toE
    refine k (.ref v) fs ps rs t3 G3 (sG.trans g13) ?_ tw tw2 tw3 (BG2.same n3.sm) (by trivial) (by trivial)
    refine .tup n3.at' (.cons (.lst (g13.old D _ nDb hD) nDb ((iD.mono (g13.weak (.inl rfl))).narrow fun a ha => .inl ha)) (.cons (.lst (n3.sm _ _ (g2.old U _ nUb hU)) nUb (((iU.tupS g2).mono n3.sm.toE).narrow fun _ _ => trivial)) (.cons (.lst (n3.sm _ _ hW) nWb ((iW.mono n3.sm.toE).narrow fun _ _ => trivial)) .nil)))
end
end K46
namespace K46
open PySem L2
set_option maxHeartbeats 4000000
theorem wg_load {n : Nat} {m : KM.Fra} {f : List KM.Fra} (h : LoadC n m f) (hn : n ≤ 4) : Wg 2 (loadD f) 13 2 :=
  .list (m := 12) (l := 1) ((wgL_map fun p hp => wgs_fr (h.fb p hp) (by decide)).up (by have := h.len; trivial) (Nat.le_refl _)) (by decide) (by decide)
theorem two_all {α β : Type} {R : α → β → Prop} {as : List α} {bs : List β} (h : Two R as bs) : ∀ b ∈ bs, ∃ a, R a b := by
  induction h with
  | nil => intro b hb; cases hb
  | cons h r ih =>
    intro b hb
    rcases List.mem_cons.mp hb with e | e
    · rw [e]; exact ⟨_, h⟩
    · exact ih b e
theorem wg_parts {α : Type} {us : List α} {g : α → KM.Fra} {ps : List KM.Fra} {n : Nat} (h : Two (fun u p => PartC (g u) p) us ps) (hn : us.length ≤ n) : Wg 2 (.list (ps.map frD)) (3 * n + 1) 2 :=
  .list (m := 3 * n) (l := 1) ((wgL_map fun p hp => by
    obtain ⟨a, c⟩ := two_all h p hp
    exact wgs_fr c.f (by decide)).up (by have := h.length; trivial) (Nat.le_refl _)) (Nat.le_refl _) (Nat.le_refl _)
theorem wg_goes {n : Nat} {ts : List PT} {fs : List (List KM.Fra)} (h : Two (fun t f => LoadC n (PT.most t) f) ts fs) (hn : n ≤ 4) (ht : ts.length ≤ 12) : WgL 2 (fs.map loadD) 156 2 :=
  (wgL_map (m := 13) fun f hf => by
    obtain ⟨a, c⟩ := two_all h f hf
    exact wg_load c hn).up (by have := h.length; trivial) (Nat.le_refl _)
theorem wg_sendL {n : Nat} {ls ss : List (List Nat)} {ts : List PT} {us : List TU} {ws qs : List WE} {fs : List (List KM.Fra)} {ps rs : List KM.Fra} (c : PlC ls ss ts us ws qs) (hn : n ≤ 4) (h1 : Two (fun t f => LoadC n (PT.most t) f) ts fs) (h2 : Two (fun u p => PartC (TU.most u) p) us ps) (h3 : Two (fun u p => PartC (WE.most u) p) ws rs) :
    WgL 2 [.list (fs.map loadD), .list (ps.map frD), .list (rs.map frD)] 216 3 :=
  .cons (m := 157) (l := 59) (.list (m := 156) (l := 2) (wg_goes h1 hn c.t12) (by decide) (by decide)) (.cons (m := 37) (l := 22) ((wg_parts (n := 12) h2 c.u12).up (by decide) (by decide)) (.cons (m := 22) (l := 0) ((wg_parts (n := 7) h3 c.w7).up (by decide) (by decide)) .nil (by decide)) (by decide)) (by decide)
theorem lst_all {E : Addr → Prop} {H : Hp} {x : V} {ds : List PyData} (h : IsD E H x (.list ds)) : Ex2 fun a xs => x = .ref a ∧ H a = some (.lst xs) ∧ ¬ E a ∧ IsAll E H xs ds := by
  cases h with
  | @lst a xs _ h ne r => exact ⟨a, xs, rfl, h, ne, r⟩
section
variable {P : Program} {w : World} {K : PySem.W.Frag} {mg : Str → Option Value} {base : Heap}
inductive spBrims_ (vs : List V) (H : Hp) (Q : VK) : Prop
  | mk (bv pv sv : V) (ls ss : List (List Nat)) (ts : List PT) (us : List TU) (ws qs : List WE) (fs : List (List KM.Fra)) (ps rs : List KM.Fra) (E : Addr → Prop) (h0 : vs = [bv, pv, sv]) (h1 : IsD ED H pv (planD ls ss ts us ws qs)) (h2 : PlC ls ss ts us ws qs) (h3 : Al E H) (h4 : IsD E H sv (sendD fs ps rs)) (h5 : Two (fun t f => LoadC ss.length (PT.most t) f) ts fs) (h6 : Two (fun u p => PartC (TU.most u) p) us ps) (h7 : Two (fun u p => PartC (WE.most u) p) ws rs) (h8 : ∀ D zs H', Same H H' → H D = none → H' D = some (.lst zs) → (∀ v ∈ zs, Dt 4 E H' v 600 6) → zs.length ≤ 24 → Q (.ref D) H')
def spBrims : Sp := fun vs H Q _ => spBrims_  vs H Q
theorem ok_brims (T : Txt K mg) : FnOk P w K mg base CX0 4 T.f_l_brims T.d_l_brims ["_law_box_here", "_law_plan", "_law_sending"] spBrims := by
  have G_l_product := ok_l_product (P := P) (w := w) (base := base) T
  have G_l_sum := ok_l_sum (P := P) (w := w) (base := base) T
  refine T.F_l_brims.ok sc_l_brims (fun vs H Q E h => ?_) (fun cdv A outer s H vs Q E hr h => ?_)
  · obtain ⟨bv, pv, sv, ls, ss, ts, us, ws, qs, fs, ps, rs, E', rfl, _⟩ := h
    rfl
  · obtain ⟨bv, pv, sv, ls, ss, ts, us, ws, qs, fs, ps, rs, E', rfl, ip, pc, al, is', tw1, tw2, tw3, k⟩ := h
    obtain ⟨na, x1, p2, p3, p4, p5, x6, y2, y3, y4, y5, rfl, hna, hp2, hp3, hp4, hp5, ey2, i3, i4, i5⟩ := plan_parts ip
    have hs1 := pc.s1; have hs4 := pc.s4; have ht12 := pc.t12
    have l3 := i3.length
    rw [List.length_map] at l3
    have wS := wg_sendL pc (n := ss.length) hs4 tw1 tw2 tw3
    obtain ⟨sa, sx, rfl, hsa, rS⟩ := tup_all is'
    have rS0 := rS
    cases rS with
    | @cons s1 _ _ _ r1 rS =>
    cases rS with
    | @cons s2 _ _ _ r2 rS =>
    cases rS with
    | @cons s3 _ _ _ r3 rS =>
    cases rS
    obtain ⟨g, gs, rfl, hg, neg, rg⟩ := lst_all r1
    refine ⟨_, (@pss_cons _ _ _ _ _ (@ps_set _ _ (3) _ _ _ _ sc_l_brims.nd rfl (Or.inl k_l_brims_l_found) (@pe_lstA _ _ _ _ (@pa_nil _)) (by rfl) (by first | exact .inl rfl | exact .inr rfl | assumption)) (@pss_cons _ _ _ _ _ (@ps_for _ _ _ _ _ _ _ _ PassesOwn.never rfl (@pi_enumK _ (K) _ _ _ _ _ _ _ k_l_brims_enumerate T.b_enumerate (@pa_c _ _ _ _ _ (@pe_ix _ _ _ _ _ _ _ (@ixT_k _ (K) (by rfl)) (@pw _ 1 _ _ (Or.inl k_l_brims_l_plan) (by rfl) (by decide) (by decide)) (@pe_int _ _ _ _) (fun _ _ => rfl)) (@pa_nil _) rfl) (by rfl) (by rfl)) (@pg_tup_k _ (K) _ _ _ _ (2) rfl (@pgs_cons _ _ _ _ _ (@pg_name _ _ (4) _ sc_l_brims.nd rfl (Or.inl k_l_brims_l_at) (by first | exact .inl rfl | exact .inr rfl | assumption)) (@pgs_cons _ _ _ _ _ (@pg_name _ _ (5) _ sc_l_brims.nd rfl (Or.inl k_l_brims_l_tie) (by first | exact .inl rfl | exact .inr rfl | assumption)) (@pgs_nil _) (by rfl)) (by rfl)) (by rfl) (by rfl) (by rfl)) (@pss_cons _ _ _ _ _ (@ps_set _ _ (6) _ _ _ _ sc_l_brims.nd rfl (Or.inl k_l_brims_l_some) (@pe_op _ _ _ _ _ _ _ _ (@op_repA _) (@pe_lstA _ _ _ _ (@pa_c _ _ _ _ _ (@pe_call _ _ _ _ _ _ _ _ _ _ _ _ _ _ _ _ G_l_product (hr.mono (by decide)) k_l_brims_l_product T.m_l_product T.F_l_product.kp T.B_l_product .nil (@pass0 _) (@pa_c _ _ _ _ _ (@pe_ix _ _ _ _ _ _ _ (@ixT_k _ (K) (by rfl)) (@pw _ 5 _ _ (Or.inl k_l_brims_l_tie) (by rfl) (by decide) (by decide)) (@pe_int _ _ _ _) (fun _ _ => rfl)) (@pa_c _ _ _ _ _ (@pe_tupA _ _ _ _ _ (@pa_c _ _ _ _ _ (@pe_int _ _ _ _) (@pa_c _ _ _ _ _ (@pe_callB _ _ _ _ _ _ _ _ _ (@len_k _ (K) (by rfl)) k_l_brims_len T.b_len (@boot_b_len) (@pa_c _ _ _ _ _ (@pe_ix _ _ _ _ _ _ _ (@ixT_k _ (K) (by rfl)) (@pw _ 1 _ _ (Or.inl k_l_brims_l_plan) (by rfl) (by decide) (by decide)) (@pe_int _ _ _ _) (fun _ _ => rfl)) (@pa_nil _) rfl) (by decide) (by decide) (by rfl) (by rfl)) (@pa_nil _) rfl) rfl)) (@pa_nil _) rfl) rfl) (by decide) (by rfl) (by rfl)) (@pa_nil _) rfl)) (@pe_callB _ _ _ _ _ _ _ _ _ (@len_k _ (K) (by rfl)) k_l_brims_len T.b_len (@boot_b_len) (@pa_c _ _ _ _ _ (@pe_ix _ _ _ _ _ _ _ (@ixT_k _ (K) (by rfl)) (@pw _ 1 _ _ (Or.inl k_l_brims_l_plan) (by rfl) (by decide) (by decide)) (@pe_int _ _ _ _) (fun _ _ => rfl)) (@pa_nil _) rfl) (by decide) (by decide) (by rfl) (by rfl))) (by rfl) (by first | exact .inl rfl | exact .inr rfl | assumption)) (@pss_cons _ _ _ _ _ (@ps_set _ _ (7) _ _ _ _ sc_l_brims.nd rfl (Or.inl k_l_brims_l_more) (@pe_op _ _ _ _ _ _ _ _ (@op_catA _) (@pe_lstA _ _ _ _ (@pa_c _ _ _ _ _ (@pe_call _ _ _ _ _ _ _ _ _ _ _ _ _ _ _ _ G_l_sum (hr.mono (by decide)) k_l_brims_l_sum T.m_l_sum T.F_l_sum.kp T.B_l_sum .nil (@pass0 _) (@pa_c _ _ _ _ _ (@pe_ix _ _ _ _ _ _ _ (@ixL_k _ (K) (by rfl)) (@pw _ 6 _ _ (Or.inl k_l_brims_l_some) (by rfl) (by decide) (by decide)) (@pe_int _ _ _ _) (fun _ _ => rfl)) (@pa_c _ _ _ _ _ (@pe_tupA _ _ _ _ _ (@pa_c _ _ _ _ _ (@pe_int _ _ _ _) (@pa_c _ _ _ _ _ (@pe_int _ _ _ _) (@pa_nil _) rfl) rfl)) (@pa_nil _) rfl) rfl) (by decide) (by rfl) (by rfl)) (@pa_nil _) rfl)) (@pe_slice _ _ _ _ _ _ _ _ _ _ (@sl_listA _ (K) (by rfl)) (@pw _ 6 _ _ (Or.inl k_l_brims_l_some) (by rfl) (by decide) (by decide)) (@po_some _ _ _ (@pe_int _ _ _ _)) (@po_none _))) (by rfl) (by first | exact .inl rfl | exact .inr rfl | assumption)) (@pss_one _ _ _ (@ps_for _ _ _ _ _ _ _ _ PassesOwn.never rfl (@pi_tup_k _ (K) _ _ _ (@pe_tupA _ _ _ _ _ (@pa_c _ _ _ _ _ (@pw _ 6 _ _ (Or.inl k_l_brims_l_some) (by rfl) (by decide) (by decide)) (@pa_c _ _ _ _ _ (@pw _ 7 _ _ (Or.inl k_l_brims_l_more) (by rfl) (by decide) (by decide)) (@pa_nil _) rfl) rfl)) (by rfl)) (@pg_name _ _ (8) _ sc_l_brims.nd rfl (Or.inl k_l_brims_l_load) (by first | exact .inl rfl | exact .inr rfl | assumption)) (@pss_cons _ _ _ _ _ (@ps_set _ _ (9) _ _ _ _ sc_l_brims.nd rfl (Or.inl k_l_brims_l_goes) (@pe_op _ _ _ _ _ _ _ _ (@op_catA _) (@pe_op _ _ _ _ _ _ _ _ (@op_catA _) (@pe_slice _ _ _ _ _ _ _ _ _ _ (@sl_listA _ (K) (by rfl)) (@pe_ix _ _ _ _ _ _ _ (@ixT_k _ (K) (by rfl)) (@pw _ 2 _ _ (Or.inl k_l_brims_l_sending) (by rfl) (by decide) (by decide)) (@pe_int _ _ _ _) (fun _ _ => rfl)) (@po_none _) (@po_some _ _ _ (@pw _ 4 _ _ (Or.inl k_l_brims_l_at) (by rfl) (by decide) (by decide)))) (@pe_lstA _ _ _ _ (@pa_c _ _ _ _ _ (@pw _ 8 _ _ (Or.inl k_l_brims_l_load) (by rfl) (by decide) (by decide)) (@pa_nil _) rfl))) (@pe_slice _ _ _ _ _ _ _ _ _ _ (@sl_listA _ (K) (by rfl)) (@pe_ix _ _ _ _ _ _ _ (@ixT_k _ (K) (by rfl)) (@pw _ 2 _ _ (Or.inl k_l_brims_l_sending) (by rfl) (by decide) (by decide)) (@pe_int _ _ _ _) (fun _ _ => rfl)) (@po_some _ _ _ (@pe_op _ _ _ _ _ _ _ _ (@op_add _) (@pw _ 4 _ _ (Or.inl k_l_brims_l_at) (by rfl) (by decide) (by decide)) (@pe_int _ _ _ _))) (@po_none _))) (by rfl) (by first | exact .inl rfl | exact .inr rfl | assumption)) (@pss_one _ _ _ (@ps_expr _ _ _ _ (@pe_bm_k _ (K) _ _ _ _ _ _ _ _ _ _ _ PySem.F.plainAttrs_list PySem.F.slot_list_append PySem.F.type_list_append (@mt_appendA _) (@pw _ 3 _ _ (Or.inl k_l_brims_l_found) (by rfl) (by decide) (by decide)) (@pa_c _ _ _ _ _ (@pe_op _ _ _ _ _ _ _ _ (@op_catX _) (@pe_tupA _ _ _ _ _ (@pa_c _ _ _ _ _ (@pw _ 9 _ _ (Or.inl k_l_brims_l_goes) (by rfl) (by decide) (by decide)) (@pa_nil _) rfl)) (@pe_slice _ _ _ _ _ _ _ _ _ _ (@sl_X _) (@pw _ 2 _ _ (Or.inl k_l_brims_l_sending) (by rfl) (by decide) (by decide)) (@po_some _ _ _ (@pe_int _ _ _ _)) (@po_none _))) (@pa_nil _) rfl) (by rfl) (by rfl) (by rfl) (by rfl) (by rfl) (by rfl)) (by rfl)))) (by intro _; rfl))))) (by intro _; rfl)) (@pss_one _ _ _ (@ps_ret _ _ _ _ (@pw _ 3 _ _ (Or.inl k_l_brims_l_found) (by rfl) (by decide) (by decide)))))), ?_⟩
    refine seqH fun DA nA => ?_
    refine ⟨(by show 0 ≤ 10000; decide), fun D H1 n1 => ?_⟩
    refine nA _ _ ?_
    let E2 : Addr → Prop := fun a => E' a ∨ a = D
    have al1 : Al E2 H1 := fun a ha => ha.elim (fun q => al.sm n1.sm a q) (fun q => by rw [q, n1.at']; intro z; cases z)
    have dS : ∀ J, SameE E2 H J → Ds 2 E2 J [.ref g, s2, s3] 216 3 := fun J sJ => ⟨_, (rS0.plus n1.fr).mono sJ, wS⟩
    have dG : ∀ J, SameE E2 H J → Ds 2 E2 J gs 156 2 := fun J sJ => ⟨_, (rg.plus n1.fr).mono sJ, wg_goes tw1 hs4 ht12⟩
    have lgs : gs.length ≤ 12 := by rw [rg.length, List.length_map, ← tw1.length]; exact ht12
    refine seqH fun DB nB => ?_
    refine ⟨_, rfl, na, _, _, _, rfl, rfl, SqT.of (n1.sm _ _ hna), rfl, p3, false, rfl, ⟨y3, SqT.of (n1.sm _ _ hp3)⟩, for_enumK (xs := y3) (fun i σ H' => Ex7 fun v4 v5 v6 v7 v8 v9 zs => σ = [some bv, some (.ref na), some (.ref sa), some (.ref D), v4, v5, v6, v7, v8, v9] ∧ H' D = some (.lst zs) ∧ zs.length = 2 * i ∧ (∀ v ∈ zs, Dt 4 E2 H' v 600 6) ∧ Same H H') ⟨_, _, _, _, _, _, [], rfl, n1.at', rfl, (fun v hv => by cases hv), n1.sm⟩ ?_ ?_ ?_⟩
    · rintro i σ H' _ ⟨v4, v5, v6, v7, v8, v9, zs, rfl, _, _, _, sm⟩
      exact SqT.of (sm _ _ hp3)
    · rintro i x T' σ J0 hx hT ⟨v4, v5, v6, v7, v8, v9, zs, rfl, hD, lD, aD, sm⟩
      have hi : i < y3.length := (List.getElem?_eq_some_iff.mp hx).1
      have nT : Nw J0 T' (.tup [.int (i : Int), x]) (upd J0 T' (.tup [.int (i : Int), x])) := .mk' hT
      generalize upd J0 T' (.tup [.int (i : Int), x]) = J1 at nT ⊢
      obtain ⟨dy, edy, gy⟩ := i3.get hx
      rw [List.getElem?_map] at edy
      obtain ⟨tt, et, rfl⟩ := Option.map_eq_some_iff.mp edy
      have tcm := pc.tc tt (List.mem_of_getElem? et)
      have s1' := sm.trans nT.sm
      obtain ⟨at', c1, c2, om, c4, rfl, hat, hom⟩ := pt_parts (gy.mono s1'.toE)
      refine ⟨T', _, rfl, SqT.of nT.at', rfl, _, _, rfl, _, _, rfl, rfl, ?_⟩
      refine bodyH (t := tSeq _ _) fun DC nC => ?_
      refine seqH fun DD nD => ?_
      have fn : Fb 3 (1 : Int) (y2.length : Int) := by
        obtain e | e | e | e : y2.length = 1 ∨ y2.length = 2 ∨ y2.length = 3 ∨ y2.length = 4 := by trivial
        all_goals
          rw [e]
          exact Fb.small (by decide) (by decide) (by decide) (by decide)
      refine ⟨_, rfl, at', _, _, _, rfl, rfl, SqT.of hat, rfl, _, rfl, na, _, _, _, rfl, rfl, SqT.of (s1' _ _ hna), rfl, p2, y2, rfl, .inr (SqT.of (s1' _ _ hp2)), (by show 2 ≤ 10000; decide), fun q2 J2 n2 => ⟨om, q2, tt.most, (1, (y2.length : Int)), 24, 3, rfl, n2.sm _ _ hom, n2.at', tcm.fm, fn, by decide, by decide, fun o3 J3 n3 => ⟨(by show 1 ≤ 10000; decide), fun q4 J4 n4 => ?_⟩⟩⟩
      have s14 := (n2.sm.trans n3.sm).trans n4.sm
      have s04 := s1'.trans s14
      refine ⟨_, rfl, na, _, _, _, rfl, rfl, SqT.of (s04 _ _ hna), rfl, p2, y2, rfl, .inr (SqT.of (s04 _ _ hp2)), q4, _, _, rfl, rfl, n4.at', by trivial, by trivial, (by show 1 * _ ≤ 10000; trivial), fun S J5 n5 => ?_⟩
      refine nD _ _ ?_
      clear nD
      have s15 := s14.trans n5.sm
      have hS : J5 S = some (.lst (List.replicate y2.length (.ref o3))) := by rw [n5.at', Int.toNat_natCast, rep_flat]
      have fp : Fb 27 (KM.lTim tt.most (1, (y2.length : Int))).1 (KM.lTim tt.most (1, (y2.length : Int))).2 := Fb.tim' tcm.fm fn (by decide)
      have ho3 := (n4.sm.trans n5.sm) _ _ n3.at'
      have hat0 : atI (List.replicate y2.length (V.ref o3)) 0 = some (.ref o3) := atI_nat (j := 0) (by rw [List.getElem?_replicate, if_pos (by trivial)])
      refine seqH fun DE nE => ?_
      refine ⟨_, rfl, S, _, _, _, rfl, rfl, SqL.of hS, hat0, (by show 2 ≤ 10000; decide), fun q6 J6 n6 => ⟨o3, q6, _, (1, 999), 27, 10, rfl, n6.sm _ _ ho3, n6.at', fp, Fb.small (by decide) (by decide) (by decide) (by decide), by decide, by decide, fun o7 J7 n7 => ⟨(by show 1 ≤ 10000; decide), fun q8 J8 n8 => ?_⟩⟩⟩
      have s58 := (n6.sm.trans n7.sm).trans n8.sm
      refine ⟨_, rfl, _, rfl, S, _, rfl, SqL.of (s58 _ _ hS), fun q9 J9 n9 => ⟨q8, q9, _, _, rfl, rfl, n9.sm _ _ n8.at', n9.at', (by have := cutV_length (List.replicate y2.length (V.ref o3)) (some 1) none; rw [List.length_replicate] at this; show 1 + _ ≤ 10000; trivial), fun M J10 n10 => ?_⟩⟩
      refine nE _ _ ?_
      clear nE
      have s510 := (s58.trans n9.sm).trans n10.sm
      have s110 := s15.trans s510
      have s010 := s1'.trans s110
      have sJ0 : Same J0 J10 := nT.sm.trans s110
      have fp' : Fb 40 (KM.ladd (KM.lTim tt.most (1, (y2.length : Int))) (1, 999)).1 (KM.ladd (KM.lTim tt.most (1, (y2.length : Int))) (1, 999)).2 := Fb.add' fp (Fb.small (b := 10) (n := 1) (d := 999) (by decide) (by decide) (by decide) (by decide)) (by decide)
      have dO : ∀ {J : Hp}, Same J5 J → Dt 2 E2 J (.ref o3) 3 1 := fun {J} sJ => ⟨_, (isF (sJ _ _ ho3)).any, wgs_fr fp (by decide)⟩
      have dRep : ∀ {J : Hp} (n : Nat), Same J5 J → Ds 2 E2 J (List.replicate n (.ref o3)) (3 * n) 1 := fun {J} n sJ => by
        induction n with
        | zero => exact Ds.nil
        | succ n ih => exact (Ds.cons (dO sJ) ih).up (by trivial) (Nat.le_refl _)
      have al10 : Al E2 J4 := fun a ha => ha.elim (fun q => al.sm s04 a q) (fun q => by rw [q, (nT.sm.trans s14) _ _ hD]; intro z; cases z)
      have dSl : Dt 2 E2 J10 (.ref S) 13 2 := (Dt.lst (s510 _ _ hS) (al10.ne n5.fr) (dRep y2.length s510)).up (by trivial) (by decide)
      have dMl : Dt 2 E2 J10 (.ref M) 16 2 := by
        refine (Dt.lst n10.at' (((al10.sm n5.sm).sm (s58.trans n9.sm)).ne n10.fr) (Ds.append (n := 3) (m := 12) (Ds.one ⟨_, (isF (((n8.sm.trans n9.sm).trans n10.sm) _ _ n7.at')).any, wgs_fr fp' (by decide)⟩) ?_)).up (by decide) (by decide)
        exact ((dRep y2.length s510).cut _ _).up (by trivial) (Nat.le_refl _)
      refine ⟨_, rfl, _, rfl, (by show 2 ≤ 10000; decide), fun pr J11 n11 => ⟨pr, rfl, ⟨_, SqT.of n11.at'⟩, for_tup (xs := [.ref S, .ref M]) (fun j σ H' => Ex3 fun v8 v9 zs => σ = [some bv, some (.ref na), some (.ref sa), some (.ref D), some (.int (i : Int)), some (.ref at'), some (.ref S), some (.ref M), v8, v9] ∧ H' D = some (.lst zs) ∧ zs.length = 2 * i + j ∧ (∀ v ∈ zs, Dt 4 E2 H' v 600 6) ∧ Same H H' ∧ SameE E2 J11 H') ⟨_, _, zs, rfl, (sJ0.trans n11.sm) _ _ hD, lD, fun v hv => (aD v hv).sm (sJ0.trans n11.sm), s010.trans n11.sm, Same.refl _ |>.toE⟩ ?_ ?_ ?_⟩⟩
      · rintro j σ H' _ ⟨v8, v9, zs, rfl, _, _, _, _, sE⟩
        exact SqT.of (sE.tup _ _ n11.at')
      · rintro j x σ L0 hxj ⟨v8, v9, zs', rfl, hD0, lD0, aD0, sm0, sE0⟩
        have hj2 : j < 2 := (List.getElem?_eq_some_iff.mp hxj).1
        have dx : Dt 2 E2 L0 x 16 2 := by
          refine Dt.sE ?_ sE0
          have hx' : x = .ref S ∨ x = .ref M := by simpa using List.mem_of_getElem? hxj
          rcases hx' with rfl | rfl
          · exact (dSl.sm n11.sm).up (by decide) (by decide)
          · exact dMl.sm n11.sm
        have alL : Al E2 L0 := fun a ha => ha.elim (fun q => al.sm sm0 a q) (fun q => by rw [q, hD0]; intro z; cases z)
        refine bodyH (t := tSeq _ _) fun DF nF => ?_
        refine seqH fun DG nG => ?_
        have hsaL := sm0 _ _ hsa
        have hgL := sm0 _ _ hg
        refine ⟨_, rfl, sa, _, _, _, rfl, rfl, SqT.of hsaL, rfl, _, rfl, _, rfl, g, gs, rfl, SqL.of hgL, fun q1 L1 m1 => ⟨_, rfl, (by show 1 ≤ 10000; decide), fun q2 L2 m2 => ⟨q1, q2, _, _, rfl, rfl, m2.sm _ _ m1.at', m2.at', (by have := cutV_length gs none (some (i : Int)); show _ + 1 ≤ 10000; trivial), fun q3 L3 m3 => ?_⟩⟩⟩
        have t03 := (m1.sm.trans m2.sm).trans m3.sm
        refine ⟨_, rfl, sa, _, _, _, rfl, rfl, SqT.of (t03 _ _ hsaL), rfl, _, rfl, _, _, rfl, rfl, _, rfl, g, gs, rfl, SqL.of (t03 _ _ hgL), fun q4 L4 m4 => ⟨q3, q4, _, _, rfl, rfl, m4.sm _ _ m3.at', m4.at', (by have := cutV_length gs none (some (i : Int)); have := cutV_length gs (some ((i : Int) + 1)) none; rw [List.length_append]; show _ + 1 + _ ≤ 10000; trivial), fun go L5 m5 => ?_⟩⟩
        refine nG _ _ ?_
        clear nG
        have t05 := (t03.trans m4.sm).trans m5.sm
        have sH5 := sm0.trans t05
        have dGo : Dt 4 E2 L5 (.ref go) 330 3 := by
          have d1 := (dG L5 sH5.toE).cut none (some (i : Int))
          have d2 := (dG L5 sH5.toE).cut (some ((i : Int) + 1)) none
          exact ((Dt.lst m5.at' ((alL.sm (t03.trans m4.sm)).ne m5.fr) ((d1.append (Ds.one (n := 16) (k := 2) (dx.sm t05))).append d2)).more (by decide)).up (by decide) (by decide)
        have hD5 := t05 _ _ hD0
        refine ⟨_, rfl, .inl ⟨rfl, _, SqL.of hD5⟩, ?_⟩
        refine EvT.cat (E := E2) (z := 4) (H0 := L5) (n := 330) (m := 216) (k := 3) ?q1 ?q2 (by decide) L5 _ (Same.refl _) fun p xs L6 s6 hp dp => ?_
        case q1 => exact .lit (.cons (n := 330) (m := 0) (.var 9 rfl fun H s => dGo.sm s) .nil) (by decide)
        case q2 => exact .from 1 (EvT.var 2 rfl (sH5 _ _ hsa) fun J sJ => (dS J (sH5.trans sJ).toE).more (by decide))
        have hD6 := s6 _ _ hD5
        refine ⟨D, zs', .ref p, rfl, rfl, hD6, by trivial, fun L7 c7 => ?_⟩
        have s67 : SameE E2 L6 L7 := ⟨fun a o ne e => c7.ol a o (fun z => ne (.inr z)) e, fun a us e => c7.tup e hD6⟩
        refine nF _ _ ⟨_, _, zs' ++ [.ref p], rfl, c7.at', by rw [List.length_append, lD0]; rfl, fun v hv => ?_, fun a o e => c7.ol a o (ne_of_none e n1.fr) (s6 _ _ (sH5 _ _ e)), (sE0.trans (t05.trans s6).toE).trans s67⟩
        rcases List.mem_append.mp hv with hv | hv
        · exact (((aD0 v hv).sm t05).sm s6).sE s67
        · rw [List.mem_singleton.mp hv]
          exact ((Dt.tup hp dp).sE s67).up (by decide) (by decide)
      · rintro σ L0 ⟨v8, v9, zs', rfl, hD0, lD0, aD0, sm0, sE0⟩
        exact nC _ _ ⟨_, _, _, _, _, _, zs', rfl, hD0, by rw [lD0]; show 2 * i + 2 = _; trivial, aD0, sm0⟩
    · rintro σ J0 ⟨v4, v5, v6, v7, v8, v9, zs, rfl, hD, lD, aD, sm⟩
      exact nB _ _ ⟨_, rfl, k D zs J0 sm n1.fr hD (fun v hv => (aD v hv).narrow fun _ h => .inl h) (by trivial)⟩
end
end K46
namespace K46
open PySem L2
set_option maxHeartbeats 8000000
section
variable {P : Program} {w : World} {K : PySem.W.Frag} {mg : Str → Option Value} {base : Heap}
inductive spLaw_ (K : PySem.W.Frag) (vs : List V) (H : Hp) (Q : VK) : Prop
  | mk (a : Addr) (ns : List Int) (h0 : vs = [.ref a]) (h1 : SqL K H a (ns.map V.int)) (h2 : ns.length ≤ 63) (h3 : ∀ H', Q (.bl true) H')
def spLaw (K : PySem.W.Frag) : Sp := fun vs H Q _ => spLaw_ K vs H Q
theorem law_start {H : Hp} {a : Addr} {ns : List Int} (hl : ns.length ≤ 63) (_ : Only H) (hS : SqL K H a (ns.map V.int)) : spLaw K [.ref a] H (fun v _ => v = .bl true) fun _ _ _ => False :=
  ⟨a, ns, rfl, hS, hl, fun _ => rfl⟩
theorem bx_some {H : Hp} {b : Addr} {t : Int} (B : Bx H b t) : H b ≠ none := fun z => B.ne z rfl
theorem op_new {r : R2} {ta : TA} {tb : TE} {σ : St} {H : Hp} {Q : VK} (h : tLstA ta σ H fun x H1 => tb σ H1 fun y H2 => r x y H2 Q) : tOp r (tLstA ta) tb σ H Q := h
theorem law_ok (T : Txt K mg) : FnOk P w K mg base CX0 40 T.f_law T.d_law ["_law_script"] (spLaw K) := by
  have G_l_folded := ok_folded (P := P) (w := w) (base := base) T
  have G_l_box := ok_box (P := P) (w := w) (base := base) T
  have G_l_plan_by := ok_plan_by (P := P) (w := w) (base := base) T
  have G_l_any_sending := ok_any_sending (P := P) (w := w) (base := base) T
  have G_l_brims := ok_brims (P := P) (w := w) (base := base) T
  have G_l_spoilt := ok_spoilt (P := P) (w := w) (base := base) T
  have G_is_sending := ok_is_sending (P := P) (w := w) (base := base) T
  have G_l_is_sending := ok_l_is_sending (P := P) (w := w) (base := base) T
  refine T.F_law.ok sc_law (fun vs H Q E h => ?_) (fun cdv A outer s H vs Q E hr h => ?_)
  · obtain ⟨a, ns, rfl, _⟩ := h
    rfl
  · obtain ⟨a, ns, rfl, hS, hn, k⟩ := h
    refine ⟨_, (@pss_cons _ _ _ _ _ (@ps_set _ _ (1) _ _ _ _ sc_law.nd rfl (Or.inl k_law_l_cells) (@pe_call _ _ _ _ _ _ _ _ _ _ _ _ _ _ _ _ G_l_folded (hr.mono (by decide)) k_law_l_folded T.m_l_folded T.F_l_folded.kp T.B_l_folded .nil (@pass0 _) (@pa_c _ _ _ _ _ (@pw _ 0 _ _ (Or.inl k_law_l_script) (by rfl) (by decide) (by decide)) (@pa_c _ _ _ _ _ (@pe_int _ _ _ _) (@pa_nil _) rfl) rfl) (by decide) (by rfl) (by rfl)) (by rfl) (by first | exact .inl rfl | exact .inr rfl | assumption)) (@pss_cons _ _ _ _ _ (@ps_for _ _ _ _ _ _ _ _ PassesOwn.never rfl (@pi_range1 _ _ _ _ _ _ k_law_range T.b_range (@pa_c _ _ _ _ _ (@pe_callB _ _ _ _ _ _ _ _ _ (@call_max2 _ rfl) k_law_max T.b_max (@boot_b_max) (@pa_c _ _ _ _ _ (@pe_int _ _ _ _) (@pa_c _ _ _ _ _ (@pe_callB _ _ _ _ _ _ _ _ _ (@len_k _ (K) (by rfl)) k_law_len T.b_len (@boot_b_len) (@pa_c _ _ _ _ _ (@pw _ 1 _ _ (Or.inl k_law_l_cells) (by rfl) (by decide) (by decide)) (@pa_nil _) rfl) (by decide) (by decide) (by rfl) (by rfl)) (@pa_nil _) rfl) rfl) (by decide) (by decide) (by rfl) (by rfl)) (@pa_nil _) rfl) (by rfl)) (@pg_name _ _ (2) _ sc_law.nd rfl (Or.inl k_law_l_k) (by first | exact .inl rfl | exact .inr rfl | assumption)) (@pss_cons _ _ _ _ _ (@ps_set _ _ (3) _ _ _ _ sc_law.nd rfl (Or.inl k_law_l_box_here) (@pe_call _ _ _ _ _ _ _ _ _ _ _ _ _ _ _ _ G_l_box (hr.mono (by decide)) k_law_l_box T.m_l_box T.F_l_box.kp T.B_l_box .nil (@pass0 _) (@pa_c _ _ _ _ _ (@pw _ 1 _ _ (Or.inl k_law_l_cells) (by rfl) (by decide) (by decide)) (@pa_c _ _ _ _ _ (@pw _ 2 _ _ (Or.inl k_law_l_k) (by rfl) (by decide) (by decide)) (@pa_nil _) rfl) rfl) (by decide) (by rfl) (by rfl)) (by rfl) (by first | exact .inl rfl | exact .inr rfl | assumption)) (@pss_cons _ _ _ _ _ (@ps_set _ _ (4) _ _ _ _ sc_law.nd rfl (Or.inl k_law_l_plan) (@pe_call _ _ _ _ _ _ _ _ _ _ _ _ _ _ _ _ G_l_plan_by (hr.mono (by decide)) k_law_l_plan_by T.m_l_plan_by T.F_l_plan_by.kp T.B_l_plan_by .nil (@pass0 _) (@pa_c _ _ _ _ _ (@pw _ 3 _ _ (Or.inl k_law_l_box_here) (by rfl) (by decide) (by decide)) (@pa_c _ _ _ _ _ (@pe_int _ _ _ _) (@pa_nil _) rfl) rfl) (by decide) (by rfl) (by rfl)) (by rfl) (by first | exact .inl rfl | exact .inr rfl | assumption)) (@pss_cons _ _ _ _ _ (@ps_set _ _ (5) _ _ _ _ sc_law.nd rfl (Or.inl k_law_l_sending) (@pe_call _ _ _ _ _ _ _ _ _ _ _ _ _ _ _ _ G_l_any_sending (hr.mono (by decide)) k_law_l_any_sending T.m_l_any_sending T.F_l_any_sending.kp T.B_l_any_sending .nil (@pass0 _) (@pa_c _ _ _ _ _ (@pw _ 3 _ _ (Or.inl k_law_l_box_here) (by rfl) (by decide) (by decide)) (@pa_c _ _ _ _ _ (@pw _ 4 _ _ (Or.inl k_law_l_plan) (by rfl) (by decide) (by decide)) (@pa_nil _) rfl) rfl) (by decide) (by rfl) (by rfl)) (by rfl) (by first | exact .inl rfl | exact .inr rfl | assumption)) (@pss_cons _ _ _ _ _ (@ps_set _ _ (6) _ _ _ _ sc_law.nd rfl (Or.inl k_law_l_things) (@pe_op _ _ _ _ _ _ _ _ (@op_catA _) (@pe_lstA _ _ _ _ (@pa_c _ _ _ _ _ (@pw _ 5 _ _ (Or.inl k_law_l_sending) (by rfl) (by decide) (by decide)) (@pa_c _ _ _ _ _ (@pe_callTy _ _ _ _ _ _ _ _ _ (@call_list_ofA _ (K) (by rfl)) k_law_list T.b_list (@boot_ty_list) (@pa_c _ _ _ _ _ (@pw _ 5 _ _ (Or.inl k_law_l_sending) (by rfl) (by decide) (by decide)) (@pa_nil _) rfl) (by decide) (by decide) (by rfl) (by rfl)) (@pa_c _ _ _ _ _ (@pe_non _ _ _) (@pa_c _ _ _ _ _ (@pe_tupA _ _ _ _ _ (@pa_nil _)) (@pa_c _ _ _ _ _ (@pe_tupA _ _ _ _ _ (@pa_c _ _ _ _ _ (@pe_lstA _ _ _ _ (@pa_nil _)) (@pa_c _ _ _ _ _ (@pe_lstA _ _ _ _ (@pa_nil _)) (@pa_c _ _ _ _ _ (@pe_lstA _ _ _ _ (@pa_nil _)) (@pa_nil _) rfl) rfl) rfl)) (@pa_c _ _ _ _ _ (@pe_int _ _ _ _) (@pa_nil _) rfl) rfl) rfl) rfl) rfl) rfl)) (@pe_call _ _ _ _ _ _ _ _ _ _ _ _ _ _ _ _ G_l_brims (hr.mono (by decide)) k_law_l_brims T.m_l_brims T.F_l_brims.kp T.B_l_brims .nil (@pass0 _) (@pa_c _ _ _ _ _ (@pw _ 3 _ _ (Or.inl k_law_l_box_here) (by rfl) (by decide) (by decide)) (@pa_c _ _ _ _ _ (@pw _ 4 _ _ (Or.inl k_law_l_plan) (by rfl) (by decide) (by decide)) (@pa_c _ _ _ _ _ (@pw _ 5 _ _ (Or.inl k_law_l_sending) (by rfl) (by decide) (by decide)) (@pa_nil _) rfl) rfl) rfl) (by decide) (by rfl) (by rfl))) (by rfl) (by first | exact .inl rfl | exact .inr rfl | assumption)) (@pss_cons _ _ _ _ _ (@ps_for _ _ _ _ _ _ _ _ PassesOwn.never rfl (@pi_range1 _ _ _ _ _ _ k_law_range T.b_range (@pa_c _ _ _ _ _ (@pe_int _ _ _ _) (@pa_nil _) rfl) (by rfl)) (@pg_name _ _ (7) _ sc_law.nd rfl (Or.inl k_law_l_turn) (by first | exact .inl rfl | exact .inr rfl | assumption)) (@pss_cons _ _ _ _ _ (@ps_set _ _ (8) _ _ _ _ sc_law.nd rfl (Or.inl k_law_l_bent) (@pe_call _ _ _ _ _ _ _ _ _ _ _ _ _ _ _ _ G_l_spoilt (hr.mono (by decide)) k_law_l_spoilt T.m_l_spoilt T.F_l_spoilt.kp T.B_l_spoilt .nil (@pass0 _) (@pa_c _ _ _ _ _ (@pw _ 3 _ _ (Or.inl k_law_l_box_here) (by rfl) (by decide) (by decide)) (@pa_c _ _ _ _ _ (@pw _ 5 _ _ (Or.inl k_law_l_sending) (by rfl) (by decide) (by decide)) (@pa_nil _) rfl) rfl) (by decide) (by rfl) (by rfl)) (by rfl) (by first | exact .inl rfl | exact .inr rfl | assumption)) (@pss_one _ _ _ (@ps_set _ _ (6) _ _ _ _ sc_law.nd rfl (Or.inl k_law_l_things) (@pe_op _ _ _ _ _ _ _ _ (@op_catA _) (@pw _ 6 _ _ (Or.inl k_law_l_things) (by rfl) (by decide) (by decide)) (@pe_lstA _ _ _ _ (@pa_c _ _ _ _ _ (@pw _ 8 _ _ (Or.inl k_law_l_bent) (by rfl) (by decide) (by decide)) (@pa_c _ _ _ _ _ (@pe_call _ _ _ _ _ _ _ _ _ _ _ _ _ _ _ _ G_l_spoilt (hr.mono (by decide)) k_law_l_spoilt T.m_l_spoilt T.F_l_spoilt.kp T.B_l_spoilt .nil (@pass0 _) (@pa_c _ _ _ _ _ (@pw _ 3 _ _ (Or.inl k_law_l_box_here) (by rfl) (by decide) (by decide)) (@pa_c _ _ _ _ _ (@pw _ 8 _ _ (Or.inl k_law_l_bent) (by rfl) (by decide) (by decide)) (@pa_nil _) rfl) rfl) (by decide) (by rfl) (by rfl)) (@pa_nil _) rfl) rfl))) (by rfl) (by first | exact .inl rfl | exact .inr rfl | assumption)))) (by intro _; rfl)) (@pss_cons _ _ _ _ _ (@ps_for _ _ _ _ _ _ _ _ PassesOwn.never rfl (@pi_list_k _ (K) _ _ _ (@pw _ 6 _ _ (Or.inl k_law_l_things) (by rfl) (by decide) (by decide)) (by rfl)) (@pg_name _ _ (9) _ sc_law.nd rfl (Or.inl k_law_l_thing) (by first | exact .inl rfl | exact .inr rfl | assumption)) (@pss_cons _ _ _ _ _ (@ps_par _ _ (10) (11) _ _ _ _ _ _ _ _ _ _ _ rfl sc_law.nd rfl rfl (by decide) k_law_l_written k_law_l_found (@pa_c _ _ _ _ _ (@pe_callTy _ _ _ _ _ _ _ _ _ (@call_strW _ _ hr) k_law_str T.b_str (@boot_ty_str) (@pa_c _ _ _ _ _ (@pe_lstA _ _ _ _ (@pa_c _ _ _ _ _ (@pw _ 4 _ _ (Or.inl k_law_l_plan) (by rfl) (by decide) (by decide)) (@pa_c _ _ _ _ _ (@pw _ 9 _ _ (Or.inl k_law_l_thing) (by rfl) (by decide) (by decide)) (@pa_nil _) rfl) rfl)) (@pa_nil _) rfl) (by decide) (by decide) (by rfl) (by rfl)) (@pa_c _ _ _ _ _ (@pe_call _ _ _ _ _ _ _ _ _ _ _ _ _ _ _ _ G_is_sending (hr.mono (by decide)) k_law_is_sending T.m_is_sending T.F_is_sending.kp T.B_is_sending .nil (@pass0 _) (@pa_c _ _ _ _ _ (@pw _ 4 _ _ (Or.inl k_law_l_plan) (by rfl) (by decide) (by decide)) (@pa_c _ _ _ _ _ (@pw _ 9 _ _ (Or.inl k_law_l_thing) (by rfl) (by decide) (by decide)) (@pa_nil _) rfl) rfl) (by decide) (by rfl) (by rfl)) (@pa_nil _) rfl) rfl) (by kernel_rfl) (by rfl)) (@pss_cons _ _ _ _ _ (@ps_if _ _ _ _ _ _ _ _ (@PW.pt _ _ _ (@pw_or _ _ _ _ _ _ _ (@pt_not _ _ _ _ (@pt_val _ _ _ (@pe_callB _ _ _ _ _ _ _ _ _ (@isinst_k _ (K) (by rfl)) k_law_isinstance T.b_isinstance (@boot_b_isinstance) (@pa_c _ _ _ _ _ (@pw _ 11 _ _ (Or.inl k_law_l_found) (by rfl) (by decide) (by decide)) (@pa_c _ _ _ _ _ (@pe_ty _ _ _ _ k_law_bool T.b_bool (@boot_ty_bool) (by decide) (by decide)) (@pa_nil _) rfl) rfl) (by decide) (by decide) (by rfl) (by rfl)) (by intro _; rfl))) (@pw_or1 _ _ _ _ (@pt_cmpR _ _ _ _ _ _ _ _ (@op_ne _) (@pw _ 11 _ _ (Or.inl k_law_l_found) (by rfl) (by decide) (by decide)) (@pe_call _ _ _ _ _ _ _ _ _ _ _ _ _ _ _ _ G_l_is_sending (hr.mono (by decide)) k_law_l_is_sending T.m_l_is_sending T.F_l_is_sending.kp T.B_l_is_sending .nil (@pass0 _) (@pa_c _ _ _ _ _ (@pw _ 4 _ _ (Or.inl k_law_l_plan) (by rfl) (by decide) (by decide)) (@pa_c _ _ _ _ _ (@pw _ 9 _ _ (Or.inl k_law_l_thing) (by rfl) (by decide) (by decide)) (@pa_nil _) rfl) rfl) (by decide) (by rfl) (by rfl)) (@nomark _ _ (by decide) (by decide)))))) (@pss_one _ _ _ (@ps_ret _ _ _ _ (@pe_bl _ _ _ _))) (@pss_nil _)) (@pss_one _ _ _ (@ps_if _ _ _ _ _ _ _ _ (@pt_cmpR _ _ _ _ _ _ _ _ (@op_ne _) (@pe_callTy _ _ _ _ _ _ _ _ _ (@call_strW _ _ hr) k_law_str T.b_str (@boot_ty_str) (@pa_c _ _ _ _ _ (@pe_lstA _ _ _ _ (@pa_c _ _ _ _ _ (@pw _ 4 _ _ (Or.inl k_law_l_plan) (by rfl) (by decide) (by decide)) (@pa_c _ _ _ _ _ (@pw _ 9 _ _ (Or.inl k_law_l_thing) (by rfl) (by decide) (by decide)) (@pa_nil _) rfl) rfl)) (@pa_nil _) rfl) (by decide) (by decide) (by rfl) (by rfl)) (@pw _ 10 _ _ (Or.inl k_law_l_written) (by rfl) (by decide) (by decide)) (@nomark _ _ (by decide) (by decide))) (@pss_one _ _ _ (@ps_ret _ _ _ _ (@pe_bl _ _ _ _))) (@pss_nil _))))) (by intro _; rfl)) (@pss_one _ _ _ (@ps_if _ _ _ _ _ _ _ _ (@pt_cmpR _ _ _ _ _ _ _ _ (@op_notB _) (@pe_call _ _ _ _ _ _ _ _ _ _ _ _ _ _ _ _ G_is_sending (hr.mono (by decide)) k_law_is_sending T.m_is_sending T.F_is_sending.kp T.B_is_sending .nil (@pass0 _) (@pa_c _ _ _ _ _ (@pw _ 4 _ _ (Or.inl k_law_l_plan) (by rfl) (by decide) (by decide)) (@pa_c _ _ _ _ _ (@pw _ 5 _ _ (Or.inl k_law_l_sending) (by rfl) (by decide) (by decide)) (@pa_nil _) rfl) rfl) (by decide) (by rfl) (by rfl)) (@pe_bl _ _ _ _) (@nomark _ _ (by decide) (by decide))) (@pss_one _ _ _ (@ps_ret _ _ _ _ (@pe_bl _ _ _ _))) (@pss_nil _))))))))) (by intro _; rfl)) (@pss_one _ _ _ (@ps_ret _ _ _ _ (@pe_bl _ _ _ _))))), ?_⟩
    refine seqH fun DA nA => ?_
    refine ⟨_, rfl, a, ns, 4, rfl, hS, hn, by decide, by decide, fun p ms H1 hp s1 hp1 hm4 => ?_⟩
    refine nA _ _ ?_
    have hmx : 0 ≤ (if ((ms.map V.int).length : Int) > 2 then ((ms.map V.int).length : Int) else 2) ∧ (if ((ms.map V.int).length : Int) > 2 then ((ms.map V.int).length : Int) else 2) ≤ 4 := by
      rw [List.length_map]
      split <;> trivial
    refine ⟨_, rfl, p, _, rfl, .inl (SqL.of hp1), _, _, rfl, _, rfl, by trivial, by trivial, ?_⟩
    generalize (if ((ms.map V.int).length : Int) > 2 then ((ms.map V.int).length : Int) else 2) = mx at hmx
    refine for_range (fun i σ H' => Ex10 fun v2 v3 v4 v5 v6 v7 v8 v9 v10 v11 => σ = [some (.ref a), some (.ref p), v2, v3, v4, v5, v6, v7, v8, v9, v10, v11] ∧ H' p = some (.lst (ms.map V.int))) ⟨_, _, _, _, _, _, _, _, _, _, rfl, hp1⟩ ?_ ?_
    case refine_2 =>
      rintro σ H' ⟨v2, v3, v4, v5, v6, v7, v8, v9, v10, v11, rfl, _⟩
      exact k _
    rintro i σ H2 hi ⟨v2, v3, v4, v5, v6, v7, v8, v9, v10, v11, rfl, hp2⟩
    refine bodyH (t := tSeq _ _) fun DB nB => ?_
    refine seqH fun DC nC => ?_
    refine ⟨_, rfl, _, rfl, p, ms, _, rfl, SqL.of hp2, by trivial, by trivial, fun b H3 hb s3 B3 => ?_⟩
    refine nC _ _ ?_
    have npb : ¬ p = b := fun z => by rw [z, hb] at hp2; cases hp2
    refine seqH fun DD nD => ?_
    refine ⟨_, rfl, b, 0, rfl, B3, by decide, by decide, fun nv ls ss ts us ws qs t4 H4 s4 iP pc B4 h4a h4b => ?_⟩
    refine nD _ _ ?_
    clear nC nD
    have hp4 : H4 p = some (.lst (ms.map V.int)) := s4.old p _ npb (s3 _ _ hp2)
    refine seqH fun DE nE => ?_
    refine ⟨_, rfl, _, rfl, b, nv, t4, ls, ss, ts, us, ws, qs, rfl, B4, by trivial, by trivial, iP, pc, fun sv fs ps rs t5 H5 s5 iS tw1 tw2 tw3 B5 h5a h5b => ?_⟩
    refine nE _ _ ?_
    clear nE
    have iPJ : ∀ J, SameE (Eb b) H5 J → IsD ED J nv (planD ls ss ts us ws qs) := fun J sJ => iP.tupS (E := ED) (F := ED) ⟨fun _ _ n _ => absurd trivial n, s5.tp.trans sJ.tp⟩
    have wS := wg_sendL pc (n := ss.length) pc.s4 tw1 tw2 tw3
    have wSd : Wg 2 (sendD fs ps rs) 217 4 := .tuple (m := 216) (l := 3) wS (by decide) (by decide)
    obtain ⟨sa, sx, rfl, hsa, rS⟩ := tup_all iS
    have dSx : ∀ J, Same H5 J → Ds 2 (Eb b) J sx 216 3 := fun J s => ⟨_, rS.mono s.toE, wS⟩
    have b5 := bx_some B5
    have nar : ∀ a, Et b b a → Eb b a := fun a h => h.elim (fun e => e) (fun e => e)
    have al5 : Al (Et b b) H5 := fun a ha z => b5 (by rcases ha with e | e <;> rw [← e] <;> exact z)
    have hp5 : H5 p = some (.lst (ms.map V.int)) := s5.old p _ npb hp4
    have eI : ∀ {E : Addr → Prop} {H : Hp} {σ : St} {k : Nat} (j : Int), j.natAbs < 100 → Ev E 4 H (tC (.int j)) σ 1 k := fun j hj => .con fun H => Dt.int (n := 0) (Sz.mono (m := 100) (by show j.natAbs < 2 ^ 100; exact Nat.lt_trans hj (by decide)) (by decide))
    have e0 : ∀ {E : Addr → Prop} {H : Hp} {σ : St} {k : Nat}, Ev E 4 H (tTupA tNil) σ 1 (k + 1) := .tup .nil (by decide)
    have eL : ∀ {σ : St} {k : Nat}, Ev (Et b b) 4 H5 (tLstA tNil) σ 1 (k + 1) := .lst al5 .nil (by decide)
    refine seqH fun DF nF => ?_
    refine op_new (th_new (b := b) (n := 441) b5 ?ev1 (by decide) fun th H6 zs s6 f6 t6 l6 => ?_)
    case ev1 =>
      refine (EvA.cons (n := 217) (k := 8) ?_ (.cons (n := 217) ?_ (.cons (n := 1) (.con fun H => Dt.non) (.cons e0 (.cons (n := 4) ?_ (.cons (n := 1) (eI 0 (by decide)) .nil)))))).up (by decide) (Nat.le_refl _)
      · exact .var 5 rfl fun H s => (((Dt.tup (s _ _ hsa) (dSx H s)).narrow nar).more (by decide)).up (by decide) (by decide)
      · exact (Ev.listOf (n := 216) (k := 3) 5 al5 rfl hsa fun H s => ((dSx H s).narrow nar).more (by decide)).up (by decide) (by decide)
      · exact (Ev.tup (k := 1) (.cons eL (.cons eL (.cons eL .nil))) (by decide)).up (by decide) (by decide)
    have iS6 : IsD (Et b th) H6 (.ref sa) (sendD fs ps rs) := (iS.plus f6).sm s6
    refine ⟨_, rfl, _, rfl, _, rfl, .ref b, nv, .ref sa, ls, ss, ts, us, ws, qs, fs, ps, rs, Et b th, rfl, iPJ _ s6.toE, pc, t6.al, iS6, tw1, tw2, tw3, fun D ds H7 s7 fD hD aD lD => ⟨th, D, zs, ds, rfl, rfl, s7 _ _ t6.1, hD, by trivial, fun th1 H8 n8 => ?_⟩⟩
    refine nF _ _ ?_
    clear nF
    have s58 := (s6.trans s7).trans n8.sm
    have t8 : Th b th1 H8 (zs ++ ds) := ⟨n8.at', fun z => (B5.same (s6.trans s7)).ne n8.fr z.symm, bx_some (B5.same s58), fun v hv => by
      refine Dt.sm (Dt.rel (th := th) (?_ : Dt 4 (Et b th) H7 v 2960 8) n8.fr) n8.sm
      rcases List.mem_append.mp hv with hv | hv
      · exact (t6.2.2.2 v hv).sm s7
      · exact (aD v hv).up (by decide) (by decide)⟩
    have dS8 : Dt 2 (Et b th1) H8 (.ref sa) 217 4 := Dt.sm (Dt.rel (th := th) (Dt.sm ⟨_, iS6, wSd⟩ s7) n8.fr) n8.sm
    have l8 : (zs ++ ds).length ≤ 470 := by rw [List.length_append]; trivial
    have npt8 : p ≠ th1 := fun z => by
      have := (s6.trans s7) _ _ hp5
      rw [z, n8.fr] at this; cases this
    have hp8 := s58 _ _ hp5
    have B8 := B5.same s58
    have s58E : SameE (Eb b) H5 H8 := s58.toE
    clear s6 s7 f6 t6 n8 s58 iS6 fD hD aD lD l6 eL e0 eI al5 dSx nar
    refine seqH fun DU nU => ?_
    refine ⟨12, rfl, by decide, by decide, for_range (fun j σ H' => Ex5 fun v7 v8 th zs t' => σ = [some (.ref a), some (.ref p), some (.int (0 + i)), some (.ref b), some nv, some (.ref sa), some (.ref th), v7, v8, v9, v10, v11] ∧ Th b th H' zs ∧ zs.length ≤ 470 + 2 * j ∧ SameE (Eb b) H5 H' ∧ Dt 2 (Et b th) H' (.ref sa) 217 4 ∧ H' p = some (.lst (ms.map V.int)) ∧ p ≠ th ∧ Bx H' b t' ∧ 0 ≤ t' ∧ t' ≤ 2000 + 8 * j) ⟨_, _, th1, _, t5, rfl, t8, by trivial, s58E, dS8, hp8, npt8, B8, by trivial, by trivial⟩ ?_ ?_⟩
    · clear t8 dS8 hp8 npt8 B8 s58E
      rintro j σ K1 hj ⟨v7, v8, th, zs, t6, rfl, tJ, lJ, sJ, dJ, hpJ, nptJ, BJ, h6a, h6b⟩
      refine bodyH (t := tSeq _ _) fun DH nH => ?_
      refine seqH fun DI nI => ?_
      refine ⟨_, rfl, _, rfl, b, .ref sa, t6, Et b th, 2, 217, 4, rfl, BJ, h6a, by trivial, .inl rfl, tJ.al, dJ, by decide, by decide, by decide, by decide, fun y t7 K2 s7 dy B7 h7a h7b => ?_⟩
      refine nI _ _ ?_
      have al2 : Al (Et b th) K2 := tJ.al.sE s7 B7
      refine ⟨_, rfl, _, rfl, _, rfl, _, rfl, b, y, t7, Et b th, 3, 661, 6, rfl, B7, by trivial, by trivial, .inl rfl, al2, dy, by decide, by decide, by decide, by decide, fun y2 t9 K3 s9 dy2 B9 h9a h9b => ?_⟩
      have s79 := s7.trans s9
      have eth3 := s79.old th _ tJ.2.1 tJ.1
      refine ⟨(by show 2 ≤ 10000; decide), fun u K4 m4 => ⟨th, u, _, _, rfl, rfl, m4.sm _ _ eth3, m4.at', (by show zs.length + 2 ≤ 10000; trivial), fun th' K5 m5 => ?_⟩⟩
      have S35 := m4.sm.trans m5.sm
      have B5' := B9.same S35
      have hpJ5 := S35 _ _ (s79.old p _ npb hpJ)
      refine nH _ _ ⟨_, _, th', _, t9, rfl, ⟨m5.at', fun z => (B9.same m4.sm).ne m5.fr z.symm, bx_some B5', fun v hv => ?_⟩, by rw [List.length_append]; show zs.length + 2 ≤ _; trivial, (sJ.trans s79).trans S35.toE, Dt.sm (Dt.rel (th := th) (Dt.sm (dJ.sE (s79.weak (.inl rfl))) m4.sm) m5.fr) m5.sm, hpJ5, fun z => ?_, B5', by trivial, by trivial⟩
      · refine Dt.sm (Dt.rel (th := th) (Dt.sm (?_ : Dt 4 (Et b th) K3 v 2960 8) m4.sm) m5.fr) m5.sm
        rcases List.mem_append.mp hv with hv | hv
        · exact (tJ.2.2.2 v hv).sE (s79.weak (.inl rfl))
        · have hv' : v = y ∨ v = y2 := by simpa using hv
          rcases hv' with rfl | rfl
          · exact ((dy.sE (s9.weak (.inl rfl))).more (by decide)).up (by decide) (by decide)
          · exact dy2.up (by decide) (by decide)
      · have hz := m5.fr
        rw [← z, m4.sm _ _ (s79.old p _ npb hpJ)] at hz
        cases hz
    clear t8 dS8 hp8 npt8 B8 s58E
    rintro σ K1 ⟨v7, v8, th, zs, t6, rfl, tJ, lJ, sJ, dJ, hpJ, nptJ, BJ, h6a, h6b⟩
    refine nU _ _ ?_
    clear nU dJ BJ h6a h6b nptJ
    refine seqH fun DV nV => ?_
    refine ⟨_, rfl, th, rfl, ⟨_, SqL.of tJ.1⟩, for_list (xs := zs) (fun j σ H' => Ex3 fun v9 v10 v11 => σ = [some (.ref a), some (.ref p), some (.int (0 + i)), some (.ref b), some nv, some (.ref sa), some (.ref th), v7, v8, v9, v10, v11] ∧ Same K1 H') ⟨_, _, _, rfl, Same.refl _⟩ ?_ ?_ ?_⟩
    · rintro j σ H' _ ⟨v9, v10, v11, rfl, sm⟩
      exact SqL.of (sm _ _ tJ.1)
    · rintro j x σ H' hx ⟨v9, v10, v11, rfl, sm⟩
      obtain ⟨d, hd, wd⟩ := (tJ.2.2.2 x (List.mem_of_getElem? hx)).sm sm
      have wl : Wg 4 (.list [planD ls ss ts us ws qs, d]) 3284 9 := .list (m := 3283) (l := 8) (.cons (m := 323) (l := 2960) (((plan_wg pc).more (by decide)).up (by decide) (by decide)) (.cons (m := 2960) (l := 0) wd .nil (by decide)) (by decide)) (by decide) (by decide)
      obtain ⟨mm, hmm, wtl⟩ := wl.wt (by decide)
      have iPs : ∀ J, Same H' J → IsD ED J nv (planD ls ss ts us ws qs) := fun J s => iPJ J ((sJ.trans sm.toE).trans s.toE)
      have alH := tJ.al.sm sm
      have iL : ∀ J J' q, Same H' J → Nw J q (.lst [nv, x]) J' → IsD (Et b th) J' (.ref q) (.list [planD ls ss ts us ws qs, d]) := fun J J' q s n => .lst n.at' ((alH.sm s).ne n.fr) (.cons ((iPs J' (s.trans n.sm)).narrow fun _ _ => trivial) (.cons (hd.sm (s.trans n.sm)) .nil))
      refine bodyH (t := tSeq _ _) fun DH nH => ?_
      refine seqH fun DI nI => ?_
      refine ⟨_, rfl, _, rfl, (by show 2 ≤ 10000; decide), fun q1 J1 m1 => ⟨q1, _, Et b th, mm, 9, rfl, iL _ _ _ (Same.refl _) m1, wtl, by trivial, by decide, _, rfl, _, rfl, nv, x, ls, ss, ts, us, ws, qs, d, Et b th, 4, 2960, 8, rfl, iPs _ m1.sm, pc, hd.sm m1.sm, wd, by decide, by decide, by decide, fun J2 s2 => ⟨_, _, rfl, ?_⟩⟩⟩
      refine nI _ _ ?_
      have s02 := m1.sm.trans s2
      refine ⟨_, rfl, _, _, _, _, rfl, (IsD.bl (E := ED) _).ty, kit_bool (.bool _), _, rfl, iteF ?_⟩
      refine ⟨_, rfl, _, rfl, _, rfl, nv, x, ls, ss, ts, us, ws, qs, d, Et b th, 4, 2960, 8, rfl, iPs _ s02, pc, hd.sm s02, wd, by decide, by decide, by decide, fun J3 s3 => ⟨rfl, _, rfl, ?_⟩⟩
      have s03 := s02.trans s3
      rw [decide_eq_true rfl]
      refine iteF ⟨_, rfl, _, rfl, (by show 2 ≤ 10000; decide), fun q2 J4 m4 => ⟨q2, _, Et b th, mm, 9, rfl, iL _ _ _ s03 m4, wtl, by trivial, by decide, _, rfl, rfl, _, rfl, ?_⟩⟩
      rw [decide_eq_true rfl]
      exact iteF (nH _ _ ⟨_, _, _, rfl, sm.trans (s03.trans m4.sm)⟩)
    rintro σ H' ⟨v9, v10, v11, rfl, sm⟩
    refine nV _ _ ?_
    have sJ' := sJ.trans sm.toE
    refine ⟨_, rfl, _, rfl, nv, .ref sa, ls, ss, ts, us, ws, qs, sendD fs ps rs, Eb b, 2, 217, 4, rfl, iPJ _ sJ', pc, iS.mono sJ', wSd, by decide, by decide, by decide, fun H1' s1' => ⟨_, _, rfl, rfl, _, rfl, ?_⟩⟩
    have en : (!(sendB ss.length ts us ws (sendD fs ps rs) == true)) = false := by rw [send_true pc tw1 tw2 tw3]; rfl
    rw [en]
    exact iteF (nB _ _ ⟨_, _, _, _, _, _, _, _, _, _, rfl, s1' _ _ (sm _ _ hpJ)⟩)
end
end K46
open PySem PySem.W PyProof.Rows
set_option maxRecDepth 100000 in
set_option maxHeartbeats 0 in
theorem PySem.Challenge.cw_gainroads_k46_what_a_sending_is_holds : PySem.Challenge.rw_gainroads_k46_what_a_sending_is.Holds := by
  w_on; o_law; k_head; (case hw => w_witness2)
  k_fill
  refine L2.walk_ofK (l := PySem.Challenge.rw_gainroads_k46_what_a_sending_is) (n := 63) (k := 40) (x := "_law_script") (CX := L2.CX0) (sp := K46.spLaw) rfl (by decide) rfl ⟨rfl, by decide, by decide, rfl⟩ (fun w h Y => PySem.W.kIn_of Y) ?F ?S ?C
  case F =>
    intro w mg fa h KX G hmg
    have T : ∃ T : K46.Txt (L2.KOf KX) mg, ∃ f, T.f_law = f ∧ (∀ (s : Shared) (u : Value), BindsTo s T.d_law ⟨[u], []⟩ [("_law_script", u)]) := by
      dsimp only [L2.KOf]
      refine' (fun z => Exists.elim z fun T y => ⟨T, _, y.1, y.2⟩) (K46.txt_mk KX G ?a0 ?l0 ?c0 ?k0 ?a1 ?l1 ?c1 ?k1 ?a2 ?l2 ?c2 ?k2 ?a3 ?l3 ?c3 ?k3 ?a4 ?l4 ?c4 ?k4 ?a5 ?l5 ?c5 ?k5 ?a6 ?l6 ?c6 ?k6 ?a7 ?l7 ?c7 ?k7 ?a8 ?l8 ?c8 ?k8 ?a9 ?l9 ?c9 ?k9 ?a10 ?l10 ?c10 ?k10 ?a11 ?l11 ?c11 ?k11 ?a12 ?l12 ?c12 ?k12 ?a13 ?l13 ?c13 ?k13 ?a14 ?l14 ?c14 ?k14 ?a15 ?l15 ?c15 ?k15 ?a16 ?l16 ?c16 ?k16 ?a17 ?l17 ?c17 ?k17 ?a18 ?l18 ?c18 ?k18 ?a19 ?l19 ?c19 ?k19 ?a20 ?l20 ?c20 ?k20 ?a21 ?l21 ?c21 ?k21 ?a22 ?l22 ?c22 ?k22 ?a23 ?l23 ?c23 ?k23 ?a24 ?l24 ?c24 ?k24 ?a25 ?l25 ?c25 ?k25 ?a26 ?l26 ?c26 ?k26 ?a27 ?l27 ?c27 ?k27 ?a28 ?l28 ?c28 ?k28 ?a29 ?l29 ?c29 ?k29 ?a30 ?l30 ?c30 ?k30 ?a31 ?l31 ?c31 ?k31 ?a32 ?l32 ?c32 ?k32 ?a33 ?l33 ?c33 ?k33 ?a34 ?l34 ?c34 ?k34 ?a35 ?l35 ?c35 ?k35 ?a36 ?l36 ?c36 ?k36 ?a37 ?l37 ?c37 ?k37 ?z0 ?z1 ?z2 ?z3 ?z4 ?z5 ?z6 ?z7 ?z8 ?z9 ?z10 ?z11 ?z12 ?z13)
      (case a0 => k_is)
      (case l0 => k_is)
      (case c0 => k_is)
      (case k0 => k_is)
      (case a1 => k_is)
      (case l1 => k_is)
      (case c1 => k_is)
      (case k1 => k_is)
      (case a2 => k_is)
      (case l2 => k_is)
      (case c2 => k_is)
      (case k2 => k_is)
      (case a3 => k_is)
      (case l3 => k_is)
      (case c3 => k_is)
      (case k3 => k_is)
      (case a4 => k_is)
      (case l4 => k_is)
      (case c4 => k_is)
      (case k4 => k_is)
      (case a5 => k_is)
      (case l5 => k_is)
      (case c5 => k_is)
      (case k5 => k_is)
      (case a6 => k_is)
      (case l6 => k_is)
      (case c6 => k_is)
      (case k6 => k_is)
      (case a7 => k_is)
      (case l7 => k_is)
      (case c7 => k_is)
      (case k7 => k_is)
      (case a8 => k_is)
      (case l8 => k_is)
      (case c8 => k_is)
      (case k8 => k_is)
      (case a9 => k_is)
      (case l9 => k_is)
      (case c9 => k_is)
      (case k9 => k_is)
      (case a10 => k_is)
      (case l10 => k_is)
      (case c10 => k_is)
      (case k10 => k_is)
      (case a11 => k_is)
      (case l11 => k_is)
      (case c11 => k_is)
      (case k11 => k_is)
      (case a12 => k_is)
      (case l12 => k_is)
      (case c12 => k_is)
      (case k12 => k_is)
      (case a13 => k_is)
      (case l13 => k_is)
      (case c13 => k_is)
      (case k13 => k_is)
      (case a14 => k_is)
      (case l14 => k_is)
      (case c14 => k_is)
      (case k14 => k_is)
      (case a15 => k_is)
      (case l15 => k_is)
      (case c15 => k_is)
      (case k15 => k_is)
      (case a16 => k_is)
      (case l16 => k_is)
      (case c16 => k_is)
      (case k16 => k_is)
      (case a17 => k_is)
      (case l17 => k_is)
      (case c17 => k_is)
      (case k17 => k_is)
      (case a18 => k_is)
      (case l18 => k_is)
      (case c18 => k_is)
      (case k18 => k_is)
      (case a19 => k_is)
      (case l19 => k_is)
      (case c19 => k_is)
      (case k19 => k_is)
      (case a20 => k_is)
      (case l20 => k_is)
      (case c20 => k_is)
      (case k20 => k_is)
      (case a21 => k_is)
      (case l21 => k_is)
      (case c21 => k_is)
      (case k21 => k_is)
      (case a22 => k_is)
      (case l22 => k_is)
      (case c22 => k_is)
      (case k22 => k_is)
      (case a23 => k_is)
      (case l23 => k_is)
      (case c23 => k_is)
      (case k23 => k_is)
      (case a24 => k_is)
      (case l24 => k_is)
      (case c24 => k_is)
      (case k24 => k_is)
      (case a25 => k_is)
      (case l25 => k_is)
      (case c25 => k_is)
      (case k25 => k_is)
      (case a26 => k_is)
      (case l26 => k_is)
      (case c26 => k_is)
      (case k26 => k_is)
      (case a27 => k_is)
      (case l27 => k_is)
      (case c27 => k_is)
      (case k27 => k_is)
      (case a28 => k_is)
      (case l28 => k_is)
      (case c28 => k_is)
      (case k28 => k_is)
      (case a29 => k_is)
      (case l29 => k_is)
      (case c29 => k_is)
      (case k29 => k_is)
      (case a30 => k_is)
      (case l30 => k_is)
      (case c30 => k_is)
      (case k30 => k_is)
      (case a31 => k_is)
      (case l31 => k_is)
      (case c31 => k_is)
      (case k31 => k_is)
      (case a32 => k_is)
      (case l32 => k_is)
      (case c32 => k_is)
      (case k32 => k_is)
      (case a33 => k_is)
      (case l33 => k_is)
      (case c33 => k_is)
      (case k33 => k_is)
      (case a34 => k_is)
      (case l34 => k_is)
      (case c34 => k_is)
      (case k34 => k_is)
      (case a35 => k_is)
      (case l35 => k_is)
      (case c35 => k_is)
      (case k35 => k_is)
      (case a36 => k_is)
      (case l36 => k_is)
      (case c36 => k_is)
      (case k36 => k_is)
      (case a37 => k_is)
      (case l37 => k_is)
      (case c37 => k_is)
      (case k37 => k_is)
      (case z0 => k_is)
      (case z1 => k_is)
      (case z2 => k_is)
      (case z3 => k_is)
      (case z4 => k_is)
      (case z5 => k_is)
      (case z6 => k_is)
      (case z7 => k_is)
      (case z8 => k_is)
      (case z9 => k_is)
      (case z10 => k_is)
      (case z11 => k_is)
      (case z12 => k_is)
      (case z13 => k_is)
    obtain ⟨T, f, rfl, hb⟩ := T
    have e0 := hmg.symm.trans T.m_law
    cases e0
    exact ⟨T.d_law, hb, fun base kb nb => K46.law_ok T⟩
  case S => exact fun K H a ns hl hO hS => K46.law_start hl hO hS
  case C => exact fun _ _ _ _ z => z
