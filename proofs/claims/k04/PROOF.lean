import PyProof.Rows.All
import Wide.All
import OpenK.AllK
import Wide.FinOn
import Lean
import PyProof.EqAt
import PyProof.EqKinds
import PyProof.TupleCall
import PyProof.CompFree
import PyProof.CompMap
import KE.LcSums
import PyProof.ZipIter
import PyProof.Draws
import KE.KRevSl
import KE.KListMore
import PyProof.Rows.StrJoin2
import PyProof.Rows.StrFin3
import PyProof.StrOps2
import PyProof.NeData
import PyProof.P3Eq
import PyProof.StrLawsRepr
import PyProof.ReprLen
import PyProof.Rows.IntBool
import PyProof.SliceStr2
import PyProof.P3In
import PySem.Challenge.RW_gainroads_k04_what_a_net_is
set_option Elab.async false
set_option linter.all false
set_option maxRecDepth 100000
/-! THE HAND LAYER, for ints, bools, texts, own classes, LISTS and tuples (index, slices, in, append, pop ..), calls, loops. Paste it whole ahead of your own text; what your proof does not reach may be deleted. -/
namespace L2
open PySem PySem.Spec PyProof.Rows

/-- a key: an int or a str -/
abbrev Key := Sum Int Str
def keyIs : Key → Value → Bool
  | .inl k, v => Value.isInt k v
  | .inr x, v => Value.isStrOf x v
def keyH (w : World) : Key → Int
  | .inl k => hashInt k
  | .inr x => hashStr w x
theorem keyIs_shape : ∀ {k : Key} {v : Value}, keyIs k v = true → (∃ i t, k = Sum.inl i ∧ v = Value.int i t) ∨ (∃ x t, k = Sum.inr x ∧ v = Value.str x t)
  | .inl i, v, h => by
    obtain ⟨t, e⟩ := Value.isInt_shape (k := i) (v := v) h
    exact .inl ⟨i, t, rfl, e⟩
  | .inr x, v, h => by
    obtain ⟨t, e⟩ := Value.isStrOf_shape (x := x) (v := v) h
    exact .inr ⟨x, t, rfl, e⟩
theorem keyIs_int (i : Int) (t : Tok) : keyIs (.inl i) (.int i t) = true := by simp [keyIs, Value.isInt]
theorem keyIs_str (x : Str) (t : Tok) : keyIs (.inr x) (.str x t) = true := by simp [keyIs, Value.isStrOf]
theorem key_ll (a b : Int) : decide ((Sum.inl a : Key) = Sum.inl b) = (a == b) := by
  by_cases e : a = b
  · subst e; simp
  · have h : ¬ (Sum.inl a : Key) = Sum.inl b := fun q => e (Sum.inl.inj q)
    rw [decide_eq_false h]
    exact (beq_eq_false_iff_ne.mpr e).symm
theorem key_rr (a b : Str) : decide ((Sum.inr a : Key) = Sum.inr b) = decide (a = b) := by
  by_cases e : a = b
  · subst e; simp
  · have h : ¬ (Sum.inr a : Key) = Sum.inr b := fun q => e (Sum.inr.inj q)
    rw [decide_eq_false h, decide_eq_false e]
theorem key_lr (a : Int) (b : Str) : decide ((Sum.inl a : Key) = Sum.inr b) = false := decide_eq_false (fun q => nomatch q)
theorem key_rl (a : Str) (b : Int) : decide ((Sum.inr a : Key) = Sum.inl b) = false := decide_eq_false (fun q => nomatch q)

def mixKind (prog : Program) (w : World) : PySem.KeyKind prog w Key where
  is := keyIs
  hash := keyH w
  inj := fun v a b ha hb => by
    rcases keyIs_shape ha with ⟨i, t, rfl, rfl⟩ | ⟨x, t, rfl, rfl⟩
    · rcases keyIs_shape hb with ⟨j, u, rfl, e⟩ | ⟨y, u, rfl, e⟩
      · injection e with e1 _; rw [e1]
      · exact nomatch e
    · rcases keyIs_shape hb with ⟨j, u, rfl, e⟩ | ⟨y, u, rfl, e⟩
      · exact nomatch e
      · injection e with e1 _; rw [e1]
  byValue := fun k v h => by
    rcases keyIs_shape h with ⟨i, t, rfl, rfl⟩ | ⟨x, t, rfl, rfl⟩ <;> rfl
  pyHash := fun hv h => by
    rcases keyIs_shape hv with ⟨i, t, rfl, rfl⟩ | ⟨x, t, rfl, rfl⟩
    · exact wpAny_pyHash_int h
    · exact wpAny_pyHash_str h
  eqBool := fun hu hv h => by
    rcases keyIs_shape hu with ⟨i, t, rfl, rfl⟩ | ⟨x, t, rfl, rfl⟩
    · rcases keyIs_shape hv with ⟨j, u, rfl, rfl⟩ | ⟨y, u, rfl, rfl⟩
      · rw [key_ll] at h; exact wpAny_eqBool_int h
      · rw [key_lr] at h; exact SeqAt.EqAt.int_str i t y u _ _ _ _ h
    · rcases keyIs_shape hv with ⟨j, u, rfl, rfl⟩ | ⟨y, u, rfl, rfl⟩
      · rw [key_rl] at h; exact SeqAt.EqAt.str_int x t j u _ _ _ _ h
      · rw [key_rr] at h; exact wpAny_eqBool_str h
  «strs» := fun k x t v h => by
    rcases keyIs_shape h with ⟨i, u, rfl, e⟩ | ⟨y, u, rfl, e⟩
    · exact nomatch e
    · injection e with e1 _
      subst e1
      cases v <;> rfl

end L2

namespace L2
open PySem PySem.Spec PyProof.Rows

/-- a value, without the heap -/
inductive V where
  | non | bl (b : Bool) | int (i : Int) | str (x : Str) | byt (b : Array UInt8) | flt (b : UInt64) | ref (a : Addr) | ty (n : String)
  deriving DecidableEq

def RelV : V → Value → Prop
  | .non, u => u = Value.none
  | .bl b, u => u = Value.bool b
  | .int i, u => ∃ t, u = Value.int i t
  | .str x, u => ∃ t, u = Value.str x t
  | .byt b, u => ∃ t, u = Value.bytes b t
  | .flt b, u => ∃ t, u = Value.float b t
  | .ref a, u => u = Value.ref a
  | .ty n, u => u = Value.type n

abbrev Vals : List V → List Value → Prop := Paired RelV
theorem Vals.length {xs : List V} {us : List Value} (r : Vals xs us) : xs.length = us.length := Paired.length r
theorem Vals.get : ∀ {xs : List V} {us : List Value} {i : Nat} {x : V}, Vals xs us → xs[i]? = some x → ∃ u, us[i]? = some u ∧ RelV x u
  | _, _, _, _, .nil, e => by simp at e
  | _, _, 0, _, .cons r _, e => by simp at e; subst e; exact ⟨_, rfl, r⟩
  | _, _, i + 1, x, .cons _ t, e => by
    obtain ⟨u, h1, h2⟩ := Vals.get (i := i) (x := x) t (by simpa using e)
    exact ⟨u, by simpa using h1, h2⟩
theorem Vals.set {x : V} {u : Value} (r : RelV x u) : ∀ {xs : List V} {us : List Value} (i : Nat), Vals xs us → Vals (xs.set i x) (us.set i u)
  | _, _, _, .nil => .nil
  | _, _, 0, .cons _ t => .cons r t
  | _, _, i + 1, .cons q t => .cons q (Vals.set r i t)
theorem Vals.append : ∀ {xs ys : List V} {us ws : List Value}, Vals xs us → Vals ys ws → Vals (xs ++ ys) (us ++ ws)
  | _, _, _, _, .nil, s => s
  | _, _, _, _, .cons r t, s => .cons r (Vals.append t s)
theorem Vals.take : ∀ {xs : List V} {us : List Value} (n : Nat), Vals xs us → Vals (xs.take n) (us.take n)
  | _, _, 0, _ => .nil
  | _, _, _ + 1, .nil => .nil
  | _, _, n + 1, .cons r t => .cons r (Vals.take n t)
theorem Vals.drop : ∀ {xs : List V} {us : List Value} (n : Nat), Vals xs us → Vals (xs.drop n) (us.drop n)
  | _, _, 0, r => r
  | _, _, _ + 1, .nil => .nil
  | _, _, n + 1, .cons _ t => Vals.drop n t
def RelO : Option V → Option Value → Prop
  | some v, some u => RelV v u
  | none, none => True
  | _, _ => False
def KV {κ : Type} : List (κ × V) → List (κ × Value) → Prop := Paired fun (p : κ × V) (q : κ × Value) => p.1 = q.1 ∧ RelV p.2 q.2

/-- a key of a dict (00_mix): an int or a text -/
def kV : Key → V
  | .inl i => .int i
  | .inr x => .str x

/-- what stands at a tracked address -/
inductive HO where
  /-- a list -/
  | lst (xs : List V)
  /-- a tuple (never changes) -/
  | tup (xs : List V)
  /-- a dict whose keys are ints and texts; one whose keys are tuples of ints and texts (the empty one is both) -/
  | dK (kvs : List (Key × V)) | dT (kvs : List (List Key × V))
  /-- a set of ints: its members, its size -/
  | set (S : Int → Bool) (n : Nat)
  /-- an instance of the class at C, its dict at dx, its attributes -/
  | ins (C dx : Addr) (fs : List (Str × V))
  /-- the dict of the instance at x -/
  | own (x : Addr)
  /-- the dict of an exception -/
  | xd (fs : List (Str × V))
  /-- a bound method, f of x -/
  | met (f x : Addr)
  /-- a range object lo, lo + 1, .. below hi -/
  | rng (lo hi : Int)
  /-- a thing that is known to the object (the script; a dict while a loop walks it): read, never written while it is so -/
  | frz (o : Obj) (u : HO)
  /-- a code object's table -/
  | tbl (ps : Array Value)
  /-- any other thing, by what is true of its one object (a def of one's own: SetO a S n := HO.ext fun h => ..) -/
  | ext (φ : Heap → Prop)

abbrev Hp := Addr → Option HO
def upd (H : Hp) (a : Addr) (o : HO) : Hp := fun b => if b = a then some o else H b
theorem upd_same {H : Hp} {a : Addr} {o : HO} : upd H a o a = some o := by unfold upd; rw [if_pos rfl]
theorem upd_ne {H : Hp} {a b : Addr} {o : HO} (h : b ≠ a) : upd H a o b = H b := by unfold upd; rw [if_neg h]
/-- two objects of different content stand apart -/
theorem ne_of {H : Hp} {a b : Addr} {o u : HO} (h : H a = some o) (h' : H b = some u) (d : o ≠ u) : a ≠ b := by
  intro e; subst e; rw [h] at h'; exact d (Option.some.inj h')
theorem ne_of_none {H : Hp} {a b : Addr} {o : HO} (h : H a = some o) (h' : H b = none) : a ≠ b := by
  intro e; subst e; rw [h] at h'; cases h'

section
variable (P : Program) (w : World)
def ObjOk (H : Hp) (h : Heap) (a : Addr) : HO → Prop
  | .lst xs => xs.length ≤ sizeLine ∧ ∃ (its : List Value) (n : Nat), Vals xs its ∧ h.get? a = some { cls := .type "list", data := .seq its.toArray n }
  | .tup xs => xs.length ≤ sizeLine ∧ ∃ its : List Value, Vals xs its ∧ IsTup h a its.toArray ∧ ∃ o, h.get? a = some o ∧ o.dict = none
  | .dK kvs => kvs.length ≤ sizeLine ∧ (a == sysModules) = false ∧ ∃ vs, KV kvs vs ∧ h.DictOf (mixKind P w) a vs
  | .dT kvs => kvs.length ≤ sizeLine ∧ (a == sysModules) = false ∧ ∃ xs : List (List Key × Addr × Value),
      Paired (fun (p : List Key × V) (q : List Key × Addr × Value) => p.1 = q.1 ∧ H q.2.1 = some (.tup (p.1.map kV)) ∧ RelV p.2 q.2.2) kvs xs ∧
      ∃ o es ep, h.get? a = some o ∧ o.ExactDict ∧ o.data = .dict es ep ∧ es.toList = xs.map (entryOfKey (tupleKind (mixKind P w))) ∧ (xs.map (·.1)).Nodup
  | .set S n => h.SetOf (intKind P w) a S n
  | .ins C dx fs => H dx = some (.own a) ∧ fs.length ≤ 1000 ∧ dx ≠ a ∧ h.get? a = some (PySem.W.instObj C dx) ∧
      ∃ mA, h.Ns1 dx mA ∧ (∀ f, RelO (fs.lookup f) (mA f)) ∧ PySem.Within mA (fs.map (·.1))
  | .own _ => ∃ o, h.get? a = some o
  | .xd fs => ∃ mA, h.Ns1 a mA ∧ ∀ f, RelO (fs.lookup f) (mA f)
  | .rng lo hi => ∃ t u v, h.get? a = some { cls := .type "range", data := .fields #[.int lo t, .int hi u, .int 1 v] }
  | .frz o u => h.get? a = some o ∧ ObjOk H h a u
  | .tbl ps => h.get? a = some { cls := .none, data := .fields ps }
  | .met f x => h.get? a = some (PySem.W.methodObj (.ref f) (.ref x))
  | .ext φ => φ h ∧ (∃ o, h.get? a = some o) ∧ ∀ h1 h2 : Heap, φ h1 → (∀ o, h1.get? a = some o → h2.get? a = some o) → φ h2
/-- the abstract heap is held -/
def HOk (H : Hp) (h : Heap) : Prop := ∀ a o, H a = some o → ObjOk P w H h a o
end

section
variable {P : Program} {w : World} {H H' : Hp} {h h' : Heap} {a : Addr} {o : HO}
theorem ObjOk.lt (x : ObjOk P w H h a o) : a < h.objs.size := by
  cases o with
  | lst xs => obtain ⟨_, _, _, _, e⟩ := x; exact Heap.lt_size e
  | tup xs => obtain ⟨_, _, _, p, _⟩ := x; exact p.lt
  | dK kvs => obtain ⟨_, _, _, _, o, _, _, e, _⟩ := x; exact Heap.lt_size e
  | dT kvs => obtain ⟨_, _, _, _, o, _, _, e, _⟩ := x; exact Heap.lt_size e
  | set S n => obtain ⟨o, _, _, _, e, _⟩ := x; exact Heap.lt_size e
  | ins C dx fs => obtain ⟨_, _, _, e, _⟩ := x; exact Heap.lt_size e
  | own y => obtain ⟨_, e⟩ := x; exact Heap.lt_size e
  | xd fs => obtain ⟨_, ⟨_, _, _, e, _⟩, _⟩ := x; exact Heap.lt_size e
  | rng lo hi => obtain ⟨_, _, _, e⟩ := x; exact Heap.lt_size e
  | frz ob u => obtain ⟨e, _⟩ := x; exact Heap.lt_size e
  | tbl ps => exact Heap.lt_size (show h.get? a = some _ from x)
  | met f y => exact Heap.lt_size (show h.get? a = some _ from x)
  | ext φ => obtain ⟨_, ⟨_, e⟩, _⟩ := x; exact Heap.lt_size e
theorem Paired.mapP {α β : Type} {F G : α → β → Prop} : ∀ {l₁ : List α} {l₂ : List β}, Paired F l₁ l₂ → (∀ a b, F a b → G a b) → Paired G l₁ l₂
  | _, _, .nil, _ => .nil
  | _, _, .cons r t, f => .cons (f _ _ r) (Paired.mapP t f)
/-- what an object's description leans on: its own object, its own dict, the tuples -/
theorem ObjOk.stay (x : ObjOk P w H h a o) (k : ∀ b u, (b = a ∨ H b = some (.own a)) → h.get? b = some u → h'.get? b = some u)
    (ho : ∀ b, H b = some (.own a) → H' b = some (.own a)) (ht : ∀ b xs, H b = some (.tup xs) → H' b = some (.tup xs)) : ObjOk P w H' h' a o := by
  induction o with
  | lst xs => obtain ⟨z, its, n, r, e⟩ := x; exact ⟨z, its, n, r, k _ _ (.inl rfl) e⟩
  | tup xs => obtain ⟨z, its, r, ⟨ob, e, c⟩, od, e', c'⟩ := x; exact ⟨z, its, r, ⟨ob, k _ _ (.inl rfl) e, c⟩, od, k _ _ (.inl rfl) e', c'⟩
  | dK kvs => obtain ⟨z, y, vs, r, ob, es, ep, e, c⟩ := x; exact ⟨z, y, vs, r, ob, es, ep, k _ _ (.inl rfl) e, c⟩
  | dT kvs =>
    obtain ⟨z, y, xs, r, ob, es, ep, e, c⟩ := x
    exact ⟨z, y, xs, Paired.mapP r fun p q z => ⟨z.1, ht _ _ z.2.1, z.2.2⟩, ob, es, ep, k _ _ (.inl rfl) e, c⟩
  | set S n => obtain ⟨ob, es, ep, t, e, c⟩ := x; exact ⟨ob, es, ep, t, k _ _ (.inl rfl) e, c⟩
  | ins C dx fs =>
    obtain ⟨d, z, ne, e, mA, ⟨od, es, ep, e2, c⟩, r⟩ := x
    exact ⟨ho _ d, z, ne, k _ _ (.inl rfl) e, mA, ⟨od, es, ep, k _ _ (.inr d) e2, c⟩, r⟩
  | own y => obtain ⟨ob, e⟩ := x; exact ⟨ob, k _ _ (.inl rfl) e⟩
  | xd fs => obtain ⟨mA, ⟨od, es, ep, e, c⟩, r⟩ := x; exact ⟨mA, ⟨od, es, ep, k _ _ (.inl rfl) e, c⟩, r⟩
  | rng lo hi => obtain ⟨t, u, v, e⟩ := x; exact ⟨t, u, v, k _ _ (.inl rfl) e⟩
  | frz ob u ih => obtain ⟨e, q⟩ := x; exact ⟨k _ _ (.inl rfl) e, ih q⟩
  | tbl ps =>
    have e : h.get? a = some { cls := .none, data := .fields ps } := x
    show h'.get? a = some { cls := .none, data := .fields ps }
    exact k a _ (.inl rfl) e
  | met f y =>
    have e : h.get? a = some (PySem.W.methodObj (.ref f) (.ref y)) := x
    show h'.get? a = some (PySem.W.methodObj (.ref f) (.ref y))
    exact k a _ (.inl rfl) e
  | ext φ => obtain ⟨p, ⟨o, e⟩, st⟩ := x; exact ⟨st _ _ p fun o q => k _ _ (.inl rfl) q, ⟨o, k _ _ (.inl rfl) e⟩, st⟩
theorem HOk.lt (x : HOk P w H h) (e : H a = some o) : a < h.objs.size := (x a o e).lt
theorem HOk.fresh (x : HOk P w H h) (e : h.objs.size ≤ a) : H a = none := by
  cases q : H a with
  | none => rfl
  | some u => exact absurd (Nat.lt_of_lt_of_le (x.lt q) e) (Nat.lt_irrefl _)
/-- every object of the heap is kept -/
theorem HOk.kept (x : HOk P w H h) (k : ∀ b u, h.get? b = some u → h'.get? b = some u) : HOk P w H h' := fun a o e =>
  (x a o e).stay (fun b u _ q => k b u q) (fun _ q => q) fun _ _ q => q
/-- a new object is laid and tracked -/
theorem HOk.laid (x : HOk P w H h) (k : ∀ b u, h.get? b = some u → h'.get? b = some u) (hp : h.objs.size ≤ a) (new : ObjOk P w (upd H a o) h' a o) : HOk P w (upd H a o) h' := fun b u e => by
  have hn := x.fresh hp
  by_cases hb : b = a
  · subst hb; rw [upd_same] at e; cases e; exact new
  · rw [upd_ne hb] at e
    exact (x b u e).stay (fun c v _ q => k c v q) (fun c q => by rw [upd_ne (ne_of_none q hn)]; exact q) fun c xs q => by rw [upd_ne (ne_of_none q hn)]; exact q
end

/-- what may be read as u: it is u, or a known u -/
def Rd (H : Hp) (a : Addr) (u : HO) : Prop := H a = some u ∨ ∃ o, H a = some (.frz o u)
theorem Rd.ok {P : Program} {w : World} {H : Hp} {h : Heap} {a : Addr} {u : HO} (r : Rd H a u) (x : HOk P w H h) : ObjOk P w H h a u := by
  rcases r with r | ⟨o, r⟩
  · exact x a u r
  · obtain ⟨_, q⟩ := x a _ r
    exact q
/-- what may be written -/
def Mut : Option HO → Prop
  | some (.lst _) => True
  | some (.dK _) => True
  | some (.dT _) => True
  | some (.set _ _) => True
  | some (.ins _ _ _) => True
  | some (.ext _) => True
  | _ => False
section
variable {P : Program} {w : World} {H : Hp} {h h' : Heap} {x e : Addr} {o' : HO}
/-- the object at e is changed: x itself, or the dict of the instance x -/
theorem HOk.write (ok : HOk P w H h) (mu : Mut (H x)) (he : e = x ∨ H e = some (.own x)) (k : ∀ b u, b ≠ e → h.get? b = some u → h'.get? b = some u) (heo : ∃ u, h'.get? e = some u)
    (new : ObjOk P w (upd H x o') h' x o') : HOk P w (upd H x o') h' := fun b u q => by
  have nown : ∀ c y, H c = some (.own y) → c ≠ x := fun c y r z => by subst z; rw [r] at mu; exact mu
  have ntup : ∀ c xs, H c = some (.tup xs) → c ≠ x := fun c xs r z => by subst z; rw [r] at mu; exact mu
  by_cases hb : b = x
  · subst hb; rw [upd_same] at q; cases q; exact new
  · rw [upd_ne hb] at q
    by_cases hbe : b = e
    · have q' : H b = some (.own x) := by
        rcases he with z | z
        · exact absurd (hbe.trans z) hb
        · rw [hbe]; exact z
      rw [q] at q'; cases q'
      obtain ⟨v, hv⟩ := heo
      exact ⟨v, by rw [hbe]; exact hv⟩
    · refine (ok b u q).stay (fun c v hc r => k c v ?_ r) (fun c r => by rw [upd_ne (nown c b r)]; exact r) fun c xs r => by rw [upd_ne (ntup c xs r)]; exact r
      rcases hc with rfl | hc
      · exact hbe
      · rintro rfl
        rcases he with z | z
        · exact nown c b hc z
        · rw [hc] at z; cases z; exact hb rfl
end

/-! ### kept unless tracked; of the frames at fs (the callers') the slots may change (an exception that passes writes there); of the records at ex (iterators) nothing is said -/
structure Un (fs ex : List Addr) (H H' : Hp) (h h' : Heap) : Prop where
  keep : ∀ b o, h.get? b = some o → H b = none → b ∉ fs → b ∉ ex → h'.get? b = some o
  slot : ∀ b o, h.get? b = some o → H b = none → b ∈ fs → b ∉ ex → ∃ sl, h'.get? b = some { o with slots := sl }
  free : ∀ b o, h.get? b = some o → H b = none → b ∉ ex → H' b = none
  there : ∀ b o, h.get? b = some o → b ∉ ex → ∃ o', h'.get? b = some o'
  tups : ∀ b xs, H b = some (.tup xs) → H' b = some (.tup xs)
  frzs : ∀ b o u, H b = some (.frz o u) → H' b = some (.frz o u)
  tbls : ∀ b ps, H b = some (.tbl ps) → ∃ more, H' b = some (.tbl (ps ++ more))
section
variable {fs fs' ex ex' : List Addr} {H H1 H2 : Hp} {h h1 h2 h' : Heap} {a x e : Addr} {o : HO}
theorem Un.any (u : Un fs ex H H1 h h1) {b : Addr} {ob : Obj} (q : h.get? b = some ob) (n : H b = none) (hx : b ∉ ex) : ∃ sl, h1.get? b = some { ob with slots := sl } := by
  by_cases hb : b ∈ fs
  · exact u.slot b ob q n hb hx
  · exact ⟨ob.slots, u.keep b ob q n hb hx⟩
theorem Un.kept (k : ∀ b u, h.get? b = some u → h'.get? b = some u) : Un fs ex H H h h' :=
  ⟨fun b ob q _ _ _ => k b ob q, fun b ob q _ _ _ => ⟨ob.slots, k b ob q⟩, fun _ _ _ n _ => n, fun b ob q _ => ⟨ob, k b ob q⟩, fun _ _ q => q, fun _ _ _ q => q, fun _ ps q => ⟨#[], by rw [q]; simp⟩⟩
theorem Un.refl : Un fs ex H H h h := Un.kept fun _ _ q => q
theorem Un.laid (k : ∀ b u, h.get? b = some u → h'.get? b = some u) (hp : h.objs.size ≤ a) (hn : H a = none) : Un fs ex H (upd H a o) h h' where
  keep := fun b u q _ _ _ => k b u q
  slot := fun b u q _ _ _ => ⟨u.slots, k b u q⟩
  free := fun b u q n _ => by rw [upd_ne (Nat.ne_of_lt (Nat.lt_of_lt_of_le (Heap.lt_size q) hp))]; exact n
  there := fun b u q _ => ⟨u, k b u q⟩
  tups := fun b xs q => by rw [upd_ne (ne_of_none q hn)]; exact q
  frzs := fun b u xs q => by rw [upd_ne (ne_of_none q hn)]; exact q
  tbls := fun b ps q => ⟨#[], by rw [upd_ne (ne_of_none q hn), q]; simp⟩
theorem Un.write (mu : Mut (H x)) (he : e = x ∨ H e = some (.own x)) (k : ∀ b u, b ≠ e → h.get? b = some u → h'.get? b = some u) (heo : ∃ u, h'.get? e = some u) : Un fs ex H (upd H x o) h h' := by
  have hx : ∀ b, H b = none → b ≠ x := fun b n z => by subst z; rw [n] at mu; exact mu
  have hb : ∀ b, H b = none → b ≠ e := fun b n z => by
    subst z
    rcases he with r | r
    · exact hx b n r
    · rw [n] at r; cases r
  have hm : ∀ b u, H b = some u → ¬ Mut (some u) → b ≠ x := fun b u q nm z => by subst z; rw [q] at mu; exact nm mu
  refine ⟨fun b u q n _ _ => k b u (hb b n) q, fun b u q n _ _ => ⟨u.slots, k b u (hb b n) q⟩, fun b u q n _ => by rw [upd_ne (hx b n)]; exact n, fun b u q _ => ?_,
    fun b xs q => by rw [upd_ne (hm b _ q fun z => z)]; exact q, fun b u xs q => by rw [upd_ne (hm b _ q fun z => z)]; exact q, fun b ps q => ⟨#[], by rw [upd_ne (hm b _ q fun z => z), q]; simp⟩⟩
  by_cases hbe : b = e
  · subst hbe; exact heo
  · exact ⟨u, k b u hbe q⟩
end

/-! ### the heap without what is tracked -/
def trk (h : Heap) (H : Hp) : List Addr := (List.range h.objs.size).filter fun a => (H a).isSome
def hidT (h : Heap) (H : Hp) : Heap := PySem.W.hideAll h (trk h H)
theorem hidT_size (h : Heap) (H : Hp) : (hidT h H).objs.size = h.objs.size := PySem.W.hideAll_size _ _
theorem hidT_get {h : Heap} {H : Hp} {b : Addr} {o : Obj} (e : h.get? b = some o) (n : H b = none) : (hidT h H).get? b = some o :=
  PySem.W.hideAll_get _ e fun hm => by
    have q : (H b).isSome = true := (List.mem_filter.mp hm).2
    rw [n] at q; simp at q
theorem of_hidT {h : Heap} {H : Hp} {b : Addr} {o : Obj} (e : (hidT h H).get? b = some o) : h.get? b = some o ∧ H b = none := by
  have e' : h.get? b = some o := PySem.W.of_hideAll (trk h H) e
  refine ⟨e', ?_⟩
  cases q : H b with
  | none => rfl
  | some x =>
    have hm : b ∈ trk h H := List.mem_filter.mpr ⟨List.mem_range.mpr (Heap.lt_size e'), by simp [q]⟩
    have z : (hidT h H).get? b = none := PySem.W.hideAll_none (trk h H) hm
    rw [z] at e; cases e

/-! ### OpenK's ledger, filled with every new object but one -/
end L2

namespace L2
open PySem PySem.Spec PyProof.Rows

/-- the module's facts, over the base: the heap at the law's entry without what is tracked there -/
structure Mod (K : PySem.W.Frag) (mg : Str → Option Value) (base : Heap) : Prop where
  kin : K.In base
  glob : base.Ns mainGlobals mg
  blt : ∃ mb, base.Ns builtinsNs mb ∧ ∀ x : Str, x ≠ "__name__" → mb x = bootBuiltins x
  nolimit : base.NoLimit

/-- the context: a def's body (or a comprehension's block) running. base: fixed through the whole law; s₀, H₀: the entry; outer: the frames whose slots others may change (a def's callers); stack: all frames that run;
   ex: iterators that were made ahead of the entry and are walked here (a comprehension's); fn: the names whose cells were made at the entry (a def: all; a comprehension's block: its own); calm: not within an except suite; pn: pins that every state bears; xe: what is wanted of an exception that leaves the code -/
structure Cx where
  prog : Program
  w : World
  K : PySem.W.Frag
  mg : Str → Option Value
  base : Heap
  A : Around
  N : List Str
  s₀ : Shared
  H₀ : Hp
  env : Env
  outer : List Env
  stack : List Env
  ex : List Addr
  fn : Str → Bool
  calm : Bool
  pn : List (Addr × Obj)
  xe : Value → Shared → Prop
/-- the callers' frames -/
def frs (l : List Env) : List Addr := l.filterMap (·.frame)
abbrev Cx.fs (X : Cx) : List Addr := frs X.outer

def Vis (sc : Scope) (x : Str) : Prop := sc.names.lookup x = some .local ∨ sc.names.lookup x = some .cell ∨ sc.names.lookup x = some .free
def Loc (sc : Scope) (x : Str) : Prop := sc.names.lookup x = some .local ∨ sc.names.lookup x = some .cell
def Look (env : Env) (h : Heap) (m : Str → Option Value) (x : Str) (u : Value) : Prop :=
  (env.kindOf x = some .local ∧ m x = some u) ∨ ((env.kindOf x = some .cell ∨ env.kindOf x = some .free) ∧ ∃ c, env.cells.lookup x = some c ∧ h.IsCell c (some u))

structure Cx.Ok (X : Cx) : Prop where
  mod : Mod X.K X.mg X.base
  kind : X.env.scope.kind = .function
  glob : X.env.globals = mainGlobals
  blt : X.env.builtins = builtinsNs
  above : X.s₀.heap.objs.size ≤ X.env.locals
  inj : ∀ x y c, X.env.cells.lookup x = some c → X.env.cells.lookup y = some c → x = y
  has : ∀ x, (X.env.kindOf x = some .cell ∨ X.env.kindOf x = some .free) → ∃ c, X.env.cells.lookup x = some c
  cab : ∀ x c, X.fn x = true → X.env.cells.lookup x = some c → X.s₀.heap.objs.size ≤ c
  hd : X.calm = true → X.A.handled = none
  frames : X.A.frames = some X.stack
  stk : X.stack = X.outer ∨ (X.stack = X.env :: X.outer ∧ X.env.frame = some X.env.locals)
  exf : ∀ b ∈ X.ex, b ≠ X.env.locals ∧ ∀ x c, X.env.cells.lookup x = some c → c ≠ b
  bs : ∀ b o, X.base.get? b = some o → X.s₀.heap.get? b = some o ∧ X.H₀ b = none
  bsz : X.base.objs.size ≤ X.s₀.heap.objs.size
  noex : ∀ b o, X.base.get? b = some o → b ∉ X.ex
  exfs : ∀ b ∈ X.ex, b ∉ X.fs
  funs : X.s₀.heap.FunFrames X.base X.outer
  frf : ∀ b ∈ X.fs, X.H₀ b = none

structure Inv (X : Cx) (pins : List (Addr × Obj)) (σ : List (Option V)) (H : Hp) (s : Shared) : Prop where
  ok : X.Ok
  os : s.os = X.s₀.os
  bare : AllBare s.gens
  base : Un X.fs X.ex X.H₀ H X.s₀.heap s.heap
  loc : ∃ m, s.heap.Ns X.env.locals m ∧ ∀ (i : Nat) (x : Str) (v : V), X.N[i]? = some x → σ[i]? = some (some v) → Vis X.env.scope x → ∃ u, RelV v u ∧ Look X.env s.heap m x u
  cell : ∀ x c, X.env.cells.lookup x = some c → ∃ v, s.heap.IsCell c v
  free : H X.env.locals = none
  freeC : ∀ x c, X.env.cells.lookup x = some c → H c = none
  pin : ∀ p ∈ X.pn ++ pins, s.heap.get? p.1 = some p.2 ∧ H p.1 = none ∧ p.1 ≠ X.env.locals ∧ p.1 ∉ X.fs ∧ ∀ v, p.2.data ≠ .cell v
  hok : HOk X.prog X.w H s.heap
  len : σ.length = X.N.length

section
variable {X : Cx} {pins : List (Addr × Obj)} {σ : List (Option V)} {H H' : Hp} {s : Shared} {h' : Heap}

theorem Cx.Ok.nofr (ok : X.Ok) {b : Addr} {o : Obj} (e : X.base.get? b = some o) : b ∉ X.fs := fun hb => by
  have := (ok.funs.mem hb).1
  rw [e] at this; cases this
theorem Inv.bs (I : Inv X pins σ H s) : ∀ b o, X.base.get? b = some o → s.heap.get? b = some o ∧ H b = none := fun b o e =>
  ⟨I.base.keep b o (I.ok.bs b o e).1 (I.ok.bs b o e).2 (I.ok.nofr e) (I.ok.noex b o e), I.base.free b o (I.ok.bs b o e).1 (I.ok.bs b o e).2 (I.ok.noex b o e)⟩
theorem Inv.bk (I : Inv X pins σ H s) : ∀ b o, X.base.get? b = some o → s.heap.get? b = some o := fun b o e => (I.bs b o e).1
theorem Inv.mod (I : Inv X pins σ H s) : Mod X.K X.mg X.base := I.ok.mod
theorem Inv.kIn (I : Inv X pins σ H s) : X.K.In s.heap := I.ok.mod.kin.keeps I.bk
theorem Inv.lt (I : Inv X pins σ H s) : X.env.locals < s.heap.objs.size := let ⟨_, hn, _⟩ := I.loc; hn.lt
theorem Inv.sz (I : Inv X pins σ H s) : X.s₀.heap.objs.size ≤ s.heap.objs.size := Nat.le_trans I.ok.above (Nat.le_of_lt I.lt)
theorem Inv.nofs (I : Inv X pins σ H s) {a : Addr} (h : s.heap.objs.size ≤ a) : a ∉ X.fs := fun hb => by
  obtain ⟨_, o, ho, _⟩ := I.ok.funs.mem hb
  exact absurd (Nat.lt_of_lt_of_le (Heap.lt_size ho) (Nat.le_trans I.sz h)) (Nat.lt_irrefl _)
theorem Inv.cne (I : Inv X pins σ H s) : ∀ x c, X.env.cells.lookup x = some c → c ≠ X.env.locals := fun x c e z => by
  obtain ⟨v, o, ho, hd⟩ := I.cell x c e
  obtain ⟨m, ⟨o', es, ep, ho', hd', _⟩, _⟩ := I.loc
  rw [z, ho'] at ho; cases ho; rw [hd'] at hd; cases hd
theorem Inv.funs (I : Inv X pins σ H s) : s.heap.FunFrames X.base X.outer := by
  have all : ∀ (l : List Env), (∀ b ∈ frs l, b ∈ X.fs) → X.s₀.heap.FunFrames X.base l → s.heap.FunFrames X.base l := by
    intro l
    induction l with
    | nil => intro _ _; trivial
    | cons env r ih =>
      intro hs hl
      obtain ⟨hk, ⟨L, o, hf, hn, ho, hd⟩, hr⟩ := hl
      have hL : L ∈ X.fs := hs L (by unfold frs; rw [List.filterMap_cons, hf]; exact List.mem_cons_self)
      obtain ⟨sl, e⟩ := I.base.slot L o ho (I.ok.frf L hL) hL fun z => I.ok.exfs L z hL
      exact ⟨hk, ⟨L, _, hf, hn, e, hd⟩, ih (fun b hb => hs b (by unfold frs; rw [List.filterMap_cons, hf]; exact List.mem_cons_of_mem _ hb)) hr⟩
  exact all X.outer (fun _ hb => hb) I.ok.funs

/-- the frames that run, for a call -/
theorem Inv.stack (I : Inv X pins σ H s) : s.heap.FunFrames X.base X.stack := by
  rcases I.ok.stk with e | ⟨e, hf⟩
  · rw [e]; exact I.funs
  · rw [e]
    obtain ⟨m, hn, _⟩ := I.loc
    refine .cons (by rw [I.ok.kind]; decide) hf hn ?_ I.funs
    exact Heap.get?_none_of_le (Nat.le_trans I.ok.bsz I.ok.above)
theorem Inv.stkSub (I : Inv X pins σ H s) : ∀ b ∈ frs X.stack, b ∈ X.env.locals :: X.fs := fun b hb => by
  rcases I.ok.stk with e | ⟨e, hf⟩
  · rw [e] at hb; exact List.mem_cons_of_mem _ hb
  · rw [e] at hb
    unfold frs at hb
    rw [List.filterMap_cons, hf] at hb
    exact hb
theorem Inv.stkFree (I : Inv X pins σ H s) : ∀ b ∈ frs X.stack, H b = none := fun b hb => by
  rcases List.mem_cons.mp (I.stkSub b hb) with e | hb
  · rw [e]; exact I.free
  · obtain ⟨_, o, ho, _⟩ := I.ok.funs.mem hb
    exact I.base.free b o ho (I.ok.frf b hb) fun z => I.ok.exfs b z hb

/-- THE STEP: the untracked objects but the frame and the records at ch are kept (the callers' frames up to slots), the frame's map is kept, the new abstract heap is held -/
theorem Inv.step {g' : Array GenState} {t' : Nat} {d' : Drawn} {ch : List Addr} (I : Inv X pins σ H s)
    (hch : ∀ b ∈ ch, (b ∈ X.ex ∨ X.s₀.heap.objs.size ≤ b) ∧ b ≠ X.env.locals ∧ (∀ x c, X.env.cells.lookup x = some c → c ≠ b) ∧ ∀ p ∈ X.pn ++ pins, p.1 ≠ b)
    (keep : ∀ b o, b ≠ X.env.locals → b ∉ X.fs → b ∉ ch → s.heap.get? b = some o → H b = none → h'.get? b = some o)
    (slot : ∀ b o, b ≠ X.env.locals → b ∈ X.fs → b ∉ ch → s.heap.get? b = some o → H b = none → ∃ sl, h'.get? b = some { o with slots := sl }) (free : ∀ b o, b ∉ ch → s.heap.get? b = some o → H b = none → H' b = none)
    (there : ∀ b o, b ∉ ch → s.heap.get? b = some o → ∃ o', h'.get? b = some o')
    (tups : ∀ b xs, H b = some (.tup xs) → H' b = some (.tup xs)) (frzs : ∀ b o u, H b = some (.frz o u) → H' b = some (.frz o u)) (tbls : ∀ b ps, H b = some (.tbl ps) → ∃ more, H' b = some (.tbl (ps ++ more)))
    (ns : ∀ m, s.heap.Ns X.env.locals m → h'.Ns X.env.locals m) (hok : HOk X.prog X.w H' h') (hg : AllBare g') :
    Inv X pins σ H' { s with heap := h', gens := g', drawn := d', toks := t' } := by
  have neL : ∀ b o, X.s₀.heap.get? b = some o → b ≠ X.env.locals := fun b o e => Nat.ne_of_lt (Nat.lt_of_lt_of_le (Heap.lt_size e) I.ok.above)
  have neC : ∀ b o, X.s₀.heap.get? b = some o → b ∉ X.ex → b ∉ ch := fun b o e hx hb => by
    rcases (hch b hb).1 with z | z
    · exact hx z
    · exact absurd (Nat.lt_of_lt_of_le (Heap.lt_size e) z) (Nat.lt_irrefl _)
  have cellK : ∀ x c, X.env.cells.lookup x = some c → ∀ v, s.heap.IsCell c v → h'.IsCell c v := fun x c e v ⟨o, ho, hd⟩ => by
    have nch : c ∉ ch := fun z => (hch c z).2.2.1 x c e rfl
    by_cases hc : c ∈ X.fs
    · obtain ⟨sl, q⟩ := slot c o (I.cne x c e) hc nch ho (I.freeC x c e)
      exact ⟨_, q, hd⟩
    · exact ⟨o, keep c o (I.cne x c e) hc nch ho (I.freeC x c e), hd⟩
  refine ⟨I.ok, I.os, hg, ⟨fun b o e n hb hx => ?_, fun b o e n hb hx => ?_, fun b o e n hx => ?_, fun b o e hx => ?_, fun b xs e => tups b xs (I.base.tups b xs e), fun b o xs e => frzs b o xs (I.base.frzs b o xs e), fun b ps e => ?_⟩, ?_, fun x c e => ?_, ?_, fun x c e => ?_, fun p hp => ?_, hok, I.len⟩
  · exact keep b o (neL b o e) hb (neC b o e hx) (I.base.keep b o e n hb hx) (I.base.free b o e n hx)
  · obtain ⟨sl, e1⟩ := I.base.slot b o e n hb hx
    obtain ⟨sl', e2⟩ := slot b _ (neL b o e) hb (neC b o e hx) e1 (I.base.free b o e n hx)
    exact ⟨sl', e2⟩
  · obtain ⟨o', e1⟩ := I.base.there b o e hx
    exact free b o' (neC b o e hx) e1 (I.base.free b o e n hx)
  · obtain ⟨o', e1⟩ := I.base.there b o e hx
    exact there b o' (neC b o e hx) e1
  · obtain ⟨m1, e1⟩ := I.base.tbls b ps e
    obtain ⟨m2, e2⟩ := tbls b _ e1
    exact ⟨m1 ++ m2, by rw [e2, Array.append_assoc]⟩
  · obtain ⟨m, hn, hl⟩ := I.loc
    refine ⟨m, ns m hn, fun i x v e1 e2 e3 => ?_⟩
    obtain ⟨u, r, l⟩ := hl i x v e1 e2 e3
    refine ⟨u, r, ?_⟩
    rcases l with l | ⟨k, c, e, z⟩
    · exact .inl l
    · exact .inr ⟨k, c, e, cellK x c e _ z⟩
  · obtain ⟨v, z⟩ := I.cell x c e
    exact ⟨v, cellK x c e v z⟩
  · obtain ⟨m, ⟨o, _, _, ho, _⟩, _⟩ := I.loc
    exact free _ o (fun z => (hch _ z).2.1 rfl) ho I.free
  · obtain ⟨v, o, ho, hd⟩ := I.cell x c e
    exact free c o (fun z => (hch c z).2.2.1 x c e rfl) ho (I.freeC x c e)
  · obtain ⟨e, n, ne, nf, d⟩ := I.pin p hp
    have nch : p.1 ∉ ch := fun z => (hch p.1 z).2.2.2 p hp rfl
    exact ⟨keep p.1 p.2 ne nf nch e n, free p.1 p.2 nch e n, ne, nf, d⟩
/-- .. where the frame's own object is kept too -/
theorem Inv.un {t' : Nat} (I : Inv X pins σ H s) (u : Un X.fs [] H H' s.heap h') (hok : HOk X.prog X.w H' h') : Inv X pins σ H' { s with heap := h', toks := t' } := by
  obtain ⟨m, ⟨o, es, ep, ho, r⟩, _⟩ := id I.loc
  obtain ⟨sl, hL⟩ := u.any ho I.free (by simp)
  exact I.step (g' := s.gens) (d' := s.drawn) (ch := []) (fun _ z => nomatch z) (fun b o _ hb _ e n => u.keep b o e n hb (by simp)) (fun b o _ hb _ e n => u.slot b o e n hb (by simp)) (fun b o _ e n => u.free b o e n (by simp)) (fun b o _ e => u.there b o e (by simp)) u.tups u.frzs u.tbls (fun m' hm => by
    obtain ⟨o', es', ep', ho', r'⟩ := hm
    rw [ho] at ho'; cases ho'
    exact ⟨_, es', ep', hL, r'⟩) hok I.bare
/-- behind a call (or a comprehension's block): the slots of this frame may have changed too, the records at ch may have turned -/
theorem Inv.call {g' : Array GenState} {t' : Nat} {d' : Drawn} {ch : List Addr} (I : Inv X pins σ H s) (u : Un (frs X.stack) ch H H' s.heap h') (hok : HOk X.prog X.w H' h') (hg : AllBare g')
    (hch : ∀ b ∈ ch, (b ∈ X.ex ∨ X.s₀.heap.objs.size ≤ b) ∧ b ≠ X.env.locals ∧ (∀ x c, X.env.cells.lookup x = some c → c ≠ b) ∧ ∀ p ∈ X.pn ++ pins, p.1 ≠ b) :
    Inv X pins σ H' { s with heap := h', gens := g', drawn := d', toks := t' } := by
  obtain ⟨m, ⟨o, es, ep, ho, r⟩, _⟩ := id I.loc
  obtain ⟨sl, hL⟩ := u.any ho I.free fun z => (hch _ z).2.1 rfl
  exact I.step (ch := ch) hch (fun b o hL hb hc e n => u.keep b o e n (fun z => (List.mem_cons.mp (I.stkSub b z)).elim hL hb) hc) (fun b o _ _ hc e n => u.any e n hc) (fun b o hc e n => u.free b o e n hc) (fun b o hc e => u.there b o e hc) u.tups u.frzs u.tbls (fun m' hm => by
    obtain ⟨o', es', ep', ho', r'⟩ := hm
    rw [ho] at ho'; cases ho'
    exact ⟨_, es', ep', hL, r'⟩) hok hg
/-- an untracked record of ours (an iterator) has turned -/
theorem Inv.turned {t' : Nat} {it : Addr} (I : Inv X pins σ H s) (k : ∀ b o, b ≠ it → s.heap.get? b = some o → h'.get? b = some o) (hn : H it = none) (hL : it ≠ X.env.locals)
    (h1 : it ∈ X.ex ∨ X.s₀.heap.objs.size ≤ it) (h2 : ∀ x c, X.env.cells.lookup x = some c → c ≠ it) (h3 : ∀ p ∈ X.pn ++ pins, p.1 ≠ it) : Inv X pins σ H { s with heap := h', toks := t' } := by
  have nit : ∀ b u, H b = some u → b ≠ it := fun b u e z => by rw [z, hn] at e; cases e
  refine I.step (g' := s.gens) (d' := s.drawn) (ch := [it]) (fun b hb => ?_) (fun b o _ _ hc e _ => k b o (fun z => hc (by simp [z])) e) (fun b o _ _ hc e _ => ⟨o.slots, k b o (fun z => hc (by simp [z])) e⟩) (fun _ _ _ _ n => n)
    (fun b o hc e => ⟨o, k b o (fun z => hc (by simp [z])) e⟩) (fun _ _ e => e) (fun _ _ _ e => e) (fun b ps e => ⟨#[], by rw [e]; simp⟩) (fun m hm => ?_) (fun b u e => ?_) I.bare
  · have e : b = it := by simpa using hb
    subst e
    exact ⟨h1, hL, h2, h3⟩
  · obtain ⟨o, es, ep, ho, r⟩ := hm
    exact ⟨o, es, ep, k _ o (Ne.symm hL) ho, r⟩
  · refine (I.hok b u e).stay (fun c v hc q => k c v ?_ q) (fun _ q => q) fun _ _ q => q
    rcases hc with z | z
    · rw [z]; exact nit b u e
    · exact nit c _ z
theorem Inv.tok (I : Inv X pins σ H s) (t : Nat) : Inv X pins σ H { s with toks := t } := I.un (h' := s.heap) (t' := t) Un.refl I.hok
/-- all objects kept -/
theorem Inv.kept {t' : Nat} (I : Inv X pins σ H s) (k : ∀ b u, s.heap.get? b = some u → h'.get? b = some u) : Inv X pins σ H { s with heap := h', toks := t' } := I.un (Un.kept k) (I.hok.kept k)
/-- a new object laid and tracked -/
theorem Inv.laid {a : Addr} {o : HO} {t' : Nat} (I : Inv X pins σ H s) (k : ∀ b u, s.heap.get? b = some u → h'.get? b = some u) (hp : s.heap.objs.size ≤ a) (new : ObjOk X.prog X.w (upd H a o) h' a o) :
    Inv X pins σ (upd H a o) { s with heap := h', toks := t' } := I.un (Un.laid k hp (I.hok.fresh hp)) (I.hok.laid k hp new)
/-- an object written -/
theorem Inv.write {x e : Addr} {o : HO} {t' : Nat} (I : Inv X pins σ H s) (mu : Mut (H x)) (he : e = x ∨ H e = some (.own x)) (k : ∀ b u, b ≠ e → s.heap.get? b = some u → h'.get? b = some u) (heo : ∃ u, h'.get? e = some u)
    (new : ObjOk X.prog X.w (upd H x o) h' x o) : Inv X pins σ (upd H x o) { s with heap := h', toks := t' } := I.un (Un.write mu he k heo) (I.hok.write mu he k heo new)
/-- forgetting slots, pins -/
theorem Inv.weak {σ' : List (Option V)} (I : Inv X pins σ H s) (hl : σ'.length = σ.length) (w : ∀ (i : Nat) v, σ'[i]? = some (some v) → σ[i]? = some (some v)) : Inv X pins σ' H s :=
  ⟨I.ok, I.os, I.bare, I.base, let ⟨m, hn, hl'⟩ := I.loc; ⟨m, hn, fun i x v e1 e2 e3 => hl' i x v e1 (w i v e2) e3⟩, I.cell, I.free, I.freeC, I.pin, I.hok, hl.trans I.len⟩
theorem Inv.pins_of {pins' : List (Addr × Obj)} (I : Inv X pins σ H s) (h : ∀ p ∈ pins', s.heap.get? p.1 = some p.2 ∧ H p.1 = none ∧ p.1 ≠ X.env.locals ∧ p.1 ∉ X.fs ∧ ∀ v, p.2.data ≠ .cell v) : Inv X pins' σ H s :=
  ⟨I.ok, I.os, I.bare, I.base, I.loc, I.cell, I.free, I.freeC, fun p hp => (List.mem_append.mp hp).elim (fun z => I.pin p (List.mem_append_left _ z)) (h p), I.hok, I.len⟩

theorem nodup_ix {N : List Str} (hN : N.Nodup) {i j : Nat} {x : Str} (a : N[i]? = some x) (b : N[j]? = some x) : i = j := by
  obtain ⟨h1, e1⟩ := List.getElem?_eq_some_iff.mp a
  obtain ⟨h2, e2⟩ := List.getElem?_eq_some_iff.mp b
  exact (List.getElem_inj hN).mp (e1.trans e2.symm)

/-- a name is stored; what changed -/
theorem store_ok2 {M : Model} {A : Around} {E : Value → Shared → Prop} {i : Nat} {x : Str} {v : V} {u : Value} {Q : Unit → Shared → Prop} (I : Inv X pins σ H s) (hN : X.N.Nodup) (hi : X.N[i]? = some x) (hx : Loc X.env.scope x) (r : RelV v u)
    (h : ∀ s', Inv X pins (σ.set i (some v)) H s' → (∃ a, Heap.SameBut a s.heap s'.heap ∧ (a = X.env.locals ∨ X.env.cells.lookup x = some a)) → Q () s') (hf : X.fn x = true ∨ X.env.scope.names.lookup x = some .local := by first | exact .inl rfl | exact .inr rfl | assumption) : wpAny M A (storeName X.env x u) Q E s := by
  obtain ⟨m, hn, hl⟩ := id I.loc
  have hcls : (X.env.scope.kind == .class || (X.env.scope.kind == .module && X.env.locals != X.env.globals)) = false := by rw [I.ok.kind]; rfl
  have hiσ : i < σ.length := by rw [I.len]; exact (List.getElem?_eq_some_iff.mp hi).1
  have cne := I.cne
  have tracked : ∀ {a : Addr} {h' : Heap}, (∃ o, s.heap.get? a = some o ∧ H a = none) → Heap.SameBut a s.heap h' → HOk X.prog X.w H h' := fun {a h'} ha hs b ob e => by
    obtain ⟨_, _, hfree⟩ := ha
    refine (I.hok b ob e).stay (fun c w' hc q => (hs.2 c ?_).trans q) (fun _ q => q) fun _ _ q => q
    rintro rfl
    rcases hc with rfl | hc
    · rw [hfree] at e; cases e
    · rw [hfree] at hc; cases hc
  rcases hx with hk | hk
  · refine wpAny_storeName_local hk hn (fun h' hn' hs => ?_) hcls
    obtain ⟨oL, _, _, hoL, _⟩ := id hn
    refine h _ ⟨I.ok, I.os, I.bare, ⟨fun b o e n hb hx => ?_, fun b o e n hb hx => ?_, I.base.free, fun b o e hx => ?_, I.base.tups, I.base.frzs, I.base.tbls⟩, ⟨_, hn', fun j y v' e1 e2 e3 => ?_⟩, fun y c e => ?_, I.free, I.freeC, fun p hp => ?_, tracked ⟨oL, hoL, I.free⟩ hs, by simpa using I.len⟩ ⟨_, hs, .inl rfl⟩
    · exact (hs.2 b (Nat.ne_of_lt (Nat.lt_of_lt_of_le (Heap.lt_size e) I.ok.above))).trans (I.base.keep b o e n hb hx)
    · obtain ⟨sl, e1⟩ := I.base.slot b o e n hb hx
      exact ⟨sl, (hs.2 b (Nat.ne_of_lt (Nat.lt_of_lt_of_le (Heap.lt_size e) I.ok.above))).trans e1⟩
    · obtain ⟨o', e1⟩ := I.base.there b o e hx
      exact ⟨o', (hs.2 b (Nat.ne_of_lt (Nat.lt_of_lt_of_le (Heap.lt_size e) I.ok.above))).trans e1⟩
    · by_cases hj : j = i
      · subst hj
        rw [hi] at e1; cases e1
        rw [List.getElem?_set_self hiσ] at e2
        cases e2
        exact ⟨u, r, .inl ⟨hk, by simp⟩⟩
      · rw [List.getElem?_set_ne (Ne.symm hj)] at e2
        obtain ⟨u', r', q⟩ := hl j y v' e1 e2 e3
        refine ⟨u', r', ?_⟩
        rcases q with ⟨k, e⟩ | ⟨k, c, e, z⟩
        · refine .inl ⟨k, ?_⟩
          have : y ≠ x := fun e => hj (nodup_ix hN e1 (e ▸ hi))
          simp [this, e]
        · exact .inr ⟨k, c, e, z.sameBut hs (cne y c e)⟩
    · obtain ⟨w', z⟩ := I.cell y c e
      exact ⟨w', z.sameBut hs (cne y c e)⟩
    · obtain ⟨e, n, ne, nf, d⟩ := I.pin p hp
      exact ⟨(hs.2 p.1 ne).trans e, n, ne, nf, d⟩
  · have hfn : X.fn x = true := by
      rcases hf with z | z
      · exact z
      · rw [z] at hk; cases hk
    obtain ⟨c, hc⟩ := I.ok.has x (.inl hk)
    obtain ⟨w', z⟩ := I.cell x c hc
    refine wpAny_storeName_cell I.ok.kind hk hc z (fun h' hc' hs => ?_)
    obtain ⟨oc, hoc, hocd⟩ := id z
    refine h { s with heap := h' } ⟨I.ok, I.os, I.bare, ⟨fun b o e n hb hx => ?_, fun b o e n hb hx => ?_, I.base.free, fun b o e hx => ?_, I.base.tups, I.base.frzs, I.base.tbls⟩, ⟨m, hn.sameBut hs (Ne.symm (cne x c hc)), fun j y v' e1 e2 e3 => ?_⟩, fun y c' e => ?_, I.free, I.freeC, fun p hp => ?_, tracked ⟨oc, hoc, I.freeC x c hc⟩ hs, by simpa using I.len⟩ ⟨c, hs, .inr hc⟩
    · exact (hs.2 b (Nat.ne_of_lt (Nat.lt_of_lt_of_le (Heap.lt_size e) (I.ok.cab x c hfn hc)))).trans (I.base.keep b o e n hb hx)
    · obtain ⟨sl, e1⟩ := I.base.slot b o e n hb hx
      exact ⟨sl, (hs.2 b (Nat.ne_of_lt (Nat.lt_of_lt_of_le (Heap.lt_size e) (I.ok.cab x c hfn hc)))).trans e1⟩
    · obtain ⟨o', e1⟩ := I.base.there b o e hx
      exact ⟨o', (hs.2 b (Nat.ne_of_lt (Nat.lt_of_lt_of_le (Heap.lt_size e) (I.ok.cab x c hfn hc)))).trans e1⟩
    · by_cases hj : j = i
      · subst hj
        rw [hi] at e1; cases e1
        rw [List.getElem?_set_self hiσ] at e2
        cases e2
        exact ⟨u, r, .inr ⟨.inl hk, c, hc, hc'⟩⟩
      · rw [List.getElem?_set_ne (Ne.symm hj)] at e2
        obtain ⟨u', r', q⟩ := hl j y v' e1 e2 e3
        refine ⟨u', r', ?_⟩
        rcases q with q | ⟨k, c', e, z'⟩
        · exact .inl q
        · refine .inr ⟨k, c', e, z'.sameBut hs ?_⟩
          rintro rfl
          exact hj (nodup_ix hN e1 (I.ok.inj _ _ _ e hc ▸ hi))
    · by_cases hcc : c' = c
      · subst hcc; exact ⟨_, hc'⟩
      · obtain ⟨w2, z2⟩ := I.cell y c' e
        exact ⟨w2, z2.sameBut hs hcc⟩
    · obtain ⟨e, n, ne, nf, d⟩ := I.pin p hp
      refine ⟨(hs.2 p.1 ?_).trans e, n, ne, nf, d⟩
      intro q
      rw [q, hoc] at e
      have q' : oc = p.2 := Option.some.inj e
      exact d w' (by rw [← q']; exact hocd)
theorem store_ok {M : Model} {A : Around} {E : Value → Shared → Prop} {i : Nat} {x : Str} {v : V} {u : Value} {Q : Unit → Shared → Prop} (I : Inv X pins σ H s) (hN : X.N.Nodup) (hi : X.N[i]? = some x) (hx : Loc X.env.scope x) (r : RelV v u)
    (h : ∀ s', Inv X pins (σ.set i (some v)) H s' → Q () s') (hf : X.fn x = true ∨ X.env.scope.names.lookup x = some .local := by first | exact .inl rfl | exact .inr rfl | assumption) : wpAny M A (storeName X.env x u) Q E s :=
  store_ok2 I hN hi hx r (fun s' I' _ => h s' I') hf
/-- behind a call or a block, the state as it is -/
theorem Inv.call' {s' : Shared} {ch : List Addr} (I : Inv X pins σ H s) (ho : s'.os = s.os) (u : Un (frs X.stack) ch H H' s.heap s'.heap) (hok : HOk X.prog X.w H' s'.heap) (hg : AllBare s'.gens)
    (hch : ∀ b ∈ ch, (b ∈ X.ex ∨ X.s₀.heap.objs.size ≤ b) ∧ b ≠ X.env.locals ∧ (∀ x c, X.env.cells.lookup x = some c → c ≠ b) ∧ ∀ p ∈ X.pn ++ pins, p.1 ≠ b) : Inv X pins σ H' s' := by
  obtain ⟨h', g', d', t', o'⟩ := s'
  have e : o' = s.os := ho
  subst e
  exact I.call (g' := g') (t' := t') (d' := d') u hok hg hch
end

/-! ### the judgements -/
/-- an exception: its class, its own dict's address (where it has one), the abstract heap behind it -/
abbrev XK := Value → Option Addr → Hp → Prop
abbrev St := List (Option V)
abbrev VK := V → Hp → Prop
/-- an expression's reading; a test's; an argument list's -/
abbrev TE := St → Hp → VK → Prop
abbrev TT := St → Hp → (Bool → Hp → Prop) → Prop
abbrev TA := St → Hp → (List V → Hp → Prop) → Prop
/-- what is wanted behind a statement -/
structure Ends where
  nx : St → Hp → Prop
  rt : VK
  bk : St → Hp → Prop := fun _ _ => False
  ct : St → Hp → Prop := fun _ _ => False
abbrev TS := Ends → St → Hp → Prop

def EP (X : Cx) (pins : List (Addr × Obj)) (σ : St) (Q : VK) (u : Value) (s' : Shared) : Prop := ∃ v H', Inv X pins σ H' s' ∧ RelV v u ∧ Q v H'
def TP (X : Cx) (pins : List (Addr × Obj)) (σ : St) (Q : Bool → Hp → Prop) (b : Bool) (s' : Shared) : Prop := ∃ H', Inv X pins σ H' s' ∧ Q b H'
def AP (X : Cx) (pins : List (Addr × Obj)) (σ : St) (Q : List V → Hp → Prop) (us : List Value) (s' : Shared) : Prop := ∃ vs H', Inv X pins σ H' s' ∧ Vals vs us ∧ Q vs H'
def SP (X : Cx) (pins : List (Addr × Obj)) (D : Ends) (f : Flow) (s' : Shared) : Prop :=
  match f with
  | .next => ∃ σ' H', Inv X pins σ' H' s' ∧ D.nx σ' H'
  | .brk => ∃ σ' H', Inv X pins σ' H' s' ∧ D.bk σ' H'
  | .cont => ∃ σ' H', Inv X pins σ' H' s' ∧ D.ct σ' H'
  | .ret u => ∃ v σ' H', Inv X pins σ' H' s' ∧ RelV v u ∧ D.rt v H'

def PE (X : Cx) (e : Expr) (t : TE) : Prop :=
  ∀ (pins : List (Addr × Obj)) (s : Shared) (σ : St) (H : Hp) (Q : VK), Inv X pins σ H s → t σ H Q → wpAny (model X.prog X.w) X.A (eval e X.env) (EP X pins σ Q) X.xe s
def PT (X : Cx) (e : Expr) (t : TT) : Prop :=
  ∀ (pins : List (Addr × Obj)) (s : Shared) (σ : St) (H : Hp) (Q : Bool → Hp → Prop), Inv X pins σ H s → t σ H Q → wpAny (model X.prog X.w) X.A (isTrue e X.env (eval e X.env)) (TP X pins σ Q) X.xe s
/-- a test whatever its 'whole' is (and, or) -/
def PW (X : Cx) (e : Expr) (t : TT) : Prop :=
  ∀ (whole : Sem Value) (pins : List (Addr × Obj)) (s : Shared) (σ : St) (H : Hp) (Q : Bool → Hp → Prop), Inv X pins σ H s → t σ H Q → wpAny (model X.prog X.w) X.A (isTrue e X.env whole) (TP X pins σ Q) X.xe s
theorem PW.pt {X : Cx} {e : Expr} {t : TT} (h : PW X e t) : PT X e t := h _
/-- an argument list (no star), from the left -/
def PA (X : Cx) (es : List Expr) (t : TA) : Prop :=
  ∀ (pos : Pos) (pins : List (Addr × Obj)) (s : Shared) (σ : St) (H : Hp) (Q : List V → Hp → Prop), Inv X pins σ H s → t σ H Q → wpAny (model X.prog X.w) X.A (spliced (backTo pos (starEach es X.env))) (AP X pins σ Q) X.xe s
def PS (X : Cx) (st : Stmt) (t : TS) : Prop :=
  ∀ (pins : List (Addr × Obj)) (s : Shared) (σ : St) (H : Hp) (D : Ends), Inv X pins σ H s → t D σ H → wpAny (model X.prog X.w) X.A (exec st X.env) (SP X pins D) X.xe s
def PSs (X : Cx) (st : List Stmt) (t : TS) : Prop :=
  ∀ (pins : List (Addr × Obj)) (s : Shared) (σ : St) (H : Hp) (D : Ends), Inv X pins σ H s → t D σ H → wpAny (model X.prog X.w) X.A (execs st X.env) (SP X pins D) X.xe s
/-- weaken the end -/
theorem thn {α : Type} {t : Sem α} {Q Q' : α → Shared → Prop} {M : Model} {A : Around} {E : Value → Shared → Prop} {s : Shared} (h : wpAny M A t Q E s) (hQ : ∀ a s, Q a s → Q' a s) : wpAny M A t Q' E s := wpAny_mono h hQ fun _ _ x => x
end L2

namespace L2
open PySem PySem.Spec PyProof.Rows
section
variable {X : Cx}

/-! ### names and constants -/
def tVar (i : Nat) : TE := fun σ H Q => ∃ v, σ[i]? = some (some v) ∧ Q v H
def tC (v : V) : TE := fun _ H Q => Q v H
theorem pe_var {i : Nat} {x : Str} {pos : Pos} (hN : X.N[i]? = some x) (hv : Vis X.env.scope x) (hd : (x == ("__debug__" : Str)) = false := by decide) (hcd : (x == ("__classdict__" : Str)) = false := by decide) : PE X (.Name x pos) (tVar i) := by
  intro pins s σ H Q I h
  obtain ⟨v, e, h⟩ := h
  obtain ⟨m, hn, hl⟩ := I.loc
  obtain ⟨u, r, l⟩ := hl i x v hN e hv
  have fin : EP X pins σ Q u s := ⟨v, H, I, r, h⟩
  rcases l with ⟨hk, hm⟩ | ⟨hk, c, hc, hcell⟩
  · exact wpAny_Name (wpAny_loadName_local I.ok.kind hk hn hm fin) hd
  · rcases hk with hk | hk
    · exact wpAny_Name (wpAny_loadName_cell I.ok.kind hk hc hcell fin) hd
    · exact wpAny_Name (wpAny_loadName_free I.ok.kind hk hc hcell fin hcd) hd
theorem pe_int {i j pos} : PE X (.Constant (.int i) j pos) (tC (.int i)) := fun _ _ _ H _ I h => wpAny_Constant_int ⟨.int i, H, I.tok _, ⟨_, rfl⟩, h⟩
theorem pe_bl {b j pos} : PE X (.Constant (.bool b) j pos) (tC (.bl b)) := fun _ _ _ H _ I h => Constant_bool ⟨.bl b, H, I, rfl, h⟩
theorem pe_non {j pos} : PE X (.Constant .none j pos) (tC .non) := fun _ _ _ H _ I h => Constant_none ⟨.non, H, I, rfl, h⟩
theorem pe_str {x j pos} : PE X (.Constant (.str x) j pos) (tC (.str x)) := fun _ _ _ H _ I h => Calls.Constant_str ⟨.str x, H, I.tok _, ⟨_, rfl⟩, h⟩

/-- a global name of the def -/
def Gl (X : Cx) (x : Str) : Prop := X.env.kindOf x = some .globalImplicit
theorem ld_glob {E : Value → Shared → Prop} {pins : List (Addr × Obj)} {s : Shared} {σ : St} {H : Hp} {x : Str} {u : Value} {pos : Pos} {Q : Value → Shared → Prop} (I : Inv X pins σ H s) (hg : Gl X x) (hm : X.mg x = some u) (h : Q u s)
    (hd : (x == ("__debug__" : Str)) = false := by decide) : wpAny (model X.prog X.w) X.A (eval (.Name x pos) X.env) Q E s :=
  Calls.Name_function_global I.ok.kind hg (Calls.loadGlobal_global (by rw [I.ok.glob]; exact I.mod.glob.keeps I.bk) hm h) hd
theorem ld_blt {E : Value → Shared → Prop} {pins : List (Addr × Obj)} {s : Shared} {σ : St} {H : Hp} {x : Str} {u : Value} {pos : Pos} {Q : Value → Shared → Prop} (I : Inv X pins σ H s) (hg : Gl X x) (hm : X.mg x = none) (hv : bootBuiltins x = some u) (h : Q u s)
    (hn : x ≠ "__name__" := by decide) (hd : (x == ("__debug__" : Str)) = false := by decide) : wpAny (model X.prog X.w) X.A (eval (.Name x pos) X.env) Q E s := by
  obtain ⟨mb, h1, h2⟩ := I.mod.blt
  exact Calls.Name_function_global I.ok.kind hg (Calls.loadGlobal_builtin (by rw [I.ok.glob]; exact I.mod.glob.keeps I.bk) hm (by rw [I.ok.blt]; exact h1.keeps I.bk) ((h2 x hn).trans hv) h) hd
theorem pe_bltn {x : Str} {v : V} {u : Value} {pos : Pos} (hg : Gl X x) (hm : X.mg x = none) (hv : bootBuiltins x = some u) (r : RelV v u) (hn : x ≠ "__name__" := by decide) (hd : (x == ("__debug__" : Str)) = false := by decide) : PE X (.Name x pos) (tC v) :=
  fun _ _ _ H _ I h => ld_blt I hg hm hv ⟨v, H, I, r, h⟩ hn hd

/-! ### arithmetic -/
variable {a b : Expr} {ta tb : TE} {pos : Pos}
/-! ### comparisons -/
/-- a comparison as a value, as a test -/
def tB (t : TE) : TT := fun σ H Q => t σ H fun x H1 => ∃ c, x = .bl c ∧ Q c H1
/-- an expression whose value is a bool, as a test -/
theorem pt_val {e : Expr} {t : TE} (h : PE X e t) (he : ∀ whole, isTrue e X.env whole = (do let v ← whole; standAt e.pos; holding [v] (truthy v)) := by intro _; rfl) : PT X e (tB t) := by
  intro pins s σ H Q I hw
  refine isTrue_plain (thn (h pins s σ H _ I hw) fun v s1 ⟨x, H1, I1, r1, q1⟩ => ?_) (he _)
  obtain ⟨d, rfl, q⟩ := q1
  cases r1
  exact wpAny_truthy_bool ⟨H1, I1, q⟩

/-! ### and, or, not -/
variable {tA tB' : TT} {rest : List Expr}
def tOr (t u : TT) : TT := fun σ H Q => t σ H fun c H1 => if c = true then Q true H1 else u σ H1 Q
def tNot (t : TT) : TT := fun σ H Q => t σ H fun c H1 => Q (!c) H1
theorem pw_or1 (ha : PT X a tA) : PW X (.BoolOp .Or [a] pos) tA := by
  intro wh pins s σ H Q I h
  refine isTrue_or (thn (ha pins s σ H Q I h) fun c s1 e => ?_)
  cases c with
  | false => exact isTrue_or_nil e
  | true => exact e
theorem pw_or (ha : PT X a tA) (hb : PW X (.BoolOp .Or (b :: rest) pos) tB') : PW X (.BoolOp .Or (a :: b :: rest) pos) (tOr tA tB') := by
  intro wh pins s σ H Q I h
  refine isTrue_or (thn (ha pins s σ H _ I h) fun c s1 ⟨H1, I1, q1⟩ => ?_)
  cases c with
  | true => exact ⟨H1, I1, q1⟩
  | false => exact hb wh pins s1 σ H1 Q I1 q1
theorem pt_not (ha : PT X a tA) : PT X (.UnaryOp .Not a pos) (tNot tA) := by
  intro pins s σ H Q I h
  exact isTrue_not (ha pins s σ H (fun c H1 => Q (!c) H1) I h)
/-- .. as values (bools) -/
def tAndV (ta tb : TE) : TE := fun σ H Q => ta σ H fun x H1 => ∃ c, x = .bl c ∧ if c = true then tb σ H1 Q else Q (.bl false) H1
def tNotV (ta : TE) : TE := fun σ H Q => ta σ H fun x H1 => ∃ c, x = .bl c ∧ Q (.bl (!c)) H1
theorem pe_one {op} {t : TE} (h : PE X a t) : PE X (.BoolOp op [a] pos) t := fun pins s σ H Q I hw => BoolOp_one (h pins s σ H Q I hw)
theorem pe_and (ha : PE X a ta) (hb : PE X (.BoolOp .And (b :: rest) pos) tb) : PE X (.BoolOp .And (a :: b :: rest) pos) (tAndV ta tb) := by
  intro pins s σ H Q I h
  refine BoolOp_and (thn (ha pins s σ H _ I h) fun v s1 ⟨x, H1, I1, r1, q1⟩ => ?_)
  obtain ⟨c, rfl, q1⟩ := q1
  cases r1
  refine wpAny_truthy_bool ?_
  cases c with
  | true => exact hb pins s1 σ H1 Q I1 q1
  | false => exact ⟨.bl false, H1, I1, rfl, q1⟩
theorem pe_not (ha : PE X a ta) : PE X (.UnaryOp .Not a pos) (tNotV ta) := by
  intro pins s σ H Q I h
  refine UnaryOp_ (thn (ha pins s σ H _ I h) fun v s1 ⟨x, H1, I1, r1, q1⟩ => ?_)
  obtain ⟨c, rfl, q1⟩ := q1
  cases r1
  exact not_of (wpAny_truthy_bool ⟨.bl (!c), H1, I1, rfl, q1⟩)
/-- a if t else b -/
def tIf (t : TT) (ta tb : TE) : TE := fun σ H Q => t σ H fun c H1 => if c = true then ta σ H1 Q else tb σ H1 Q
theorem pe_ifExp {c : Expr} (hc : PT X c tA) (ha : PE X a ta) (hb : PE X b tb) : PE X (.IfExp c a b pos) (tIf tA ta tb) := by
  intro pins s σ H Q I h
  refine wpAny_IfExp (thn (hc pins s σ H _ I h) fun d s1 ⟨H1, I1, q1⟩ => ?_)
  cases d with
  | true => exact ha pins s1 σ H1 Q I1 q1
  | false => exact hb pins s1 σ H1 Q I1 q1
end
end L2

namespace L2
open PySem PySem.Spec PyProof.Rows

/-! ### a list, a tuple that is read: tracked, frozen, or an object of the module -/
def SqL (K : PySem.W.Frag) (H : Hp) (a : Addr) (xs : List V) : Prop :=
  Rd H a (.lst xs) ∨
    ∃ (o : Obj) (its : Array Value) (n : Nat), K.lookup a = some o ∧ o.cls = .type "list" ∧ o.dict = none ∧ o.data = .seq its n ∧ its.size ≤ sizeLine ∧ Vals xs its.toList
def SqT (K : PySem.W.Frag) (H : Hp) (a : Addr) (xs : List V) : Prop :=
  Rd H a (.tup xs) ∨
    ∃ (o : Obj) (its : Array Value) (n : Nat), K.lookup a = some o ∧ o.cls = .type "tuple" ∧ o.data = .seq its n ∧ its.size ≤ sizeLine ∧ Vals xs its.toList
def absV : Value → Option V
  | .none => some .non
  | .bool b => some (.bl b)
  | .int i _ => some (.int i)
  | .str x _ => some (.str x)
  | .bytes b _ => some (.byt b)
  | .float b _ => some (.flt b)
  | .ref a => some (.ref a)
  | .type n => some (.ty n)
  | _ => none
theorem RelV.abs {x : V} {u : Value} (r : RelV x u) : absV u = some x := by
  cases x with
  | non => cases r; rfl
  | bl _ => cases r; rfl
  | int _ => obtain ⟨t, rfl⟩ := r; rfl
  | str _ => obtain ⟨t, rfl⟩ := r; rfl
  | byt _ => obtain ⟨t, rfl⟩ := r; rfl
  | flt _ => obtain ⟨t, rfl⟩ := r; rfl
  | ref _ => cases r; rfl
  | ty _ => cases r; rfl
theorem RelV.inj {x y : V} {u : Value} (r : RelV x u) (q : RelV y u) : x = y := Option.some.inj (r.abs.symm.trans q.abs)
theorem Vals.inj : ∀ {xs ys : List V} {us : List Value}, Vals xs us → Vals ys us → xs = ys
  | _, _, _, .nil, .nil => rfl
  | _, _, _, .cons r t, .cons r' t' => by rw [r.inj r', Vals.inj t t']
section
variable {X : Cx} {pins : List (Addr × Obj)} {σ : St} {H : Hp} {s : Shared} {a : Addr} {xs ys : List V}
theorem SqL.of {K : PySem.W.Frag} (h : H a = some (.lst xs)) : SqL K H a xs := .inl (.inl h)
theorem SqT.of {K : PySem.W.Frag} (h : H a = some (.tup xs)) : SqT K H a xs := .inl (.inl h)
theorem Inv.list (I : Inv X pins σ H s) (h : SqL X.K H a xs) : ∃ its : List Value, Vals xs its ∧ PlainL s.heap a its.toArray ∧ xs.length ≤ sizeLine := by
  rcases h with h | ⟨o, its, n, hk, hc, hd, hs, hz, r⟩
  · obtain ⟨z, its, n, r, e⟩ := h.ok I.hok
    exact ⟨its, r, ⟨_, n, e, rfl, rfl, rfl⟩, z⟩
  · refine ⟨its.toList, r, ⟨o, n, I.kIn a o hk, hc, hd, by simpa using hs⟩, ?_⟩
    have e := r.length
    simp only [Array.length_toList] at e
    omega
theorem Inv.tuple (I : Inv X pins σ H s) (h : SqT X.K H a xs) : ∃ its : List Value, Vals xs its ∧ IsTup s.heap a its.toArray ∧ xs.length ≤ sizeLine := by
  rcases h with h | ⟨o, its, n, hk, hc, hs, hz, r⟩
  · obtain ⟨z, its, r, p, _⟩ := h.ok I.hok
    exact ⟨its, r, p, z⟩
  · refine ⟨its.toList, r, ⟨o, I.kIn a o hk, hc, n, by simpa using hs⟩, ?_⟩
    have e := r.length
    simp only [Array.length_toList] at e
    omega
theorem Inv.list_inj (I : Inv X pins σ H s) (h : SqL X.K H a xs) (h' : SqL X.K H a ys) : xs = ys := by
  obtain ⟨its, r, ⟨o, n, e, _, _, d⟩, _⟩ := I.list h
  obtain ⟨its', r', ⟨o', n', e', _, _, d'⟩, _⟩ := I.list h'
  rw [e] at e'; cases e'
  rw [d] at d'
  injection d' with d1 _
  have : its = its' := by simpa using congrArg Array.toList d1
  subst this
  exact r.inj r'
theorem Inv.tuple_inj (I : Inv X pins σ H s) (h : SqT X.K H a xs) (h' : SqT X.K H a ys) : xs = ys := by
  obtain ⟨its, r, ⟨o, e, _, n, d⟩, _⟩ := I.tuple h
  obtain ⟨its', r', ⟨o', e', _, n', d'⟩, _⟩ := I.tuple h'
  rw [e] at e'; cases e'
  rw [d] at d'
  injection d' with d1 _
  have : its = its' := by simpa using congrArg Array.toList d1
  subst this
  exact r.inj r'
end

/-! ### another wish about exceptions -/
abbrev Cx.wish (X : Cx) (E : Value → Shared → Prop) : Cx := { X with xe := E }
/-- no exception leaves -/
abbrev Cx.nox (X : Cx) : Cx := X.wish fun _ _ => False
theorem Cx.Ok.wish {X : Cx} (ok : X.Ok) (E : Value → Shared → Prop) : (X.wish E).Ok :=
  ⟨ok.mod, ok.kind, ok.glob, ok.blt, ok.above, ok.inj, ok.has, ok.cab, ok.hd, ok.frames, ok.stk, ok.exf, ok.bs, ok.bsz, ok.noex, ok.exfs, ok.funs, ok.frf⟩
theorem Cx.Ok.unwish {X : Cx} {E : Value → Shared → Prop} (ok : (X.wish E).Ok) : X.Ok :=
  ⟨ok.mod, ok.kind, ok.glob, ok.blt, ok.above, ok.inj, ok.has, ok.cab, ok.hd, ok.frames, ok.stk, ok.exf, ok.bs, ok.bsz, ok.noex, ok.exfs, ok.funs, ok.frf⟩
section
variable {X : Cx} {pins : List (Addr × Obj)} {σ : St} {H : Hp} {s : Shared} {E : Value → Shared → Prop}
theorem Inv.wish (I : Inv X pins σ H s) (E : Value → Shared → Prop) : Inv (X.wish E) pins σ H s := ⟨I.ok.wish E, I.os, I.bare, I.base, I.loc, I.cell, I.free, I.freeC, I.pin, I.hok, I.len⟩
theorem Inv.unwish (I : Inv (X.wish E) pins σ H s) : Inv X pins σ H s := ⟨I.ok.unwish, I.os, I.bare, I.base, I.loc, I.cell, I.free, I.freeC, I.pin, I.hok, I.len⟩
theorem SP.unwish {D : Ends} {f : Flow} {s' : Shared} (h : SP (X.wish E) pins D f s') : SP X pins D f s' := by
  cases f with
  | next => obtain ⟨σ', H', I, q⟩ := h; exact ⟨σ', H', I.unwish, q⟩
  | brk => obtain ⟨σ', H', I, q⟩ := h; exact ⟨σ', H', I.unwish, q⟩
  | cont => obtain ⟨σ', H', I, q⟩ := h; exact ⟨σ', H', I.unwish, q⟩
  | ret u => obtain ⟨v, σ', H', I, r, q⟩ := h; exact ⟨v, σ', H', I.unwish, r, q⟩
theorem PSs.nox {st : List Stmt} {t : TS} (h : PSs X.nox st t) : PSs X st t := fun pins s σ H D I hw =>
  wpAny_mono (h pins s σ H D (I.wish _) hw) (fun _ _ q => q.unwish) fun _ _ z => False.elim z
end

/-! ### blocks and small statements -/
section
variable {X : Cx} {st : Stmt} {rest : List Stmt} {t u : TS} {e : Expr} {te : TE} {pos : Pos}
def tNext : TS := fun D σ H => D.nx σ H
def tSeq (t u : TS) : TS := fun D σ H => t { D with nx := u D } σ H
theorem pss_nil : PSs X [] tNext := fun _ _ σ H _ I h => wpAny_execs_nil ⟨σ, H, I, h⟩
theorem pss_cons (h1 : PS X st t) (h2 : PSs X rest u) : PSs X (st :: rest) (tSeq t u) := by
  intro pins s σ H D I h
  refine wpAny_execs_cons (thn (h1 pins s σ H { D with nx := u D } I h) fun f s1 q => ?_)
  cases f with
  | next =>
    obtain ⟨σ', H', I', q⟩ := q
    exact h2 pins s1 σ' H' D I' q
  | ret v => exact q
  | brk => exact q
  | cont => exact q
theorem pss_one (h1 : PS X st t) : PSs X [st] t := by
  intro pins s σ H D I h
  refine wpAny_execs_cons (thn (h1 pins s σ H D I h) fun f s1 q => ?_)
  cases f with
  | next => exact wpAny_execs_nil q
  | ret v => exact q
  | brk => exact q
  | cont => exact q
/-- in a def's body nothing is shown -/
theorem Inv.quiet {pins : List (Addr × Obj)} {σ : St} {H : Hp} {s : Shared} (I : Inv X pins σ H s) : interactive X.env = false := by simp [interactive, I.ok.kind]
/-- an expression whose value is dropped -/
def tDrop (te : TE) : TS := fun D σ H => te σ H fun _ H1 => D.nx σ H1
theorem ps_expr (he : PE X e te) (hs : swapsWith e none pos.line X.env = pure false := by rfl) : PS X (.Expr e pos) (tDrop te) := by
  intro pins s σ H D I h
  exact wpAny_Expr_any (thn (he pins s σ H _ I h) fun v s1 ⟨x, H1, I1, r1, q1⟩ => ⟨σ, H1, I1, q1⟩) I.quiet hs
def tRet (te : TE) : TS := fun D σ H => te σ H D.rt
theorem ps_ret (he : PE X e te) : PS X (.Return (some e) pos) (tRet te) := by
  intro pins s σ H D I h
  exact wpAny_Return_some (thn (he pins s σ H _ I h) fun v s1 ⟨x, H1, I1, r1, q1⟩ => ⟨x, σ, H1, I1, r1, q1⟩)
def tIfS (c : TT) (t u : TS) : TS := fun D σ H => c σ H fun b H1 => if b = true then t D σ H1 else u D σ H1
theorem ps_if {c : Expr} {a b : List Stmt} {tc : TT} (hc : PT X c tc) (ha : PSs X a t) (hb : PSs X b u) : PS X (.If c a b pos) (tIfS tc t u) := by
  intro pins s σ H D I h
  refine wpAny_If (thn (hc pins s σ H _ I h) fun d s1 ⟨H1, I1, q1⟩ => ?_)
  cases d with
  | true => exact ha pins s1 σ H1 D I1 q1
  | false => exact hb pins s1 σ H1 D I1 q1
end

/-! ### targets -/
abbrev TG := V → St → Hp → (St → Hp → Prop) → Prop
abbrev TGs := List V → St → Hp → (St → Hp → Prop) → Prop
def PG (X : Cx) (target : Expr) (t : TG) : Prop :=
  ∀ (pins : List (Addr × Obj)) (s : Shared) (σ : St) (H : Hp) (v : V) (u : Value) (Q : St → Hp → Prop), Inv X pins σ H s → RelV v u → t v σ H Q →
    wpAny (model X.prog X.w) X.A (assign target X.env u) (fun _ s' => ∃ σ' H', Inv X pins σ' H' s' ∧ Q σ' H') X.xe s
/-- several targets, one after another -/
def PGs (X : Cx) (ts : List Expr) (t : TGs) : Prop :=
  ∀ (pins : List (Addr × Obj)) (s : Shared) (σ : St) (H : Hp) (vs : List V) (us : List Value) (Q : St → Hp → Prop), Inv X pins σ H s → Vals vs us → t vs σ H Q →
    wpAny (model X.prog X.w) X.A (assignInOrder ((assignEach ts X.env).map (·.2)) us) (fun _ s' => ∃ σ' H', Inv X pins σ' H' s' ∧ Q σ' H') X.xe s
/-- o[i] = v, by values -/
abbrev TSet := V → V → V → Hp → (Hp → Prop) → Prop
def PSet (X : Cx) (t : TSet) : Prop :=
  ∀ (pins : List (Addr × Obj)) (s : Shared) (σ : St) (H : Hp) (o i v : V) (ov iv u : Value) (Q : Hp → Prop), Inv X pins σ H s → RelV o ov → RelV i iv → RelV v u → t o i v H Q →
    wpAny (model X.prog X.w) X.A (setItem ov iv u) (fun _ s' => ∃ H', Inv X pins σ H' s' ∧ Q H') X.xe s
section
variable {X : Cx} {pos : Pos}
def gName (i : Nat) : TG := fun v σ H Q => Q (σ.set i (some v)) H
theorem pg_name {i : Nat} {x : Str} (hN : X.N.Nodup) (hi : X.N[i]? = some x) (hx : Loc X.env.scope x) (hf : X.fn x = true ∨ X.env.scope.names.lookup x = some .local := by first | exact .inl rfl | exact .inr rfl | assumption) : PG X (.Name x pos) (gName i) := by
  intro pins s σ H v u Q I r h
  exact wpAny_assign_Name (store_ok I hN hi hx r (fun s' I' => ⟨_, H, I', h⟩) hf)
def gNil : TGs := fun vs σ H Q => vs = [] ∧ Q σ H
def gCons (t : TG) (u : TGs) : TGs := fun vs σ H Q => ∃ v r, vs = v :: r ∧ t v σ H fun σ' H' => u r σ' H' Q
theorem pgs_nil : PGs X [] gNil := by
  intro pins s σ H vs us Q I r h
  obtain ⟨e, h⟩ := h
  subst e
  cases r
  exact assignInOrder_nil ⟨σ, H, I, h⟩
theorem pgs_cons {e : Expr} {es : List Expr} {t : TG} {u : TGs} (h1 : PG X e t) (h2 : PGs X es u)
    (hs : (assignEach (e :: es) X.env).map (·.2) = assign e X.env :: (assignEach es X.env).map (·.2) := by rfl) : PGs X (e :: es) (gCons t u) := by
  intro pins s σ H vs us Q I r h
  obtain ⟨v, vr, e1, h⟩ := h
  subst e1
  cases r with
  | cons r rr =>
    rw [hs]
    refine assignInOrder_cons (thn (h1 pins s σ H _ _ _ I r h) fun _ s1 ⟨σ1, H1, I1, q1⟩ => ?_)
    exact h2 pins s1 σ1 H1 _ _ Q I1 rr q1
/-- (a, b, ..) = a tuple of that length -/
def gTup (K : PySem.W.Frag) (n : Nat) (t : TGs) : TG := fun v σ H Q => ∃ a xs, v = .ref a ∧ SqT K H a xs ∧ xs.length = n ∧ t xs σ H Q
theorem pg_tup {es : List Expr} {k : Nat} {t : TGs} {n : Nat} (hc : X.calm = true) (h : PGs X es t)
    (hn : (assignEach es X.env).length = n := by rfl) (hst : (assignEach es X.env).findIdx? (·.1) = none := by rfl) : PG X (.Tuple es k pos) (gTup X.K n t) := by
  intro pins s σ H v u Q I r hw
  obtain ⟨a, xs, e1, hq, hl, hw⟩ := hw
  subst e1
  cases r
  obtain ⟨its, rv, ht, hz⟩ := I.tuple hq
  refine assign_Tuple_tuple (I.ok.hd hc) ht (by simp [hn, ← hl, rv.length]) hst fun h' hx => ?_
  have I1 : Inv X pins σ H { s with heap := h' } := I.kept (t' := s.toks) fun b o e => hx b o (Nat.ne_of_lt (Heap.lt_size e)) e
  exact h pins _ σ H xs _ Q I1 (by simpa using rv) hw
/-- o[i] = .. -/
def gSub (to ti : TE) (t : TSet) : TG := fun v σ H Q => to σ H fun o H1 => ti σ H1 fun i H2 => t o i v H2 fun H3 => Q σ H3
theorem pg_sub {o i : Expr} {to ti : TE} {t : TSet} (ho : PE X o to) (hi : PE X i ti) (hs : PSet X t)
    (ha : ∀ v, assign (.Subscript o i pos) X.env v = (do
      let ov ← holding [v] (eval o X.env)
      let iv ← holding [v, ov] (eval i X.env)
      standAt pos
      holding [v, ov, iv] (setItem ov iv v)
      release [v, ov, iv] []) := by intro _; rfl) : PG X (.Subscript o i pos) (gSub to ti t) := by
  intro pins s σ H v u Q I r h
  rw [ha]
  refine wpAny_bind (wpAny_holding (thn (ho pins s σ H _ I h) fun ov s1 ⟨x, H1, I1, r1, q1⟩ => ?_))
  refine wpAny_bind (wpAny_holding (thn (hi pins s1 σ H1 _ I1 q1) fun iv s2 ⟨y, H2, I2, r2, q2⟩ => ?_))
  refine wpAny_bind (wpAny_standAt (wpAny_bind (wpAny_holding (thn (hs pins s2 σ H2 x y v ov iv u _ I2 r1 r2 r q2) fun _ s3 ⟨H3, I3, q3⟩ => ?_))))
  exact wpAny_release ⟨σ, H3, I3, q3⟩
/-- target = value -/
def tAsg (te : TE) (g : TG) : TS := fun D σ H => te σ H fun x H1 => g x σ H1 D.nx
theorem ps_asg {tg e : Expr} {te : TE} {g : TG} (he : PE X e te) (hg : PG X tg g) (hs : swapsWithSole [tg] e pos.line X.env = pure false := by rfl) (hw : swappedStores [tg] e X.env = pure none := by rfl)
    (h1 : (assignEach [tg] X.env).map (·.2) = [assign tg X.env] := by rfl) : PS X (.Assign [tg] e pos) (tAsg te g) := by
  intro pins s σ H D I h
  refine wpAny_Assign_stores (thn (he pins s σ H _ I h) fun v s1 ⟨x, H1, I1, r1, q1⟩ => ?_) hs hw
  rw [h1]
  exact thn (hg pins s1 σ H1 x v _ I1 r1 q1) fun _ s2 q => q
/-- name = value -/
theorem ps_set {i : Nat} {x : Str} {e : Expr} {te : TE} {pos' : Pos} (hN : X.N.Nodup) (hi : X.N[i]? = some x) (hx : Loc X.env.scope x) (he : PE X e te) (hs : swapsWith e (some (.Name x pos')) pos.line X.env = pure false := by rfl) (hf : X.fn x = true ∨ X.env.scope.names.lookup x = some .local := by first | exact .inl rfl | exact .inr rfl | assumption) :
    PS X (.Assign [.Name x pos'] e pos) (tAsg te (gName i)) := by
  intro pins s σ H D I h
  refine wpAny_Assign_Name (thn (he pins s σ H _ I h) fun v s1 ⟨y, H1, I1, r1, q1⟩ => ?_) hs
  exact store_ok I1 hN hi hx r1 (fun s2 I2 => ⟨_, H1, I2, q1⟩) hf
/-- a, b = x, y with plain local names: stored from the right; the pair itself is not tracked (the opening rows as in PyProof/Rows/TupAssign.lean:23) -/
def tPar (i j : Nat) (ta : TA) : TS := fun D σ H => ta σ H fun vs H1 => ∃ v w, vs = [v, w] ∧ D.nx ((σ.set i (some v)).set j (some w)) H1
theorem ps_par {i j : Nat} {x y : Str} {a b : Expr} {ta : TA} {px py pt : Pos} {kt k2 pt2} (hc : X.calm = true) (hN : X.N.Nodup) (hi : X.N[i]? = some x) (hj : X.N[j]? = some y) (hij : i ≠ j)
    (hx : X.env.scope.names.lookup x = some .local) (hy : X.env.scope.names.lookup y = some .local) (ha : PA X [a, b] ta)
    (hw : swappedStores [.Tuple [.Name x px, .Name y py] kt pt] (.Tuple [a, b] k2 pt2) X.env = pure (some [x, y]))
    (hs : swapsWithSole [.Tuple [.Name x px, .Name y py] kt pt] (.Tuple [a, b] k2 pt2) pos.line X.env = pure false := by rfl) :
    PS X (.Assign [.Tuple [.Name x px, .Name y py] kt pt] (.Tuple [a, b] k2 pt2) pos) (tPar i j ta) := by
  intro pins s σ H D I h
  rw [exec_Assign_arm]
  refine wpAny_bind (wpAny_standAt ?_)
  rw [hs]
  refine wpAny_bind (wpAny_pure ?_)
  rw [if_neg (by decide)]
  refine wpAny_bind (Tuple_ (thn (ha _ pins s σ H _ I h) fun us s1 ⟨vs, H1, I1, r1, q1⟩ => ?_))
  obtain ⟨v, w, e1, q1⟩ := q1
  subst e1
  obtain ⟨u1, u2, rfl, rv, rw'⟩ : ∃ u1 u2, us = [u1, u2] ∧ RelV v u1 ∧ RelV w u2 := by
    cases r1 with
    | cons p q =>
      cases q with
      | cons p' q' =>
        cases q'
        exact ⟨_, _, rfl, p, p'⟩
  refine wpAny_newObj_type ?_ (by show 2 ≤ sizeLine; decide)
  have I2 : Inv X pins σ H1 { s1 with heap := s1.heap.push { cls := .type "tuple", data := .seq [u1, u2].toArray } } := I1.kept (t' := s1.toks) fun b o e => Heap.get?_push_of_some _ e
  rw [hw]
  refine wpAny_bind (wpAny_pure ?_)
  show wpAny (model X.prog X.w) X.A (do rule "assign.swapped-stores"; let items ← unpackItems (.ref s1.heap.objs.size) 2 none; assignInOrder [fun v => bindName X.env y v, fun v => bindName X.env x v] items.reverse; pure Flow.next) _ _ _
  refine wpAny_bind (wpAny_rule (wpAny_bind (unpackItems_tuple (items := #[u1, u2]) (I.ok.hd hc) (IsTup.new s1.heap _) fun h' hx' => ?_)))
  have I3 := I2.kept (h' := h') (t' := s1.toks) fun b o e => hx' b o (Nat.ne_of_lt (Heap.lt_size e)) e
  show wpAny _ _ (assignInOrder [fun v => bindName X.env y v, fun v => bindName X.env x v] [u2, u1] >>= fun _ => pure Flow.next) _ _ _
  refine wpAny_bind (assignInOrder_cons (wpAny_bindName (store_ok I3 hN hj (.inl hy) rw' (fun s2 I4 => ?_) (.inr hy))))
  refine assignInOrder_cons (wpAny_bindName (store_ok I4 hN hi (.inl hx) rv (fun s3 I5 => assignInOrder_nil (wpAny_pure ?_)) (.inr hx)))
  rw [List.set_comm _ _ (Ne.symm hij)] at I5
  exact ⟨_, H1, I5, q1⟩
end

/-! ### while -/
section
variable {X : Cx} {pos : Pos}
/-- the invariant W with its measure -/
def tWhile (c : TT) (tb : TS) : TS := fun D σ H => ∃ W : Nat → St → Hp → Prop, (∃ m, W m σ H) ∧ ∀ m σ H, W m σ H →
  c σ H fun b H1 => if b = true then ∃ N : St → Hp → Prop, (∀ σ' H', N σ' H' → ∃ m', m' < m ∧ W m' σ' H') ∧ tb { D with nx := N, ct := N, bk := D.nx } σ H1 else D.nx σ H1
theorem ps_while {c : Expr} {body : List Stmt} {tc : TT} {tb : TS} (hp : PassesOwn (model X.prog X.w) X.A X.env X.xe) (hc : PT X c tc) (hb : PSs X body tb) : PS X (.While c body [] pos) (tWhile tc tb) := by
  intro pins s σ H D I h
  obtain ⟨W, ⟨m0, w0⟩, turn⟩ := h
  refine wpAny_While (codeAny_whileLoop (fun n s' => ∃ σ' H', Inv X pins σ' H' s' ∧ W n σ' H') ?_ m0 ⟨σ, H, I, w0⟩)
  rintro n s1 ⟨σ1, H1, I1, w1⟩
  refine wpAny_passesOwn hp (thn (hc pins s1 σ1 H1 _ I1 (turn n σ1 H1 w1)) fun b s2 ⟨H2, I2, q2⟩ => ?_)
  cases b with
  | true =>
    obtain ⟨N, hN, q2⟩ := q2
    rw [if_pos rfl]
    refine wpAny_passesOwn hp (thn (hb pins s2 σ1 H2 _ I2 q2) fun f s3 q3 => ?_)
    cases f with
    | next =>
      obtain ⟨σ3, H3, I3, n3⟩ := q3
      obtain ⟨m', hm, w3⟩ := hN σ3 H3 n3
      exact ⟨m', hm, σ3, H3, I3, w3⟩
    | cont =>
      obtain ⟨σ3, H3, I3, n3⟩ := q3
      obtain ⟨m', hm, w3⟩ := hN σ3 H3 n3
      exact ⟨m', hm, σ3, H3, I3, w3⟩
    | brk => exact q3
    | ret v => exact q3
  | false =>
    rw [if_neg Bool.false_ne_true]
    exact wpAny_execs_nil ⟨σ1, H2, I2, q2⟩
end

/-! ### what a loop or a comprehension walks -/
/-- at turn i: it yields x (the heap may grow), or it stops -/
structure It where
  go : Nat → Hp → Prop
  yld : Nat → Hp → V → Hp → Prop
  stop : Nat → Hp → Prop
/-- the iterator's own objects may turn: they are not the frame's, not pinned, younger than the entry (or a comprehension's own) -/
def FpOk (X : Cx) (pins : List (Addr × Obj)) (H : Hp) (b : Addr) : Prop :=
  H b = none ∧ b ≠ X.env.locals ∧ b ∉ X.fs ∧ (b ∈ X.ex ∨ X.s₀.heap.objs.size ≤ b) ∧ (∀ x c, X.env.cells.lookup x = some c → c ≠ b) ∧ ∀ p ∈ X.pn ++ pins, p.1 ≠ b
theorem Inv.fpOk {X : Cx} {pins : List (Addr × Obj)} {σ : St} {H H' : Hp} {s : Shared} {b : Addr} (I : Inv X pins σ H s) (hb : s.heap.objs.size ≤ b) (hn : H' b = none) : FpOk X pins H' b := by
  refine ⟨hn, Nat.ne_of_gt (Nat.lt_of_lt_of_le I.lt hb), I.nofs hb, .inr (Nat.le_trans I.sz hb), fun x c e z => ?_, fun p hp z => ?_⟩
  · obtain ⟨v, q⟩ := I.cell x c e
    exact absurd (Nat.lt_of_lt_of_le q.lt (by rw [z]; exact hb)) (Nat.lt_irrefl _)
  · exact absurd (Nat.lt_of_lt_of_le (Heap.lt_size (I.pin p hp).1) (by rw [z]; exact hb)) (Nat.lt_irrefl _)
structure Turn (P : Program) (w : World) (K : PySem.W.Frag) (tg : Expr) (J : It) (fp : List Addr) (it : Addr) (tn : Nat → Heap → Prop) : Prop where
  mem : it ∈ fp
  obj : ∀ i h, tn i h → ∀ b ∈ fp, ∃ o, h.get? b = some o ∧ ∀ v, o.data ≠ .cell v
  keep : ∀ i h h', tn i h → (∀ b ∈ fp, ∀ o, h.get? b = some o → h'.get? b = some o) → tn i h'
  item : ∀ (X : Cx), X.prog = P → X.w = w → X.K = K → X.calm = true → ∀ (i : Nat) (pins : List (Addr × Obj)) (s : Shared) (σ : St) (H : Hp) (E : Value → Shared → Prop), Inv X pins σ H s → (∀ b ∈ fp, FpOk X pins H b) → tn i s.heap → J.go i H →
    wpAny (model P w) X.A (pyNext (.ref it)) (fun r s1 => ∃ u, r = some u ∧
      wpAny (model P w) X.A (letOwnedTupleGo tg (.ref it) u) (fun _ s2 => ∃ x H', Inv X pins σ H' s2 ∧ RelV x u ∧ J.yld i H x H' ∧ tn (i + 1) s2.heap ∧ ∀ b ∈ fp, H' b = none) E s1) E s
  done : ∀ (X : Cx), X.prog = P → X.w = w → X.K = K → X.calm = true → ∀ (i : Nat) (pins : List (Addr × Obj)) (s : Shared) (σ : St) (H : Hp) (E : Value → Shared → Prop), Inv X pins σ H s → (∀ b ∈ fp, FpOk X pins H b) → tn i s.heap → J.stop i H →
    wpAny (model P w) X.A (pyNext (.ref it)) (fun r s1 => r = none ∧ Inv X pins σ H s1) E s
  self : ∀ (A : Around) (i : Nat) (s : Shared) (Q : Value → Shared → Prop) (E : Value → Shared → Prop), tn i s.heap → Q (.ref it) s → wpAny (model P w) A (pyIter (.ref it)) Q E s
abbrev TI := St → Hp → (It → Hp → Prop) → Prop
/-- an iterator has come -/
def PIE (X : Cx) (pins : List (Addr × Obj)) (σ : St) (tg : Expr) (R : It → Hp → Prop) (itv : Value) (s2 : Shared) : Prop :=
  ∃ (it : Addr) (fp : List Addr) (tn : Nat → Heap → Prop) (J : It) (H' : Hp), itv = .ref it ∧ Inv X pins σ H' s2 ∧ Turn X.prog X.w X.K tg J fp it tn ∧ tn 0 s2.heap ∧ (∀ b ∈ fp, FpOk X pins H' b) ∧ R J H'
def PI (X : Cx) (tg iter : Expr) (wi : TI) : Prop :=
  ∀ (pins : List (Addr × Obj)) (s : Shared) (σ : St) (H : Hp) (R : It → Hp → Prop), Inv X pins σ H s → wi σ H R →
    wpAny (model X.prog X.w) X.A (eval iter X.env) (fun v s1 => wpAny (model X.prog X.w) X.A (pyIter v) (PIE X pins σ tg R) X.xe s1) X.xe s

/-- the step ahead of the store is nothing for an iterator that keeps no tuple -/
theorem go_of {M : Model} {A : Around} {E : Value → Shared → Prop} {s : Shared} {tg : Expr} {it : Addr} {u : Value} {o : Obj} {n : String} {vs : Array Value} {Q : Unit → Shared → Prop} (ho : s.heap.get? it = some o) (hc : o.cls = .type n) (hd : o.data = .fields vs)
    (hn : ["enumerate", "zip", "dict_itemiterator", "dict_reverseitemiterator", "odict_iterator", "itertools.zip_longest", "itertools.pairwise"].contains n = false) (hQ : Q () s) : wpAny M A (letOwnedTupleGo tg (.ref it) u) Q E s := by
  unfold letOwnedTupleGo
  cases tg <;> first
    | exact wpAny_pure hQ
    | (cases u <;> first
        | exact wpAny_pure hQ
        | (refine wpAny_bind (wpAny_load ho ?_)
           rw [hc, hd]
           show wpAny M A (if (["enumerate", "zip", "dict_itemiterator", "dict_reverseitemiterator", "odict_iterator", "itertools.zip_longest", "itertools.pairwise"].contains n && vs[0]? == some (rawInt _)) = true then _ else _) Q E s
           rw [if_neg (by intro h; rw [hn, Bool.false_and] at h; cases h)]
           exact wpAny_pure hQ))

/-- the list at a, as it stands at each turn (a loop may append to it) -/
def Itl (K : PySem.W.Frag) (a : Addr) : It :=
  ⟨fun i H => ∃ xs x, SqL K H a xs ∧ xs[i]? = some x, fun i H x H' => H' = H ∧ ∀ xs, SqL K H a xs → xs[i]? = some x, fun i H => ∃ xs, SqL K H a xs ∧ xs.length ≤ i⟩
def Itt (K : PySem.W.Frag) (a : Addr) : It :=
  ⟨fun i H => ∃ xs x, SqT K H a xs ∧ xs[i]? = some x, fun i H x H' => H' = H ∧ ∀ xs, SqT K H a xs → xs[i]? = some x, fun i H => ∃ xs, SqT K H a xs ∧ xs.length ≤ i⟩
/-- lo, lo + 1, .. (n of them) -/
def Itr (lo : Int) (n : Nat) : It := ⟨fun i _ => i < n, fun i H x H' => H' = H ∧ x = .int (lo + i), fun i _ => n ≤ i⟩
theorem turn_list {P : Program} {w : World} {K : PySem.W.Frag} {tg : Expr} (a it : Addr) : Turn P w K tg (Itl K a) [it] it (fun i h => h.IsListIter it a i) where
  mem := by simp
  obj := fun i h st b hb => by
    have e : b = it := by simpa using hb
    subst e
    obtain ⟨o, e, c, d⟩ := st
    exact ⟨o, e, fun v z => by rw [d] at z; cases z⟩
  keep := fun i h h' st k => st.at fun o e => k it (by simp) o e
  item := by
    intro X hP hw hK hc i pins s σ H E I hf st hg
    subst hP hw hK
    obtain ⟨xs, x, hq, hx⟩ := hg
    obtain ⟨its, rv, p, hz⟩ := I.list hq
    obtain ⟨u, hu, ru⟩ := rv.get hx
    obtain ⟨f0, f1, f2, f3, f4, f5⟩ := hf it (by simp)
    refine wpAny_pyNext_list_item st p.isList (x := u) (by simpa using hu) fun h' st' sb => ?_
    have I1 : Inv X pins σ H { s with heap := h' } := I.turned (t' := s.toks) (fun b o hb e => (sb.2 b hb).trans e) f0 f1 f3 f4 f5
    obtain ⟨o, e, c, d⟩ := id st'
    exact ⟨u, rfl, go_of (s := { s with heap := h' }) e c d (by decide) ⟨x, H, I1, ru, ⟨rfl, fun ys hy => by rw [I.list_inj hy hq]; exact hx⟩, st', fun b hb => (hf b hb).1⟩⟩
  done := by
    intro X hP hw hK hc i pins s σ H E I hf st hg
    subst hP hw hK
    obtain ⟨xs, hq, hx⟩ := hg
    obtain ⟨its, rv, p, hz⟩ := I.list hq
    obtain ⟨f0, f1, f2, f3, f4, f5⟩ := hf it (by simp)
    have hl := rv.length
    exact wpAny_pyNext_list_end (I.ok.hd hc) st p.isList (by simp; omega) fun h' eb => ⟨rfl, I.turned (t' := s.toks) (fun b o hb e => eb b o hb e) f0 f1 f3 f4 f5⟩
  self := fun _ _ _ _ _ st h => wpAny_pyIter_listiter st h
theorem turn_tuple {P : Program} {w : World} {K : PySem.W.Frag} {tg : Expr} (a it : Addr) : Turn P w K tg (Itt K a) [it] it (fun i h => h.IsTupleIter it a i) where
  mem := by simp
  obj := fun i h st b hb => by
    have e : b = it := by simpa using hb
    subst e
    obtain ⟨o, e, c, d⟩ := st
    exact ⟨o, e, fun v z => by rw [d] at z; cases z⟩
  keep := fun i h h' st k => st.at fun o e => k it (by simp) o e
  item := by
    intro X hP hw hK hc i pins s σ H E I hf st hg
    subst hP hw hK
    obtain ⟨xs, x, hq, hx⟩ := hg
    obtain ⟨its, rv, p, hz⟩ := I.tuple hq
    obtain ⟨u, hu, ru⟩ := rv.get hx
    obtain ⟨f0, f1, f2, f3, f4, f5⟩ := hf it (by simp)
    refine wpAny_pyNext_tuple_item st (show s.heap.IsTuple a its.toArray from p) (x := u) (by simpa using hu) fun h' st' sb => ?_
    have I1 : Inv X pins σ H { s with heap := h' } := I.turned (t' := s.toks) (fun b o hb e => (sb.2 b hb).trans e) f0 f1 f3 f4 f5
    obtain ⟨o, e, c, d⟩ := id st'
    exact ⟨u, rfl, go_of (s := { s with heap := h' }) e c d (by decide) ⟨x, H, I1, ru, ⟨rfl, fun ys hy => by rw [I.tuple_inj hy hq]; exact hx⟩, st', fun b hb => (hf b hb).1⟩⟩
  done := by
    intro X hP hw hK hc i pins s σ H E I hf st hg
    subst hP hw hK
    obtain ⟨xs, hq, hx⟩ := hg
    obtain ⟨its, rv, p, hz⟩ := I.tuple hq
    obtain ⟨f0, f1, f2, f3, f4, f5⟩ := hf it (by simp)
    have hl := rv.length
    exact wpAny_pyNext_tuple_end (I.ok.hd hc) st (show s.heap.IsTuple a its.toArray from p) (by simp; omega) fun h' eb => ⟨rfl, I.turned (t' := s.toks) (fun b o hb e => eb b o hb e) f0 f1 f3 f4 f5⟩
  self := fun _ _ _ _ _ st h => wpAny_pyIter_tupleiter st h
theorem turn_range {P : Program} {w : World} {K : PySem.W.Frag} {tg : Expr} (it : Addr) (lo : Int) (n : Nat) : Turn P w K tg (Itr lo n) [it] it (fun i h => IsRangeIter h it (lo + (i : Nat) * 1) ((n : Int) - (i : Nat)) 1) where
  mem := by simp
  obj := fun i h st b hb => by
    have e : b = it := by simpa using hb
    subst e
    exact ⟨_, st, fun v z => by
      have z' : Data.fields _ = Data.cell v := z
      cases z'⟩
  keep := fun i h h' st k => k it (by simp) _ st
  item := by
    intro X hP hw hK hc i pins s σ H E I hf st hg
    subst hP hw hK
    obtain ⟨f0, f1, f2, f3, f4, f5⟩ := hf it (by simp)
    have W := Walks.range (prog := X.prog) (w := X.w) (I.ok.hd hc) it lo 1 n
    refine W.item i s _ _ hg st fun v h' tk hv st' kk => ?_
    obtain ⟨t, rfl⟩ := hv
    have I1 : Inv X pins σ H { s with heap := h', toks := tk } := I.turned (fun b o hb e => kk b o (by simpa using hb) e) f0 f1 f3 f4 f5
    refine ⟨_, rfl, go_of (s := { s with heap := h', toks := tk }) (n := "range_iterator") st' rfl rfl (by decide) ⟨.int (lo + i), H, I1, ⟨t, ?_⟩, ⟨rfl, rfl⟩, st', fun b hb => (hf b hb).1⟩⟩
    rw [Int.mul_one]
  done := by
    intro X hP hw hK hc i pins s σ H E I hf st hg
    subst hP hw hK
    obtain ⟨f0, f1, f2, f3, f4, f5⟩ := hf it (by simp)
    exact wpAny_pyNext_range_end (I.ok.hd hc) st (by have : n ≤ i := hg; omega) fun h' eb => ⟨rfl, I.turned (t' := s.toks) (fun b o hb e => eb b o hb e) f0 f1 f3 f4 f5⟩
  self := fun _ _ _ _ _ st h => wpAny_pyIter_rangeiter st h
end L2

namespace L2
open PySem PySem.Spec PyProof.Rows
section
variable {X : Cx} {tg : Expr}
def iList (K : PySem.W.Frag) (tl : TE) : TI := fun σ H R => tl σ H fun x H1 => ∃ a, x = .ref a ∧ (∃ xs, SqL K H1 a xs) ∧ R (Itl K a) H1
def iTup (K : PySem.W.Frag) (tl : TE) : TI := fun σ H R => tl σ H fun x H1 => ∃ a, x = .ref a ∧ (∃ xs, SqT K H1 a xs) ∧ R (Itt K a) H1
theorem pi_list {l : Expr} {tl : TE} (hl : PE X l tl) : PI X tg l (iList X.K tl) := by
  intro pins s σ H R I h
  refine thn (hl pins s σ H _ I h) fun v s1 ⟨x, H1, I1, r1, q1⟩ => ?_
  obtain ⟨a, e, ⟨xs, hq⟩, q⟩ := q1
  subst e
  cases r1
  obtain ⟨its, rv, p, hz⟩ := I1.list hq
  refine wpAny_pyIter_list p.isList ?_
  refine ⟨s1.heap.objs.size, [s1.heap.objs.size], _, _, H1, rfl, I1.kept (t' := s1.toks) fun b o e => Heap.get?_push_of_some _ e, turn_list a _, ⟨_, Heap.get?_push_size _ rfl, rfl, rfl⟩, fun b hb => ?_, q⟩
  have e : b = s1.heap.objs.size := by simpa using hb
  subst e
  exact I1.fpOk (Nat.le_refl _) (I1.hok.fresh (Nat.le_refl _))
theorem pi_tup {l : Expr} {tl : TE} (hl : PE X l tl) : PI X tg l (iTup X.K tl) := by
  intro pins s σ H R I h
  refine thn (hl pins s σ H _ I h) fun v s1 ⟨x, H1, I1, r1, q1⟩ => ?_
  obtain ⟨a, e, ⟨xs, hq⟩, q⟩ := q1
  subst e
  cases r1
  obtain ⟨its, rv, p, hz⟩ := I1.tuple hq
  refine wpAny_pyIter_tuple (show s1.heap.IsTuple a its.toArray from p) ?_
  refine ⟨s1.heap.objs.size, [s1.heap.objs.size], _, _, H1, rfl, I1.kept (t' := s1.toks) fun b o e => Heap.get?_push_of_some _ e, turn_tuple a _, ⟨_, Heap.get?_push_size _ rfl, rfl, rfl⟩, fun b hb => ?_, q⟩
  have e : b = s1.heap.objs.size := by simpa using hb
  subst e
  exact I1.fpOk (Nat.le_refl _) (I1.hok.fresh (Nat.le_refl _))
/-- a range object just made, walked -/
theorem range_it {pins : List (Addr × Obj)} {σ : St} {H : Hp} {s : Shared} {R : It → Hp → Prop} {E : Value → Shared → Prop} {lo hi : Int} {t u v : Tok} {tk : Nat} (I : Inv X pins σ H s) (h1 : -(2 ^ 62) ≤ lo) (h2 : lo < 2 ^ 62) (h3 : -(2 ^ 62) ≤ hi) (h4 : hi < 2 ^ 62)
    (q : R (Itr lo (hi - lo).toNat) H) : wpAny (model X.prog X.w) X.A (pyIter (.ref s.heap.objs.size)) (PIE X pins σ tg R) E { s with heap := s.heap.push { cls := .type "range", data := .fields #[.int lo t, .int hi u, .int 1 v] }, toks := tk } := by
  refine wpAny_pyIter_range (IsRange.new ..) (small_one h1 h2 h3 h4) ?_
  have I1 : Inv X pins σ H { s with heap := s.heap.push { cls := .type "range", data := .fields #[.int lo t, .int hi u, .int 1 v] }, toks := tk } := I.kept fun b o e => Heap.get?_push_of_some _ e
  refine ⟨(s.heap.push { cls := .type "range", data := .fields #[.int lo t, .int hi u, .int 1 v] }).objs.size, [(s.heap.push { cls := .type "range", data := .fields #[.int lo t, .int hi u, .int 1 v] }).objs.size], _, _, H, rfl,
    I1.kept (t' := tk) fun b o e => Heap.get?_push_of_some _ e, turn_range _ lo (hi - lo).toNat, ?_, fun b hb => ?_, q⟩
  · have e1 : lo + ((0 : Nat) : Int) * 1 = lo := by simp
    have e2 : (((hi - lo).toNat : Nat) : Int) - ((0 : Nat) : Int) = Builtin.Range.rangeSize lo hi 1 := by rw [rangeSize_one]; split <;> omega
    show IsRangeIter _ _ (lo + ((0 : Nat) : Int) * 1) ((((hi - lo).toNat : Nat) : Int) - ((0 : Nat) : Int)) 1
    rw [e1, e2]
    exact Heap.get?_push_size _ rfl
  · have e : b = (s.heap.push { cls := .type "range", data := .fields #[.int lo t, .int hi u, .int 1 v] }).objs.size := by simpa using hb
    subst e
    exact I1.fpOk (Nat.le_refl _) (I1.hok.fresh (Nat.le_refl _))
def iRng1 (ta : TA) : TI := fun σ H R => ta σ H fun vs H1 => ∃ j : Int, vs = [.int j] ∧ -(2 ^ 62) ≤ j ∧ j < 2 ^ 62 ∧ R (Itr 0 j.toNat) H1
theorem pi_range1 {a : Expr} {ta : TA} {p pos : Pos} (hg : Gl X "range") (hm : X.mg "range" = none) (ha : PA X [a] ta) (hs : starEach [a] X.env = [(false, eval a X.env)] := by rfl) : PI X tg (.Call (.Name "range" p) [a] [] pos) (iRng1 ta) := by
  intro pins s σ H R I h
  refine Call_ (ld_blt I hg hm boot_range (PyProof.Rows.callWith_type1 (thn (ha pos pins s σ H _ I h) fun us s1 ⟨vs, H1, I1, r1, q1⟩ => ?_) hs rfl))
  obtain ⟨j, e, q1, q2, q⟩ := q1
  subst e
  cases r1 with
  | cons r rr =>
    cases rr
    obtain ⟨t, rfl⟩ := r
    exact call_range_1 (range_it I1 (by omega) (by omega) q1 q2 (by simpa using q))
/-! ### for -/
/-- W: the invariant by the turn and a measure; N: what the body is to reach -/
def tFor (wi : TI) (g : TG) (tb : TS) : TS := fun D σ H => wi σ H fun J H1 => ∃ W : Nat → Nat → St → Hp → Prop, (∃ m, W 0 m σ H1) ∧ ∀ i m σ H, W i m σ H →
  (J.stop i H ∧ D.nx σ H) ∨ (J.go i H ∧ ∃ N : St → Hp → Prop, (∀ σ' H', N σ' H' → ∃ m', m' < m ∧ W (i + 1) m' σ' H') ∧ ∀ x H', J.yld i H x H' → g x σ H' fun σ2 H2 => tb { D with nx := N, ct := N, bk := D.nx } σ2 H2)
/-- the records at fp as they stand -/
def pinsAt (fp : List Addr) (h : Heap) : List (Addr × Obj) := fp.filterMap fun b => (h.get? b).map fun o => (b, o)
theorem mem_pinsAt {fp : List Addr} {h : Heap} {b : Addr} {o : Obj} (hb : b ∈ fp) (e : h.get? b = some o) : (b, o) ∈ pinsAt fp h := List.mem_filterMap.mpr ⟨b, hb, by rw [e]; rfl⟩
theorem of_pinsAt {fp : List Addr} {h : Heap} {p : Addr × Obj} (hp : p ∈ pinsAt fp h) : p.1 ∈ fp ∧ h.get? p.1 = some p.2 := by
  obtain ⟨b, hb, e⟩ := List.mem_filterMap.mp hp
  cases q : h.get? b with
  | none => rw [q] at e; cases e
  | some o =>
    rw [q] at e
    have e' : (b, o) = p := Option.some.inj e
    subst e'
    exact ⟨hb, q⟩
theorem Inv.pinned {pins : List (Addr × Obj)} {σ : St} {H : Hp} {s : Shared} {fp : List Addr} (I : Inv X pins σ H s) (hf : ∀ b ∈ fp, FpOk X pins H b) (ho : ∀ b ∈ fp, ∃ o, s.heap.get? b = some o ∧ ∀ v, o.data ≠ .cell v) : Inv X (pins ++ pinsAt fp s.heap) σ H s :=
  I.pins_of fun p hp => (List.mem_append.mp hp).elim (fun z => I.pin p (List.mem_append_right _ z)) fun z => by
    obtain ⟨hb, e⟩ := of_pinsAt z
    obtain ⟨f0, f1, f2, _⟩ := hf p.1 hb
    obtain ⟨o, e', d⟩ := ho p.1 hb
    rw [e] at e'; cases e'
    exact ⟨e, f0, f1, f2, d⟩
theorem Inv.unpinned {pins pl : List (Addr × Obj)} {σ : St} {H : Hp} {s : Shared} (I : Inv X (pins ++ pl) σ H s) : Inv X pins σ H s := I.pins_of fun p hp => I.pin p (List.mem_append_right _ (List.mem_append_left _ hp))
theorem ps_for {iter : Expr} {body : List Stmt} {wi : TI} {g : TG} {tb : TS} {pos : Pos} (hp : PassesOwn (model X.prog X.w) X.A X.env X.xe) (hc : X.calm = true) (hi : PI X tg iter wi) (hg : PG X tg g) (hb : PSs X body tb)
    (hs : ∀ x, foldedSetIterable iter X.env x = pure x := by intro _; rfl) : PS X (.For tg iter body [] pos) (tFor wi g tb) := by
  intro pins s σ H D I h
  refine wpAny_For (thn (hi pins s σ H _ I h) fun v s1 h1 => thn h1 fun itv s2 h2 => ?_) hs
  obtain ⟨it, fp, tn, J, H2, e, I2, T, st2, f2, W, ⟨m0, w0⟩, turn⟩ := h2
  subst e
  -- what stays true of the iterator's objects through the loop
  have stat : ∀ {H' : Hp}, (∀ b ∈ fp, H' b = none) → ∀ b ∈ fp, FpOk X pins H' b := fun hn b hb => ⟨hn b hb, (f2 b hb).2⟩
  refine codeAny_forLoop_any (fun n s' => ∃ i σ' H', Inv X pins σ' H' s' ∧ tn i s'.heap ∧ (∀ b ∈ fp, H' b = none) ∧ W i n σ' H') ?_ m0 ⟨0, σ, H2, I2, st2, fun b hb => (f2 b hb).1, w0⟩
  rintro n s3 ⟨i, σ3, H3, I3, st3, fr3, w3⟩
  rcases turn i n σ3 H3 w3 with ⟨stop, qn⟩ | ⟨go, N, hN, step⟩
  · refine wpAny_passesOwn hp (thn (T.done X rfl rfl rfl hc i pins s3 σ3 H3 X.xe I3 (stat fr3) st3 stop) fun r s4 ⟨hr, I4⟩ => ?_)
    subst hr
    exact wpAny_execs_nil ⟨σ3, H3, I4, qn⟩
  · refine wpAny_passesOwn hp (thn (T.item X rfl rfl rfl hc i pins s3 σ3 H3 X.xe I3 (stat fr3) st3 go) fun r s4 ⟨u, hr, h4⟩ => ?_)
    subst hr
    refine wpAny_passesOwn hp (thn h4 fun _ s5 ⟨x, H5, I5, r5, y5, st5, fr5⟩ => ?_)
    have I5' := I5.pinned (stat fr5) (T.obj _ _ st5)
    refine wpAny_passesOwn hp (thn (hg _ s5 σ3 H5 x u _ I5' r5 (step x H5 y5)) fun _ s6 ⟨σ6, H6, I6, q6⟩ => ?_)
    refine wpAny_passesOwn hp (thn (hb _ s6 σ6 H6 _ I6 q6) fun f s7 q7 => ?_)
    have again : ∀ {σ7 : St} {H7 : Hp}, Inv X (pins ++ pinsAt fp s5.heap) σ7 H7 s7 → N σ7 H7 → ∃ m, m < n ∧ ∃ i σ' H', Inv X pins σ' H' s7 ∧ tn i s7.heap ∧ (∀ b ∈ fp, H' b = none) ∧ W i m σ' H' := fun {σ7 H7} I7 n7 => by
      obtain ⟨m', hm, w7⟩ := hN σ7 H7 n7
      refine ⟨m', hm, i + 1, σ7, H7, I7.unpinned, T.keep _ _ _ st5 fun b hb o e => (I7.pin (b, o) (List.mem_append_right _ (List.mem_append_right _ (mem_pinsAt hb e)))).1, fun b hb => ?_, w7⟩
      obtain ⟨o, e, d⟩ := T.obj _ _ st5 b hb
      exact (I7.pin (b, o) (List.mem_append_right _ (List.mem_append_right _ (mem_pinsAt hb e)))).2.1
    cases f with
    | next => obtain ⟨σ7, H7, I7, n7⟩ := q7; exact again I7 n7
    | cont => obtain ⟨σ7, H7, I7, n7⟩ := q7; exact again I7 n7
    | brk => obtain ⟨σ7, H7, I7, q7⟩ := q7; exact ⟨σ7, H7, I7.unpinned, q7⟩
    | ret v => obtain ⟨x7, σ7, H7, I7, r7, q7⟩ := q7; exact ⟨x7, σ7, H7, I7.unpinned, r7, q7⟩
end

/-! ### the forms one uses -/
theorem for_range {lo : Int} {n : Nat} {g : TG} {tb : TS} {D : Ends} {σ : St} {H : Hp} (Pv : Nat → St → Hp → Prop) (h0 : Pv 0 σ H)
    (hs : ∀ i σ H, i < n → Pv i σ H → g (.int (lo + i)) σ H fun σ2 H2 => tb { D with nx := Pv (i + 1), ct := Pv (i + 1), bk := D.nx } σ2 H2) (hd : ∀ σ H, Pv n σ H → D.nx σ H) :
    ∃ W : Nat → Nat → St → Hp → Prop, (∃ m, W 0 m σ H) ∧ ∀ i m σ H, W i m σ H →
      ((Itr lo n).stop i H ∧ D.nx σ H) ∨ ((Itr lo n).go i H ∧ ∃ N : St → Hp → Prop, (∀ σ' H', N σ' H' → ∃ m', m' < m ∧ W (i + 1) m' σ' H') ∧ ∀ x H', (Itr lo n).yld i H x H' → g x σ H' fun σ2 H2 => tb { D with nx := N, ct := N, bk := D.nx } σ2 H2) := by
  refine ⟨fun i m σ H => m = n - i ∧ i ≤ n ∧ Pv i σ H, ⟨n, by simp, Nat.zero_le _, h0⟩, ?_⟩
  rintro i m σ H ⟨rfl, hi, p⟩
  by_cases hlt : i < n
  · refine .inr ⟨hlt, Pv (i + 1), fun σ' H' p' => ⟨n - (i + 1), by omega, rfl, hlt, p'⟩, fun x H' y => ?_⟩
    obtain ⟨e, y⟩ := y
    subst e y
    exact hs i σ _ hlt p
  · have e : i = n := by omega
    subst e
    exact .inl ⟨Nat.le_refl _, hd σ H p⟩
end L2

namespace L2
open PySem PySem.Spec PyProof.Rows

abbrev R2 := V → V → Hp → VK → Prop
/-- a two-place operation on values: f is binaryOp op, inplaceOp op or compareOp op -/
def OpR (X : Cx) (f : Value → Value → Sem Value) (r : R2) : Prop :=
  ∀ (pins : List (Addr × Obj)) (s : Shared) (σ : St) (H : Hp) (x y : V) (v u : Value) (Q : VK), Inv X pins σ H s → RelV x v → RelV y u → r x y H Q →
    wpAny (model X.prog X.w) X.A (f v u) (EP X pins σ Q) X.xe s
/-- a one-place operation -/
def UnR (X : Cx) (f : Value → Sem Value) (r : V → Hp → VK → Prop) : Prop :=
  ∀ (pins : List (Addr × Obj)) (s : Shared) (σ : St) (H : Hp) (x : V) (v : Value) (Q : VK), Inv X pins σ H s → RelV x v → r x H Q →
    wpAny (model X.prog X.w) X.A (f v) (EP X pins σ Q) X.xe s
/-- a call of a value that is known (a builtin, a type) with values -/
def CallR (X : Cx) (f : Value) (r : List V → Hp → VK → Prop) : Prop :=
  ∀ (pins : List (Addr × Obj)) (s : Shared) (σ : St) (H : Hp) (xs : List V) (us : List Value) (Q : VK), Inv X pins σ H s → Vals xs us → r xs H Q →
    wpAny (model X.prog X.w) X.A (call f us) (EP X pins σ Q) X.xe s
def tOp (r : R2) (ta tb : TE) : TE := fun σ H Q => ta σ H fun x H1 => tb σ H1 fun y H2 => r x y H2 Q
def tUn (r : V → Hp → VK → Prop) (ta : TE) : TE := fun σ H Q => ta σ H fun x H1 => r x H1 Q
/-- ints in, under C, and a value out -/
def rI (C : Int → Int → Prop) (g : Int → Int → V) : R2 := fun x y H Q => ∃ i j, x = .int i ∧ y = .int j ∧ C i j ∧ Q (g i j) H
def rI0 (g : Int → Int → V) : R2 := fun x y H Q => ∃ i j, x = .int i ∧ y = .int j ∧ Q (g i j) H
def rU (g : Int → V) : V → Hp → VK → Prop := fun x H Q => ∃ i, x = .int i ∧ Q (g i) H

section
variable {X : Cx} {a b c : Expr} {ta tb tc : TE} {pos : Pos}

theorem binT (ha : PE X a ta) (hb : PE X b tb) {pins : List (Addr × Obj)} {s : Shared} {σ : St} {H : Hp} {R : V → V → Hp → Prop} (I : Inv X pins σ H s)
    (h : ta σ H fun x H1 => tb σ H1 fun y H2 => R x y H2) {Q : Value → Shared → Prop} {f : Value → Value → Sem Value}
    (hf : ∀ v u s2 x y H2, Inv X pins σ H2 s2 → RelV x v → RelV y u → R x y H2 → wpAny (model X.prog X.w) X.A (f v u) Q X.xe s2) :
    wpAny (model X.prog X.w) X.A (eval a X.env) (fun v s₁ => wpAny (model X.prog X.w) X.A (eval b X.env) (fun u s₂ => wpAny (model X.prog X.w) X.A (f v u) Q X.xe s₂) X.xe s₁) X.xe s := by
  refine thn (ha pins s σ H _ I h) fun v s1 ⟨x, H1, I1, r1, q1⟩ => ?_
  refine thn (hb pins s1 σ H1 _ I1 q1) fun u s2 ⟨y, H2, I2, r2, q2⟩ => ?_
  exact hf v u s2 x y H2 I2 r1 r2 q2

theorem pe_op {op : Operator} {r : R2} (ho : OpR X (binaryOp op) r) (ha : PE X a ta) (hb : PE X b tb) : PE X (.BinOp a op b pos) (tOp r ta tb) := by
  intro pins s σ H Q I h
  exact wpAny_BinOp (binT ha hb I h fun v u s2 x y H2 I2 rx ry q => ho pins s2 σ H2 x y v u Q I2 rx ry q)
theorem pe_un {op : UnaryOp} {r : V → Hp → VK → Prop} (ho : UnR X (unaryOp op) r) (ha : PE X a ta) : PE X (.UnaryOp op a pos) (tUn r ta) := by
  intro pins s σ H Q I h
  exact UnaryOp_ (thn (ha pins s σ H _ I h) fun v s1 ⟨x, H1, I1, r1, q1⟩ => ho pins s1 σ H1 x v Q I1 r1 q1)
/-! ### ints -/
theorem opI {f : Value → Value → Sem Value} {C : Int → Int → Prop} {g : Int → Int → Int}
    (rule : ∀ (i j : Int) (t u : Tok) (s : Shared) (Q : Value → Shared → Prop) (E : Value → Shared → Prop), C i j → Q (.int (g i j) s.toks) { s with toks := s.toks + 1 } → wpAny (model X.prog X.w) X.A (f (.int i t) (.int j u)) Q E s) :
    OpR X f (rI C fun i j => .int (g i j)) := by
  intro pins s σ H x y v u Q I rx ry h
  obtain ⟨i, j, rfl, rfl, hc, q⟩ := h
  obtain ⟨t, rfl⟩ := rx
  obtain ⟨t', rfl⟩ := ry
  exact rule i j t t' s _ _ hc ⟨.int (g i j), H, I.tok _, ⟨_, rfl⟩, q⟩
theorem opI0 {f : Value → Value → Sem Value} {g : Int → Int → Int}
    (rule : ∀ (i j : Int) (t u : Tok) (s : Shared) (Q : Value → Shared → Prop) (E : Value → Shared → Prop), Q (.int (g i j) s.toks) { s with toks := s.toks + 1 } → wpAny (model X.prog X.w) X.A (f (.int i t) (.int j u)) Q E s) :
    OpR X f (rI0 fun i j => .int (g i j)) := by
  intro pins s σ H x y v u Q I rx ry h
  obtain ⟨i, j, rfl, rfl, q⟩ := h
  obtain ⟨t, rfl⟩ := rx
  obtain ⟨t', rfl⟩ := ry
  exact rule i j t t' s _ _ ⟨.int (g i j), H, I.tok _, ⟨_, rfl⟩, q⟩
theorem opB0 {f : Value → Value → Sem Value} {g : Int → Int → Bool}
    (rule : ∀ (i j : Int) (t u : Tok) (s : Shared) (Q : Value → Shared → Prop) (E : Value → Shared → Prop), Q (.bool (g i j)) s → wpAny (model X.prog X.w) X.A (f (.int i t) (.int j u)) Q E s) :
    OpR X f (rI0 fun i j => .bl (g i j)) := by
  intro pins s σ H x y v u Q I rx ry h
  obtain ⟨i, j, rfl, rfl, q⟩ := h
  obtain ⟨t, rfl⟩ := rx
  obtain ⟨t', rfl⟩ := ry
  exact rule i j t t' s _ _ ⟨.bl (g i j), H, I, rfl, q⟩

def CDiv (i j : Int) : Prop := 0 < j ∧ j < 1073741824
def CPow (i j : Int) : Prop := 0 ≤ j ∧ j ≤ 1000000 ∧ i.natAbs < 2 ^ 64
def CMul (i j : Int) : Prop := (-(2 ^ 64) < i ∧ i < 2 ^ 64) ∨ (-(2 ^ 64) < j ∧ j < 2 ^ 64)
theorem CMul.ok {i j : Int} (h : CMul i j) : IntMulOk i j := by
  rcases h with ⟨h1, h2⟩ | ⟨h1, h2⟩
  · exact .of_left (intBits_le_64 h1 h2)
  · exact .of_right (intBits_le_64 h1 h2)
theorem op_add : OpR X (binaryOp .Add) (rI0 fun i j => .int (i + j)) := opI0 fun _ _ _ _ _ _ _ q => add_int q
theorem op_sub : OpR X (binaryOp .Sub) (rI0 fun i j => .int (i - j)) := opI0 fun _ _ _ _ _ _ _ q => sub_int q
theorem op_mul : OpR X (binaryOp .Mult) (rI CMul fun i j => .int (i * j)) := opI fun _ _ _ _ _ _ _ hc q => mul_int q hc.ok
/-- // by a positive divisor -/
theorem op_fdiv : OpR X (binaryOp .FloorDiv) (rI CDiv fun i j => .int (i / j)) := opI fun i j _ _ _ _ _ hc q => by
  have h1 : (0 : Int) < j := hc.1
  have h2 : j < 1073741824 := hc.2
  exact floordiv_int (by omega) (by rw [Int.fdiv_eq_ediv_of_nonneg i (by omega)]; exact q) (.inl (PyProof.noPylong_small (by omega)))
/-- % by a positive divisor of any size -/
theorem op_mod : OpR X (binaryOp .Mod) (rI (fun _ j => 0 < j) fun i j => .int (i % j)) := opI fun i j _ _ _ _ _ hc q => by
  have h1 : (0 : Int) < j := hc
  exact mod_int' (by omega) (by rw [Int.fmod_eq_emod_of_nonneg i (by omega)]; exact q)
theorem op_modN : OpR X (binaryOp .Mod) (rI (fun _ j => j ≠ 0) fun i j => .int (i.fmod j)) := opI fun _ _ _ _ _ _ _ hc q => mod_int' hc q
theorem op_pow : OpR X (binaryOp .Pow) (rI CPow fun i j => .int (i ^ j.toNat)) := opI fun _ _ _ _ _ _ _ hc q => pow_int_small hc.1 hc.2.1 hc.2.2 q
theorem unI {f : Value → Sem Value} {g : Int → Int}
    (rule : ∀ (i : Int) (t : Tok) (s : Shared) (Q : Value → Shared → Prop) (E : Value → Shared → Prop), Q (.int (g i) s.toks) { s with toks := s.toks + 1 } → wpAny (model X.prog X.w) X.A (f (.int i t)) Q E s) :
    UnR X f (rU fun i => .int (g i)) := by
  intro pins s σ H x v Q I rx h
  obtain ⟨i, rfl, q⟩ := h
  obtain ⟨t, rfl⟩ := rx
  exact rule i t s _ _ ⟨.int (g i), H, I.tok _, ⟨_, rfl⟩, q⟩
theorem un_neg : UnR X (unaryOp .USub) (rU fun i => .int (-i)) := unI fun _ _ _ _ _ q => neg_int q
/-! ### bools among ints: n += (a < b) -/
end

/-! ### comparisons -/
/-- the scalars that == tells apart as data does -/
def scal : V → V → Bool
  | .non, .non => true | .non, .int _ => true | .int _, .non => true | .non, .bl _ => true | .bl _, .non => true | .non, .str _ => true | .str _, .non => true
  | .int _, .int _ => true | .bl _, .bl _ => true | .str _, .str _ => true | .byt _, .byt _ => true
  | .int _, .str _ => true | .str _, .int _ => true | .bl _, .str _ => true | .str _, .bl _ => true
  | _, _ => false
def rEq : R2 := fun x y H Q => scal x y = true ∧ Q (.bl (decide (x = y))) H
def rNe : R2 := fun x y H Q => scal x y = true ∧ Q (.bl (!decide (x = y))) H

theorem dec_int {i j : Int} : decide (V.int i = V.int j) = (i == j) := by
  rw [Bool.eq_iff_iff]
  simp
theorem dec_bl {i j : Bool} : decide (V.bl i = V.bl j) = (i == j) := by
  rw [Bool.eq_iff_iff]
  simp
theorem dec_str {i j : Str} : decide (V.str i = V.str j) = (i == j) := by
  rw [Bool.eq_iff_iff]
  simp
theorem dec_byt {i j : Array UInt8} : decide (V.byt i = V.byt j) = (i.toList == j.toList) := by
  rw [Bool.eq_iff_iff]
  cases i
  cases j
  simp

section
variable {X : Cx} {a b c : Expr} {ta tb tc : TE} {pos : Pos}
theorem fin_bl {pins : List (Addr × Obj)} {σ : St} {H : Hp} {s : Shared} {Q : VK} {k k' : Bool} (I : Inv X pins σ H s) (q : Q (.bl k) H) (e : k = k') : EP X pins σ Q (.bool k') s := by
  subst e
  exact ⟨.bl k, H, I, rfl, q⟩
theorem op_eq : OpR X (compareOp .Eq) rEq := by
  intro pins s σ H x y v u Q I rx ry h
  obtain ⟨hs, q⟩ := h
  cases x with
  | non =>
    cases rx
    cases y with
    | non => cases ry; exact PySem.EqNone.eq_none_none (fin_bl I q (by simp))
    | bl j => cases ry; exact PySem.EqNone.eq_none_bool (fin_bl I q (by simp))
    | int j => obtain ⟨t', rfl⟩ := ry; exact PySem.EqNone.eq_none_int (fin_bl I q (by simp))
    | str j => obtain ⟨t', rfl⟩ := ry; exact PySem.EqNone.eq_none_str (fin_bl I q (by simp))
    | _ => exact absurd (show false = true from hs) Bool.false_ne_true
  | bl i =>
    cases rx
    cases y with
    | non => cases ry; exact PySem.EqNone.eq_bool_none (fin_bl I q (by simp))
    | bl j => cases ry; exact eq_bool (fin_bl I q dec_bl)
    | str j => obtain ⟨t', rfl⟩ := ry; exact PySem.EqMixed.eq_bool_str (fin_bl I q (by simp))
    | _ => exact absurd (show false = true from hs) Bool.false_ne_true
  | int i =>
    obtain ⟨t, rfl⟩ := rx
    cases y with
    | non => cases ry; exact PySem.EqNone.eq_int_none (fin_bl I q (by simp))
    | int j => obtain ⟨t', rfl⟩ := ry; exact eq_int (fin_bl I q dec_int)
    | str j => obtain ⟨t', rfl⟩ := ry; exact PySem.EqMixed.eq_int_str (fin_bl I q (by simp))
    | _ => exact absurd (show false = true from hs) Bool.false_ne_true
  | str i =>
    obtain ⟨t, rfl⟩ := rx
    cases y with
    | non => cases ry; exact PySem.EqNone.eq_str_none (fin_bl I q (by simp))
    | bl j => cases ry; exact PySem.EqMixed.eq_str_bool (fin_bl I q (by simp))
    | int j => obtain ⟨t', rfl⟩ := ry; exact PySem.EqMixed.eq_str_int (fin_bl I q (by simp))
    | str j => obtain ⟨t', rfl⟩ := ry; exact eq_str (fin_bl I q dec_str)
    | _ => exact absurd (show false = true from hs) Bool.false_ne_true
  | byt i =>
    obtain ⟨t, rfl⟩ := rx
    cases y with
    | byt j => obtain ⟨t', rfl⟩ := ry; exact PySem.W.eq_bytes (fin_bl I q dec_byt)
    | _ => exact absurd (show false = true from hs) Bool.false_ne_true
  | _ => cases y <;> exact absurd (show false = true from hs) Bool.false_ne_true
theorem op_ne : OpR X (compareOp .NotEq) rNe := by
  intro pins s σ H x y v u Q I rx ry h
  obtain ⟨hs, q⟩ := h
  cases x with
  | non =>
    cases rx
    cases y with
    | non => cases ry; exact PySem.EqNone.ne_none_none (fin_bl I q (by simp))
    | bl j => cases ry; exact PySem.EqNone.ne_none_bool (fin_bl I q (by simp))
    | int j => obtain ⟨t', rfl⟩ := ry; exact PySem.EqNone.ne_none_int (fin_bl I q (by simp))
    | str j => obtain ⟨t', rfl⟩ := ry; exact PySem.EqNone.ne_none_str (fin_bl I q (by simp))
    | _ => exact absurd (show false = true from hs) Bool.false_ne_true
  | bl i =>
    cases rx
    cases y with
    | non => cases ry; exact PySem.EqNone.ne_bool_none (fin_bl I q (by simp))
    | bl j => cases ry; exact ne_bool (fin_bl I q (congrArg not dec_bl))
    | str j => obtain ⟨t', rfl⟩ := ry; exact PySem.EqMixed.ne_bool_str (fin_bl I q (by simp))
    | _ => exact absurd (show false = true from hs) Bool.false_ne_true
  | int i =>
    obtain ⟨t, rfl⟩ := rx
    cases y with
    | non => cases ry; exact PySem.EqNone.ne_int_none (fin_bl I q (by simp))
    | int j => obtain ⟨t', rfl⟩ := ry; exact ne_int (fin_bl I q (congrArg not dec_int))
    | str j => obtain ⟨t', rfl⟩ := ry; exact PySem.EqMixed.ne_int_str (fin_bl I q (by simp))
    | _ => exact absurd (show false = true from hs) Bool.false_ne_true
  | str i =>
    obtain ⟨t, rfl⟩ := rx
    cases y with
    | non => cases ry; exact PySem.EqNone.ne_str_none (fin_bl I q (by simp))
    | bl j => cases ry; exact PySem.EqMixed.ne_str_bool (fin_bl I q (by simp))
    | int j => obtain ⟨t', rfl⟩ := ry; exact PySem.EqMixed.ne_str_int (fin_bl I q (by simp))
    | str j => obtain ⟨t', rfl⟩ := ry; exact ne_str (fin_bl I q (congrArg not dec_str))
    | _ => exact absurd (show false = true from hs) Bool.false_ne_true
  | byt i =>
    obtain ⟨t, rfl⟩ := rx
    cases y with
    | byt j => obtain ⟨t', rfl⟩ := ry; exact PySem.W.ne_bytes (fin_bl I q (congrArg not dec_byt))
    | _ => exact absurd (show false = true from hs) Bool.false_ne_true
  | _ => cases y <;> exact absurd (show false = true from hs) Bool.false_ne_true

theorem op_lt : OpR X (compareOp .Lt) (rI0 fun i j => .bl (decide (i < j))) := opB0 fun _ _ _ _ _ _ _ q => lt_int q
theorem op_le : OpR X (compareOp .LtE) (rI0 fun i j => .bl (decide (i ≤ j))) := opB0 fun _ _ _ _ _ _ _ q => le_int q
theorem op_gt : OpR X (compareOp .Gt) (rI0 fun i j => .bl (decide (j < i))) := opB0 fun _ _ _ _ _ _ _ q => gt_int q
theorem op_ge : OpR X (compareOp .GtE) (rI0 fun i j => .bl (decide (j ≤ i))) := opB0 fun _ _ _ _ _ _ _ q => ge_int q
theorem nomark (b : Expr) {op : CmpOp} (h : op ≠ .In := by decide) (h2 : op ≠ .NotIn := by decide) : behindInMarks op b = false := by
  have e1 : (op == CmpOp.In) = false := by cases op <;> first | rfl | exact absurd rfl h
  have e2 : (op == CmpOp.NotIn) = false := by cases op <;> first | rfl | exact absurd rfl h2
  cases b <;> simp [behindInMarks, e1, e2]
/-- a comparison as a value; hm: nomark b, or (for in, not in) by with_unfolding_all rfl -/
theorem pe_cmpR {op : CmpOp} {r : R2} (ho : OpR X (compareOp op) r) (ha : PE X a ta) (hb : PE X b tb) (hm : behindInMarks op b = false) : PE X (.Compare a [op] [b] pos) (tOp r ta tb) := by
  intro pins s σ H Q I h
  exact wpAny_Compare1 (binT ha hb I h fun v u s2 x y H2 I2 rx ry q => ho pins s2 σ H2 x y v u Q I2 rx ry q) hm
/-- a reading of a value as a test -/
def tTest (t : TE) : TT := fun σ H Q => t σ H fun x H' => ∃ k, x = .bl k ∧ Q k H'
theorem pt_cmpR {op : CmpOp} {r : R2} (ho : OpR X (compareOp op) r) (ha : PE X a ta) (hb : PE X b tb) (hm : behindInMarks op b = false) : PT X (.Compare a [op] [b] pos) (tTest (tOp r ta tb)) := by
  intro pins s σ H Q I h
  refine wpAny_isTrue_Compare1 (thn (ha pins s σ H _ I h) fun v s1 ⟨x, H1, I1, r1, q1⟩ => thn (hb pins s1 σ H1 _ I1 q1) fun u s2 ⟨y, H2, I2, r2, q2⟩ =>
    thn (ho pins s2 σ H2 x y v u _ I2 r1 r2 q2) fun c s3 ⟨z, H3, I3, r3, k, e, q3⟩ => ?_) hm
  subst e
  cases r3
  exact wpAny_truthy_bool ⟨H3, I3, q3⟩
/-- a op1 b op2 c -/
def tChain (r r' : R2) (ta tb tc : TE) : TE := fun σ H Q => ta σ H fun x H1 => tb σ H1 fun y H2 => r x y H2 fun z H3 => ∃ k, z = .bl k ∧
  (if k = true then tc σ H3 fun w' H4 => r' y w' H4 Q else Q (.bl false) H3)
theorem pe_chain {op op' : CmpOp} {r r' : R2} (ho : OpR X (compareOp op) r) (ho' : OpR X (compareOp op') r') (ha : PE X a ta) (hb : PE X b tb) (hc : PE X c tc)
    (hm : lastMarks [op, op'] [b, c] = false := by with_unfolding_all rfl) : PE X (.Compare a [op, op'] [b, c] pos) (tChain r r' ta tb tc) := by
  intro pins s σ H Q I h
  refine Compare_chain (thn (ha pins s σ H _ I h) fun v s1 ⟨x, H1, I1, r1, q1⟩ => chain_link (thn (hb pins s1 σ H1 _ I1 q1) fun u s2 ⟨y, H2, I2, r2, q2⟩ =>
    thn (ho pins s2 σ H2 x y v u _ I2 r1 r2 q2) fun d s3 ⟨z, H3, I3, r3, k, e, q3⟩ => ?_)) hm
  subst e
  cases r3
  refine wpAny_truthy_bool ?_
  cases k with
  | false => exact ite_ff ⟨.bl false, H3, I3, rfl, q3⟩
  | true => exact ite_tt (chain_last (thn (hc pins s3 σ H3 _ I3 q3) fun w' s4 ⟨z', H4, I4, r4, q4⟩ => ho' pins s4 σ H4 y z' u w' Q I4 r2 r4 q4))
theorem pt_chain {op op' : CmpOp} {r r' : R2} (ho : OpR X (compareOp op) r) (ho' : OpR X (compareOp op') r') (ha : PE X a ta) (hb : PE X b tb) (hc : PE X c tc)
    (hm : lastMarks [op, op'] [b, c] = false := by with_unfolding_all rfl) : PT X (.Compare a [op, op'] [b, c] pos) (tTest (tChain r r' ta tb tc)) := by
  intro pins s σ H Q I h
  refine isTrue_chain (thn (ha pins s σ H _ I h) fun v s1 ⟨x, H1, I1, r1, q1⟩ => test_link (thn (hb pins s1 σ H1 _ I1 q1) fun u s2 ⟨y, H2, I2, r2, q2⟩ =>
    thn (ho pins s2 σ H2 x y v u _ I2 r1 r2 q2) fun d s3 ⟨z, H3, I3, r3, k, e, q3⟩ => ?_)) hm
  subst e
  cases r3
  refine wpAny_truthy_bool ?_
  cases k with
  | false =>
    obtain ⟨k', e', q'⟩ := q3
    cases e'
    exact ite_ff ⟨H3, I3, q'⟩
  | true =>
    refine ite_tt (test_last (thn (hc pins s3 σ H3 _ I3 q3) fun w' s4 ⟨z', H4, I4, r4, q4⟩ => thn (ho' pins s4 σ H4 y z' u w' _ I4 r2 r4 q4) fun d' s5 ⟨z2, H5, I5, r5, k2, e2, q5⟩ => ?_))
    subst e2
    cases r5
    exact wpAny_truthy_bool ⟨H5, I5, q5⟩

/-! ### truth -/
theorem line63 : (sizeLine : Nat) < 2 ^ 63 := by rw [sizeLine_eq]; decide
/-! ### strs and bytes -/
theorem op_add_str : OpR X (binaryOp .Add) (fun x y H Q => ∃ i j, x = .str i ∧ y = .str j ∧ i.length + j.length ≤ sizeLine ∧ Q (.str (i ++ j)) H) := by
  intro pins s σ H x y v u Q I rx ry h
  obtain ⟨i, j, rfl, rfl, hz, q⟩ := h
  obtain ⟨t, rfl⟩ := rx
  obtain ⟨t', rfl⟩ := ry
  exact add_str (fun t' tk => ⟨.str (i ++ j), H, I.tok _, ⟨_, rfl⟩, q⟩) hz
/-! ### scalar builtins, by CallR -/
theorem vals1 {x : V} {us : List Value} (r : Vals [x] us) : ∃ u, us = [u] ∧ RelV x u := by
  cases r with
  | cons r1 r2 => cases r2; exact ⟨_, rfl, r1⟩
theorem vals2 {x y : V} {us : List Value} (r : Vals [x, y] us) : ∃ u w', us = [u, w'] ∧ RelV x u ∧ RelV y w' := by
  cases r with
  | cons r1 r2 =>
    cases r2 with
    | cons r3 r4 => cases r4; exact ⟨_, _, rfl, r1, r3⟩
theorem call_abs : CallR X (.builtin "abs") (fun xs H Q => ∃ i, xs = [.int i] ∧ Q (.int (if i < 0 then -i else i)) H) := by
  intro pins s σ H xs us Q I r h
  obtain ⟨i, rfl, q⟩ := h
  obtain ⟨u, rfl, t, rfl⟩ := vals1 r
  exact call_abs_int fun u tk => ⟨.int (if i < 0 then -i else i), H, I.tok _, ⟨_, rfl⟩, q⟩
theorem call_int1 : CallR X (.type "int") (fun xs H Q => (∃ i, xs = [.int i] ∧ Q (.int i) H) ∨ ∃ k, xs = [.bl k] ∧ Q (.int (if k then 1 else 0)) H) := by
  intro pins s σ H xs us Q I r h
  rcases h with ⟨i, rfl, q⟩ | ⟨k, rfl, q⟩
  · obtain ⟨u, rfl, t, rfl⟩ := vals1 r
    exact call_int_int ⟨.int i, H, I, ⟨_, rfl⟩, q⟩
  · obtain ⟨u, rfl, r1⟩ := vals1 r
    cases r1
    exact call_int_bool ⟨.int (if k then 1 else 0), H, I.tok _, ⟨_, rfl⟩, q⟩
/-- len of a str, a bytes, a list, a tuple -/
def LenV (K : PySem.W.Frag) (x : V) (H : Hp) (n : Nat) : Prop :=
  match x with
  | .str y => y.length ≤ sizeLine ∧ n = y.length
  | .byt y => y.size ≤ sizeLine ∧ n = y.size
  | .ref p => (∃ xs, SqL K H p xs ∧ n = xs.length) ∨ ∃ xs, SqT K H p xs ∧ n = xs.length
  | _ => False
theorem call_len : CallR X (.builtin "len") (fun xs H Q => ∃ x n, xs = [x] ∧ LenV X.K x H n ∧ Q (.int n) H) := by
  intro pins s σ H xs us Q I r h
  obtain ⟨x, n, rfl, e, q⟩ := h
  obtain ⟨u, rfl, rx⟩ := vals1 r
  have hl := line63
  have hs : sizeLine = 16777216 := sizeLine_eq
  cases x with
  | str y =>
    obtain ⟨t, rfl⟩ := rx
    obtain ⟨hy, e'⟩ : y.length ≤ sizeLine ∧ n = y.length := e
    subst e'
    exact len_str (by omega) ⟨.int _, H, I.tok _, ⟨_, rfl⟩, q⟩
  | byt y =>
    obtain ⟨t, rfl⟩ := rx
    obtain ⟨hy, e'⟩ : y.size ≤ sizeLine ∧ n = y.size := e
    subst e'
    exact PySem.W.len_bytes (by omega) ⟨.int _, H, I.tok _, ⟨_, rfl⟩, q⟩
  | ref p =>
    cases rx
    have e' : (∃ xs, SqL X.K H p xs ∧ n = xs.length) ∨ ∃ xs, SqT X.K H p xs ∧ n = xs.length := e
    rcases e' with ⟨xs, hx, e'⟩ | ⟨xs, hx, e'⟩
    · subst e'
      obtain ⟨its, r', pl, hz⟩ := I.list hx
      have hlen := r'.length
      exact Calls.call_len_list pl.isList (by simp only [List.size_toArray]; omega) ⟨.int xs.length, H, I.tok _, ⟨_, by simp only [List.size_toArray]; rw [hlen]⟩, q⟩
    · subst e'
      obtain ⟨its, r', pl, hz⟩ := I.tuple hx
      have hlen := r'.length
      exact len_tuple pl (by simp only [List.size_toArray]; omega) ⟨.int xs.length, H, I.tok _, ⟨_, by simp only [List.size_toArray]; rw [hlen]⟩, q⟩
  | _ => exact (show False from e).elim
end
end L2

namespace L2
open PySem PySem.Spec PyProof.Rows

/-! ### an instance, its attributes a map -/
structure ObjM (h : Heap) (x dx C : Addr) (mA : Str → Option Value) : Prop where
  obj : h.get? x = some (PySem.W.instObj C dx)
  ns : h.Ns1 dx mA
  ne : dx ≠ x

theorem lookIn_ns {h : Heap} {dx : Addr} {mA : Str → Option Value} (n : h.Ns1 dx mA) : ∃ od, h.get? dx = some od ∧ ∀ name, PySem.W.lookIn name od = some (mA name) := by
  obtain ⟨o, es, ep, ho, hd, hk, _, hm⟩ := n
  refine ⟨o, ho, fun name => ?_⟩
  have e := hm name
  unfold nsFind findBy at e
  rw [← Array.find?_toList] at e
  unfold PySem.W.lookIn
  rw [hd]
  dsimp only
  split
  · rename_i y q
    rw [q] at e
    exact congrArg some e
  · rename_i q
    rw [q] at e
    have a : es.toList.any (·.refKey) = false := by
      rw [List.any_eq_false]
      intro y hy
      obtain ⟨z, t, hkey⟩ := hk y (Array.mem_toList_iff.mp hy)
      simp [DictEntry.refKey, hkey]
    have a' : ¬ es.toList.any (·.refKey) = true := by rw [a]; exact Bool.false_ne_true
    rw [if_neg a']
    exact congrArg some e

theorem ObjM.look {h : Heap} {x dx C : Addr} {mA : Str → Option Value} (I : ObjM h x dx C mA) : ∃ od, PySem.W.InstAt h x (PySem.W.instObj C dx) C (some od) ∧ ∀ name, PySem.W.lookIn name od = some (mA name) :=
  let ⟨od, ho, hl⟩ := lookIn_ns I.ns
  ⟨od, ⟨I.obj, rfl, rfl, ho⟩, hl⟩

section
variable {prog : Program} {w : World} {A : Around} {E : Value → Shared → Prop} {s : Shared} {K : PySem.W.Frag} {x dx C f : Addr} {mA : Str → Option Value} {name : Str} {v : Value}

end

/-! ### the attributes as a list of pairs -/
section
variable {P : Program} {w : World} {H H' : Hp} {h h' : Heap} {a C dx : Addr} {fs fs' : List (Str × V)}
theorem ins_get (hok : HOk P w H h) (e : H a = some (.ins C dx fs)) : ∃ mA, ObjM h a dx C mA ∧ (∀ f, RelO (fs.lookup f) (mA f)) ∧ PySem.Within mA (fs.map (·.1)) ∧ fs.length ≤ 1000 ∧ H dx = some (.own a) := by
  obtain ⟨d, z, ne, ob, mA, n, r, q⟩ := (show ObjOk P w H h a (.ins C dx fs) from hok a _ e)
  exact ⟨mA, ⟨ob, n, ne⟩, r, q, z, d⟩
end

/-! ### what of the text a class must have -/
structure Cls (K : PySem.W.Frag) (C : Addr) : Prop where
  pg : PySem.W.plainGet K C Str.empty = true
  hd : PySem.W.hasDictIn K C = true
  po : PySem.W.plainOver K C = true
  sa : PySem.W.findIn K (.ref C) "__setattr__" = some (some (.builtin "object.__setattr__"))
theorem Cls.get {K : PySem.W.Frag} {C : Addr} (c : Cls K C) (f : Str) : PySem.W.plainGet K C f = true := c.pg
section
variable {X : Cx} {pins : List (Addr × Obj)} {σ : St} {H : Hp} {s : Shared} {a C dx : Addr} {fs : List (Str × V)} {f : Str} {v : V} {A : Around} {E : Value → Shared → Prop}

end

/-! ### readings and rules -/
section
variable {X : Cx} {o e value : Expr} {f : Str} {pos pos' tpos : Pos} {ta tv : TE}
end

/-! ### isinstance -/
section
variable {X : Cx} {pins : List (Addr × Obj)} {σ : St} {H : Hp} {s : Shared} {A : Around} {E : Value → Shared → Prop} {Q : Value → Shared → Prop} {c : Value} {b : Bool}
/-- the type of a value, as the fragment's deciders take it; for an instance its class -/
inductive TyOf (K : PySem.W.Frag) (H : Hp) : V → Value → Prop where
  | non : TyOf K H .non (.type "NoneType")
  | bl (x : Bool) : TyOf K H (.bl x) (.type "bool")
  | int (i : Int) : TyOf K H (.int i) (.type "int")
  | str (x : Str) : TyOf K H (.str x) (.type "str")
  | flt (x : UInt64) : TyOf K H (.flt x) (.type "float")
  | lst {a : Addr} {xs : List V} (e : H a = some (.lst xs)) : TyOf K H (.ref a) (.type "list")
  | frz {a : Addr} {o : Obj} {xs : List V} (e : H a = some (.frz o (.lst xs))) : TyOf K H (.ref a) (.type "list")
  | tup {a : Addr} {xs : List V} (e : H a = some (.tup xs)) : TyOf K H (.ref a) (.type "tuple")
  | dK {a : Addr} {kvs : List (Key × V)} (e : H a = some (.dK kvs)) : TyOf K H (.ref a) (.type "dict")
  | dT {a : Addr} {kvs : List (List Key × V)} (e : H a = some (.dT kvs)) : TyOf K H (.ref a) (.type "dict")
  | ins {a C dx : Addr} {fs : List (Str × V)} (e : H a = some (.ins C dx fs)) (cl : Cls K C) (ha : PySem.W.findIn K (.ref C) "__class__" = some (some (.builtin "object.__class__")))
      (hn : PySem.W.specialIn K (.builtin "object.__class__") "__get__" = some (some (.builtin "getset_descriptor.__get__"))) (htk : PySem.W.takesIn K (.builtin "object.__class__") = some true)
      (hm : PySem.W.mroIn K C (.type "object") = some true) : TyOf K H (.ref a) (.ref C)
/-- isinstance(x, c) for one class c, a built-in or an own one: kitOne's answer -/
theorem isinst_ok {x : V} {u t : Value} (I : Inv X pins σ H s) (rx : RelV x u) (ty : TyOf X.K H x t) (e : PySem.W.kitOne X.K t c = some b) (h : ∀ tk, Q (.bool b) { s with toks := tk }) :
    wpAny (model X.prog X.w) A (call (.builtin "isinstance") [u, c]) Q E s := by
  cases ty with
  | non => cases (show u = Value.none from rx); exact PySem.W.kia_one PySem.W.kitx_none I.kIn True.intro e (fun z => nomatch z) h
  | bl y => cases (show u = Value.bool y from rx); exact PySem.W.kia_one PySem.W.kitx_bool I.kIn True.intro e (fun z => nomatch z) h
  | int i => obtain ⟨t, q⟩ := (show ∃ t, u = Value.int i t from rx); cases q; exact PySem.W.kia_one PySem.W.kitx_int I.kIn True.intro e (fun z => nomatch z) h
  | str y => obtain ⟨t, q⟩ := (show ∃ t, u = Value.str y t from rx); cases q; exact PySem.W.kia_one PySem.W.kitx_str I.kIn True.intro e (fun z => nomatch z) h
  | flt y => obtain ⟨t, q⟩ := (show ∃ t, u = Value.float y t from rx); cases q; exact PySem.W.kia_one PySem.W.kitx_float I.kIn True.intro e (fun z => nomatch z) h
  | @lst a xs ea =>
    cases (show u = Value.ref a from rx)
    obtain ⟨_, _, n, _, h1⟩ := (show ObjOk X.prog X.w H s.heap a (.lst xs) from I.hok a _ ea)
    exact PySem.W.kia_one PySem.W.kitx_list I.kIn ⟨_, h1, rfl⟩ e (fun z => nomatch z) h
  | @frz a ob xs ea =>
    cases (show u = Value.ref a from rx)
    obtain ⟨_, _, _, n, _, h1⟩ := (show ObjOk X.prog X.w H s.heap a (.frz ob (.lst xs)) from I.hok a _ ea)
    exact PySem.W.kia_one PySem.W.kitx_list I.kIn ⟨_, h1, rfl⟩ e (fun z => nomatch z) h
  | @tup a xs ea =>
    cases (show u = Value.ref a from rx)
    obtain ⟨_, _, _, p, _⟩ := (show ObjOk X.prog X.w H s.heap a (.tup xs) from I.hok a _ ea)
    obtain ⟨o, h1, h2, _⟩ := p
    exact PySem.W.kia_one PySem.W.kitx_tuple I.kIn ⟨o, h1, h2⟩ e (fun z => nomatch z) h
  | @dK a kvs ea =>
    cases (show u = Value.ref a from rx)
    obtain ⟨_, _, vs, _, p⟩ := (show ObjOk X.prog X.w H s.heap a (.dK kvs) from I.hok a _ ea)
    obtain ⟨o, es, ep, h1, h2, _⟩ := p
    exact PySem.W.kia_one PySem.W.kitx_dict I.kIn ⟨o, h1, h2.1⟩ e (fun z => nomatch z) h
  | @dT a kvs ea =>
    cases (show u = Value.ref a from rx)
    obtain ⟨_, _, xs, _, o, es, ep, h1, h2, _⟩ := (show ObjOk X.prog X.w H s.heap a (.dT kvs) from I.hok a _ ea)
    exact PySem.W.kia_one PySem.W.kitx_dict I.kIn ⟨o, h1, h2.1⟩ e (fun z => nomatch z) h
  | @ins a C dx fs ea cl ha hn htk hm =>
    cases (show u = Value.ref a from rx)
    obtain ⟨mA, O, _⟩ := ins_get I.hok ea
    obtain ⟨od, J, _⟩ := O.look
    exact PySem.W.kia_one (PySem.W.kitx_own (cl.get _) cl.hd ha hn htk hm) I.kIn J e (fun z => nomatch z) h
end
end L2

namespace L2
open PySem PySem.Spec PyProof.Rows

/-! ### room -/
structure Room (k : Nat) (A : Around) : Prop where
  hd : A.handled = none
  dp : A.depth + 3 * k + 5 < recursionLimit
  un : A.units + 16 * k + 200 < cLine
  gd : A.guards = some []
theorem Room.mono {j k : Nat} {A : Around} (r : Room k A) (h : j ≤ k) : Room j A := ⟨r.hd, by have := r.dp; omega, by have := r.un; omega, r.gd⟩
theorem Room.deeper {k : Nat} {A : Around} (r : Room (k + 1) A) (env : Env) : Room k (A.deeper env) :=
  ⟨r.hd, by have := r.dp; show A.depth + 1 + 3 * k + 5 < _; omega, by have := r.un; show A.units + 3 + 16 * k + 200 < _; omega, r.gd⟩
theorem Room.depth {k : Nat} {A : Around} (r : Room k A) : A.depth < recursionLimit := by have := r.dp; omega
theorem Room.units {k : Nat} {A : Around} (r : Room k A) : A.units + 64 < cLine := by have := r.un; omega
/-! ### argument lists and displays -/
def tNil : TA := fun _ H Q => Q [] H
def tCons (ta : TE) (tr : TA) : TA := fun σ H Q => ta σ H fun x H1 => tr σ H1 fun xs H2 => Q (x :: xs) H2
section
variable {X : Cx} {e : Expr} {es : List Expr} {te : TE} {t : TA} {pos : Pos}
theorem pa_nil : PA X [] tNil := fun _ _ _ _ H Q I h => Calls.spliced_nil ⟨[], H, I, .nil, h⟩
theorem pa_cons (ha : PE X e te) (hr : PA X es t) (hs : starEach (e :: es) X.env = (false, eval e X.env) :: starEach es X.env := by rfl) : PA X (e :: es) (tCons te t) := by
  intro pos pins s σ H Q I h
  rw [hs]
  show wpAny _ _ (spliced ((false, eval e X.env) :: backTo pos (starEach es X.env))) _ _ s
  refine Calls.spliced_cons (thn (ha pins s σ H _ I h) fun u s1 ⟨x, H1, I1, r1, q1⟩ => ?_)
  exact thn (hr pos pins s1 σ H1 _ I1 q1) fun us s2 ⟨xs, H2, I2, r2, q2⟩ => ⟨x :: xs, H2, I2, .cons r1 r2, q2⟩

/-- a tuple, a list of written items -/
def tTup (t : TA) : TE := fun σ H Q => t σ H fun xs H1 => xs.length ≤ sizeLine ∧ ∀ p, H1 p = none → Q (.ref p) (upd H1 p (.tup xs))
def tLst (t : TA) : TE := fun σ H Q => t σ H fun xs H1 => xs.length ≤ sizeLine ∧ ∀ p, H1 p = none → Q (.ref p) (upd H1 p (.lst xs))
theorem pe_tup {x1} (h : PA X es t) : PE X (.Tuple es x1 pos) (tTup t) := by
  intro pins s σ H Q I hq
  refine wpAny_Tuple_spliced (thn (h pos pins s σ H _ I hq) fun us s1 ⟨xs, H1, I1, r, z, q⟩ => ⟨by rw [← r.length]; exact z, ?_⟩)
  have hf : H1 s1.heap.objs.size = none := I1.hok.fresh (Nat.le_refl _)
  refine ⟨.ref s1.heap.objs.size, upd H1 s1.heap.objs.size (.tup xs), I1.laid (t' := s1.toks) (fun b u e => Heap.get?_push_of_some _ e) (Nat.le_refl _) ?_, rfl, q _ hf⟩
  exact ⟨z, us, r, ⟨_, Heap.get?_push_size _ rfl, rfl, _, rfl⟩, _, Heap.get?_push_size _ rfl, rfl⟩
theorem pe_lst (h : PA X es t) : PE X (.List es pos) (tLst t) := by
  intro pins s σ H Q I hq
  refine wpAny_List_spliced (thn (h pos pins s σ H _ I hq) fun us s1 ⟨xs, H1, I1, r, z, q⟩ => ⟨by rw [← r.length]; exact z, ?_⟩)
  have hf : H1 s1.heap.objs.size = none := I1.hok.fresh (Nat.le_refl _)
  refine ⟨.ref s1.heap.objs.size, upd H1 s1.heap.objs.size (.lst xs), I1.laid (t' := s1.toks) (fun b u e => Heap.get?_push_of_some _ e) (Nat.le_refl _) ?_, rfl, q _ hf⟩
  exact ⟨z, us, 0, r, Heap.get?_push_size _ rfl⟩
end

/-! ### what a def promises -/
/-- a def's promise: the bound arguments in the parameters' order, the heap, the wanted end, the wanted exception -/
abbrev Sp := List V → Hp → VK → XK → Prop
/-- how an exception lies behind a call (file 08 gives it): the callers' frames, abstract heap and state ahead of the call, the wish, the exception, the state -/
abbrev CXT := List Env → Hp → Shared → XK → Value → Shared → Prop

/-- the state at a call -/
structure Env0 (P : Program) (w : World) (K : PySem.W.Frag) (mg : Str → Option Value) (base : Heap) (A : Around) (outer : List Env) (s : Shared) (H : Hp) : Prop where
  frames : A.frames = some outer
  mod : Mod K mg base
  bs : ∀ b o, base.get? b = some o → s.heap.get? b = some o ∧ H b = none
  bsz : base.objs.size ≤ s.heap.objs.size
  funs : s.heap.FunFrames base outer
  frf : ∀ b ∈ frs outer, H b = none
  hok : HOk P w H s.heap
  bare : AllBare s.gens
/-- a call's end -/
def CE (outer : List Env) (P : Program) (w : World) (H : Hp) (s : Shared) (Q : VK) (u : Value) (s' : Shared) : Prop :=
  ∃ v H', s'.os = s.os ∧ AllBare s'.gens ∧ Un (frs outer) [] H H' s.heap s'.heap ∧ HOk P w H' s'.heap ∧ RelV v u ∧ Q v H'
def CR (CX : CXT) (outer : List Env) (P : Program) (w : World) (H : Hp) (s : Shared) (Q : VK) (E : XK) (r : Result) (s' : Shared) : Prop :=
  match r with
  | .ok (.ret u) => CE outer P w H s Q u s'
  | .ok _ => False
  | .error e => CX outer H s E e s'
structure FnOk (P : Program) (w : World) (K : PySem.W.Frag) (mg : Str → Option Value) (base : Heap) (CX : CXT) (k : Nat) (f : Addr) (fd : FuncData) (ps : List Str) (sp : Sp) : Prop where
  len : ∀ vs H Q E, sp vs H Q E → vs.length = ps.length
  run : ∀ (A : Around) (outer : List Env) (s : Shared) (H : Hp) (args : Args) (us : List Value) (vs : List V) (Q : VK) (E : XK), Room k A → Env0 P w K mg base A outer s H → BindsTo s fd args (ps.zip us) → Vals vs us → sp vs H Q E →
    codeAny (model P w) A (.call (.ref f) args) (CR CX outer P w H s Q E) s
/-- a weaker promise -/
theorem FnOk.imp {P : Program} {w : World} {K : PySem.W.Frag} {mg : Str → Option Value} {base : Heap} {CX : CXT} {k : Nat} {f : Addr} {fd : FuncData} {ps : List Str} {sp sp' : Sp} (F : FnOk P w K mg base CX k f fd ps sp)
    (h : ∀ vs H Q E, sp' vs H Q E → sp vs H Q E) : FnOk P w K mg base CX k f fd ps sp' :=
  ⟨fun vs H Q E q => F.len vs H Q E (h _ _ _ _ q), fun A outer s H args us vs Q E hr he hb hv hs => F.run A outer s H args us vs Q E hr he hb hv (h _ _ _ _ hs)⟩

section
variable {X : Cx} {pins : List (Addr × Obj)} {σ : St} {H : Hp} {s s' : Shared}
/-- from a body: what a callee wants -/
theorem Inv.env0 (I : Inv X pins σ H s) : Env0 X.prog X.w X.K X.mg X.base X.A X.stack s H :=
  ⟨I.ok.frames, I.ok.mod, I.bs, Nat.le_trans I.ok.bsz I.sz, I.stack, I.stkFree, I.hok, I.bare⟩
/-- behind a call -/
theorem Inv.after {Q : VK} {u : Value} (I : Inv X pins σ H s) (h : CE X.stack X.prog X.w H s Q u s') : EP X pins σ Q u s' := by
  obtain ⟨v, H', os, bare, un, hok, r, q⟩ := h
  obtain ⟨hh, g, d, t, os'⟩ := s'
  obtain rfl : os' = s.os := os
  exact ⟨v, H', I.call (h' := hh) (g' := g) (d' := d) (t' := t) (ch := []) un hok bare (fun b z => absurd z (by simp)), r, q⟩
end

/-! ### calls -/
/-- f(..): the written arguments, then the defaults dvs; E: what is wanted of an exception -/
def tCall (sp : Sp) (dvs : List V) (E : XK) (t : TA) : TE := fun σ H Q => t σ H fun vs H1 => sp (vs ++ dvs) H1 Q E
/-- how the parameters are bound: us the positional arguments, kw the keywords' values by name, ds the defaults that fill up -/
def Binds (K : PySem.W.Frag) (fd : FuncData) (ps : List Str) (ds : List Value) : Prop :=
  ∀ (s : Shared) (us : List Value), K.In s.heap → (us ++ ds).length = ps.length → BindsTo s fd ⟨us, []⟩ (ps.zip (us ++ ds))
/-- every parameter is given -/
theorem Binds.all {K : PySem.W.Frag} {fd : FuncData} {ps : List Str} (h : ∀ us : List Value, us.length = ps.length → bindArgs fd ⟨us, []⟩ = pure (ps.zip us)) : Binds K fd ps [] := fun s us _ hl => by
  rw [List.append_nil] at hl ⊢
  exact .of_eq (h us hl)

/-- an exception of a callee reaches what this body wants of exceptions -/
def Passes (CX : CXT) (X : Cx) (E : XK) : Prop := ∀ (pins : List (Addr × Obj)) (σ : St) (H : Hp) (s : Shared) (e : Value) (s' : Shared), Inv X pins σ H s → CX X.stack H s E e s' → X.xe e s'

section
variable {X : Cx} {CX : CXT} {k : Nat} {f C : Addr} {fd : FuncData} {ps : List Str} {sp : Sp} {dvs : List V} {ds : List Value} {E : XK} {x m : Str} {p pos apos : Pos} {e o : Expr} {es : List Expr} {ta : TE} {t : TA}

/-- the callee runs -/
theorem run_fn {pins : List (Addr × Obj)} {σ : St} {H : Hp} {s : Shared} {Q : VK} {us : List Value} {vs : List V} (F : FnOk X.prog X.w X.K X.mg X.base CX k f fd ps sp) (hr : Room k X.A) (hb : Binds X.K fd ps ds) (hd : Vals dvs ds) (hx : Passes CX X E)
    (I : Inv X pins σ H s) (r : Vals vs us) (h : sp (vs ++ dvs) H Q E) : wpAny (model X.prog X.w) X.A (call (.ref f) us) (EP X pins σ Q) X.xe s := by
  have r2 : Vals (vs ++ dvs) (us ++ ds) := r.append hd
  have hl : (us ++ ds).length = ps.length := by rw [← r2.length]; exact F.len _ _ _ _ h
  refine wpAny_call (codeAny_mono (F.run X.A X.stack s H ⟨us, []⟩ (us ++ ds) (vs ++ dvs) Q E hr I.env0 (hb s us I.kIn hl) r2 h) fun r s' hq => ?_)
  cases r with
  | error e => exact hx pins σ H s e s' I hq
  | ok fl =>
    cases fl with
    | ret u => exact I.after hq
    | next => exact False.elim hq
    | brk => exact False.elim hq
    | cont => exact False.elim hq

theorem pe_call (F : FnOk X.prog X.w X.K X.mg X.base CX k f fd ps sp) (hr : Room k X.A) (hg : Gl X x) (hm : X.mg x = some (.ref f)) (hk : PySem.W.keepIn X.K (.ref f) = true) (hb : Binds X.K fd ps ds) (hd : Vals dvs ds) (hx : Passes CX X E)
    (ha : PA X (e :: es) t) (hdb : (x == ("__debug__" : Str)) = false := by decide) (he : starEach (e :: es) X.env = (false, eval e X.env) :: starEach es X.env := by rfl) (hpl : (backTo pos (starEach es X.env)).any (·.1) = false := by rfl) :
    PE X (.Call (.Name x p) (e :: es) [] pos) (tCall sp dvs E t) := by
  intro pins s σ H Q I h
  refine wpAny_Call_Name_kw (ld_glob I hg hm ?_ hdb)
  refine PySem.W.callWith_K (h₀ := X.base) I.ok.mod.kin hk (thn (ha pos pins s σ H _ I h) fun us s1 ⟨vs, H1, I1, r, q⟩ => ⟨I1.kIn, ?_⟩) he hpl
  exact run_fn F hr hb hd hx I1 r q
end

/-! ### keywords -/
section
variable {X : Cx} {CX : CXT} {k : Nat} {f C : Addr} {fd : FuncData} {ps ks : List Str} {sp : Sp} {E : XK} {x m : Str} {p pos apos kpos : Pos} {e o : Expr} {es : List Expr} {kws : List Keyword} {te ta : TE} {t tk : TA} {nm : Option Str}
variable {g : List Value → List Value → List Value} {gV : List V → List V → List V}
end

/-! ### a def's body keeps its promise -/
/-- names: the parameters first -/
structure FnScope (N P : List Str) (sc : Scope) : Prop where
  kind : sc.kind = .function
  co : sc.isCoroutine = false
  gen : sc.isGenerator = false
  nd : N.Nodup
  pre : N.take P.length = P
  par : ∀ x ∈ P, sc.names.lookup x = some .local ∨ sc.names.lookup x = some .cell
  nofree : ∀ y ∈ sc.names, y.2 ≠ .free

theorem bindL_out {kindOf : Str → Option NameKind} {x : Str} : ∀ {binds : List (Str × Value)} {m : Str → Option Value}, (∀ v, (x, v) ∉ binds) → bindL kindOf binds m x = m x
  | [], _, _ => rfl
  | (n, v) :: r, m, h => by
    unfold bindL
    rw [bindL_out fun w hw => h w (List.mem_cons_of_mem _ hw)]
    split
    · have : x ≠ n := by rintro rfl; exact h v List.mem_cons_self
      simp [this]
    · rfl
theorem bindC_out {kindOf : Str → Option NameKind} {x : Str} : ∀ {binds : List (Str × Value)} {m : Str → Option Value}, (∀ v, (x, v) ∉ binds) → bindC kindOf binds m x = m x
  | [], _, _ => rfl
  | (n, v) :: r, m, h => by
    unfold bindC
    rw [bindC_out fun w hw => h w (List.mem_cons_of_mem _ hw)]
    split
    · rfl
    · have : x ≠ n := by rintro rfl; exact h v List.mem_cons_self
      simp [this]
theorem bindL_get {kindOf : Str → Option NameKind} {x : Str} {v : Value} : ∀ {P : List Str} {vs : List Value} {i : Nat} {m : Str → Option Value}, P.Nodup → P[i]? = some x → vs[i]? = some v → kindOf x = some .local →
    bindL kindOf (P.zip vs) m x = some v
  | [], _, _, _, _, h, _, _ => by simp at h
  | _ :: _, [], _, _, _, _, h, _ => by simp at h
  | p :: P, w :: vs, 0, m, nd, h1, h2, hk => by
    simp at h1 h2; subst h1; subst h2
    show bindL kindOf ((p, w) :: P.zip vs) m p = _
    unfold bindL
    rw [bindL_out fun v hv => (List.nodup_cons.mp nd).1 (List.of_mem_zip hv).1, if_pos hk]
    simp
  | p :: P, w :: vs, i + 1, m, nd, h1, h2, hk => by
    show bindL kindOf ((p, w) :: P.zip vs) m x = _
    unfold bindL
    exact bindL_get (i := i) (List.nodup_cons.mp nd).2 (by simpa using h1) (by simpa using h2) hk
theorem bindC_get {kindOf : Str → Option NameKind} {x : Str} {v : Value} : ∀ {P : List Str} {vs : List Value} {i : Nat} {m : Str → Option Value}, P.Nodup → P[i]? = some x → vs[i]? = some v → kindOf x ≠ some .local →
    bindC kindOf (P.zip vs) m x = some v
  | [], _, _, _, _, h, _, _ => by simp at h
  | _ :: _, [], _, _, _, _, h, _ => by simp at h
  | p :: P, w :: vs, 0, m, nd, h1, h2, hk => by
    simp at h1 h2; subst h1; subst h2
    show bindC kindOf ((p, w) :: P.zip vs) m p = _
    unfold bindC
    rw [bindC_out fun v hv => (List.nodup_cons.mp nd).1 (List.of_mem_zip hv).1, if_neg hk]
    simp
  | p :: P, w :: vs, i + 1, m, nd, h1, h2, hk => by
    show bindC kindOf ((p, w) :: P.zip vs) m x = _
    unfold bindC
    exact bindC_get (i := i) (List.nodup_cons.mp nd).2 (by simpa using h1) (by simpa using h2) hk

/-- the names' values at the entry -/
def start (N : List Str) (vs : List V) : St := vs.map some ++ List.replicate (N.length - vs.length) none

/-- the context of a def's body, at its entry; an exception leaves the frame, then lies as CX says -/
def cxOf (CX : CXT) (P : Program) (w : World) (K : PySem.W.Frag) (mg : Str → Option Value) (base : Heap) (N : List Str) (qual : Str) (scope : Scope) (f : Addr) (cd : Value) (A : Around) (outer : List Env) (s : Shared) (H : Hp) (E : XK) : Cx where
  prog := P
  w := w
  K := K
  mg := mg
  base := base
  A := A.deeper (envOfC qual scope s.heap.objs.size f cd)
  N := N
  s₀ := s
  H₀ := H
  env := envOfC qual scope s.heap.objs.size f cd
  outer := outer
  stack := envOfC qual scope s.heap.objs.size f cd :: outer
  ex := []
  calm := true
  fn := fun _ => true
  pn := []
  xe := fun e s' => wpAny (model P w) (A.deeper (envOfC qual scope s.heap.objs.size f cd)) (leaving (envOfC qual scope s.heap.objs.size f cd) e) (fun _ s'' => CX outer H s E e s'') (fun e' s'' => CX outer H s E e' s'') s'

theorem cell_has {sc : Scope} {n : Nat} {x : Str} (h : sc.names.lookup x = some .cell) : ∃ c, (cellsFrom n sc.names []).lookup x = some c := by
  have q := PySem.W.cellsFrom_some sc.names n [] (.inl h)
  exact Option.isSome_iff_exists.mp q

theorem inv_start {CX : CXT} {P : Program} {w : World} {K : PySem.W.Frag} {mg : Str → Option Value} {base : Heap} {N ps : List Str} {qual : Str} {scope : Scope} {f : Addr} {cd : Value} {A : Around} {outer : List Env} {s s1 : Shared} {H : Hp} {E : XK} {us : List Value} {vs : List V}
    (S : FnScope N ps scope) (hd : A.handled = none) (e0 : Env0 P w K mg base A outer s H) (hl : vs.length = ps.length) (r : Vals vs us)
    (x : InCallC s s.heap.objs.size (bindL (envOfC qual scope s.heap.objs.size f cd).kindOf (ps.zip us) fun _ => none) (cellsFrom (s.heap.objs.size + 1) scope.names []) (bindC (envOfC qual scope s.heap.objs.size f cd).kindOf (ps.zip us) fun _ => none) s1) :
    Inv (cxOf CX P w K mg base N qual scope f cd A outer s H E) [] (start N vs) H s1 := by
  have hpl : ps.length ≤ N.length := by have := congrArg List.length S.pre; rw [List.length_take] at this; omega
  obtain ⟨h1, tk, rfl, hk⟩ := x.done
  have noA : ∀ b : Addr, b ∉ (cxOf CX P w K mg base N qual scope f cd A outer s H E).ex := fun b z => absurd (show b ∈ ([] : List Addr) from z) (by simp)
  refine ⟨⟨e0.mod, S.kind, rfl, rfl, Nat.le_refl _, fun y z c h1 h2 => ?_, fun y hy => ?_, fun y c _ h => ?_, fun _ => hd, Around.frames_deeper e0.frames, .inr ⟨rfl, rfl⟩, fun b z => absurd z (noA b), e0.bs, e0.bsz, fun b _ _ => noA b, fun b z => absurd z (noA b), e0.funs, e0.frf⟩,
    rfl, e0.bare, Un.kept hk, ⟨_, x.toInCall.ns, fun i y v h1 h2 h3 => ?_⟩, fun y c h => ⟨_, x.cell y c h⟩, e0.hok.fresh (Nat.le_refl _), fun y c h => ?_, fun p hp => absurd (show p ∈ ([] : List (Addr × Obj)) from hp) (by simp), e0.hok.kept hk, ?_⟩
  · exact name_of_addr x.apart (PySem.mem_of_lookup h1) (PySem.mem_of_lookup h2)
  · have hy : scope.names.lookup y = some .cell ∨ scope.names.lookup y = some .free := hy
    rcases hy with hy | hy
    · exact cell_has hy
    · exact absurd rfl (S.nofree _ (PySem.mem_of_lookup hy))
  · exact Nat.le_of_lt (x.above y c (PySem.mem_of_lookup h))
  · have hi : i < vs.length := by
      unfold start at h2
      by_cases hi : i < vs.length
      · exact hi
      · rw [List.getElem?_append_right (by simpa using hi)] at h2
        rw [List.getElem?_replicate] at h2
        split at h2 <;> cases h2
    have ha : vs[i]? = some v := by
      unfold start at h2
      rw [List.getElem?_append_left (by simpa using hi), List.getElem?_map] at h2
      cases e : vs[i]? with
      | none => rw [e] at h2; cases h2
      | some a => rw [e] at h2; cases h2; rfl
    obtain ⟨u, hu, rv⟩ := r.get ha
    have hp : ps[i]? = some y := by
      rw [← S.pre, List.getElem?_take_of_lt (by omega)]; exact h1
    have ndP : ps.Nodup := by rw [← S.pre]; exact S.nd.sublist (List.take_sublist _ _)
    refine ⟨u, rv, ?_⟩
    rcases S.par y (List.mem_of_getElem? hp) with k | k
    · exact .inl ⟨k, bindL_get ndP hp hu k⟩
    · obtain ⟨c, e⟩ := cell_has (n := s.heap.objs.size + 1) k
      refine .inr ⟨.inl k, c, e, ?_⟩
      have q := x.cell y c e
      rw [bindC_get ndP hp hu (by show scope.names.lookup y ≠ _; rw [k]; decide)] at q
      exact q
  · exact e0.hok.fresh (Nat.le_of_lt (x.above y c (PySem.mem_of_lookup h)))
  · unfold start
    show _ = N.length
    rw [List.length_append, List.length_map, List.length_replicate]
    omega

/-- THE RULE: a def (or a method) of the text, by its body. The body's reading t is chosen for each entry; it is run at the parameters' values -/
theorem fn_of {CX : CXT} {P : Program} {w : World} {K : PySem.W.Frag} {mg : Str → Option Value} {base : Heap} {k : Nat} {f : Addr} {name qual : Str} {params : Arguments} {body : List Stmt} {scope : Scope} {dV kV doc pm cdv ct oc : Value} {an od : Option Addr}
    {osl : Array (Option Value)} {N ps : List Str} {sp : Sp} (lk : K.lookup f = some ⟨oc, od, .func (PySem.W.fnOf name qual params body scope dV kV doc pm an cdv ct), osl⟩) (hcd : PySem.W.codeIn K cdv qual = true) (S : FnScope N ps scope)
    (len : ∀ vs H Q E, sp vs H Q E → vs.length = ps.length)
    (hbody : ∀ (A : Around) (outer : List Env) (s : Shared) (H : Hp) (vs : List V) (Q : VK) (E : XK), Room k (A.deeper (envOfC qual scope s.heap.objs.size f cdv)) → sp vs H Q E →
      ∃ t, PSs (cxOf CX P w K mg base N qual scope f cdv A outer s H E) body t ∧ t { nx := fun _ H' => Q .non H', rt := Q } (start N vs) H) :
    FnOk P w K mg base CX (k + 1) f (PySem.W.fnOf name qual params body scope dV kV doc pm an cdv ct) ps sp := by
  refine ⟨len, fun A outer s H args us vs Q E hr e0 hb r hsp => ?_⟩
  have hl := len _ _ _ _ hsp
  have KX : K.In s.heap := e0.mod.kin.keeps fun b o e => (e0.bs b o e).1
  have lim : s.heap.NoLimit := e0.mod.nolimit.keeps fun b o e => (e0.bs b o e).1
  have hkind : ∀ y ∈ ps.zip us, scope.names.lookup y.1 = some .local ∨ (scope.names.lookup y.1 = some .cell ∧ ((cellsFrom (s.heap.objs.size + 1) scope.names []).lookup y.1).isSome = true) := fun ⟨n, v⟩ hy => by
    rcases S.par n (List.of_mem_zip hy).1 with q | q
    · exact .inl q
    · exact .inr ⟨q, PySem.W.cellsFrom_some _ _ _ (.inl q)⟩
  refine codeAny_call_function hr.depth (KX _ _ lk) rfl S.co S.gen rfl (PySem.W.codeRec_of KX hcd) (hb _ _ _ _ ?_)
  refine wpAny_newFunctionEnv_cells S.kind hkind fun env he s1 x => ?_
  subst he
  refine ⟨lim.keeps x.toInCall.keep, codeAny_func ?_⟩
  obtain ⟨t, ht, hq⟩ := hbody A outer s H vs Q E (hr.deeper _) hsp
  have I : Inv (cxOf CX P w K mg base N qual scope f cdv A outer s H E) [] (start N vs) H s1 := inv_start S hr.hd e0 hl r x
  refine wpAny_mono (ht [] s1 (start N vs) H _ I hq) (fun fl s' hs => ?_) fun e s' hs => hs
  have fin : ∀ {σ' : St} {H' : Hp} {v : V} {u : Value}, Inv (cxOf CX P w K mg base N qual scope f cdv A outer s H E) [] σ' H' s' → RelV v u → Q v H' → CE outer P w H s Q u s' :=
    fun {σ' H' v u} J rv q => ⟨v, H', J.os, J.bare, J.base, J.hok, rv, q⟩
  cases fl with
  | ret u =>
    obtain ⟨v, σ', H', J, rv, q⟩ := hs
    exact fin J rv q
  | next =>
    obtain ⟨σ', H', J, q⟩ := hs
    exact fin (v := V.non) (u := Value.none) J rfl q
  | brk =>
    obtain ⟨_, _, _, q⟩ := hs
    exact False.elim q
  | cont =>
    obtain ⟨_, _, _, q⟩ := hs
    exact False.elim q
end L2

namespace L2
open PySem PySem.Spec PyProof.Rows
section
variable {X : Cx} {x : Str} {p pos : Pos} {e : Expr} {es : List Expr} {t : TA} {id T : String} {r : List V → Hp → VK → Prop}

def tCB (r : List V → Hp → VK → Prop) (t : TA) : TE := fun σ H Q => t σ H fun vs H1 => r vs H1 Q
/-- f(e, ..), f a built-in function -/
theorem pe_callB (hc : CallR X (.builtin id) r) (hg : Gl X x) (hm : X.mg x = none) (hv : bootBuiltins x = some (.builtin id)) (ha : PA X (e :: es) t) (hn : x ≠ "__name__" := by decide) (hdb : (x == ("__debug__" : Str)) = false := by decide)
    (he : starEach (e :: es) X.env = (false, eval e X.env) :: starEach es X.env := by rfl) (hpl : (backTo pos (starEach es X.env)).any (·.1) = false := by rfl) : PE X (.Call (.Name x p) (e :: es) [] pos) (tCB r t) := by
  intro pins s σ H Q I h
  refine wpAny_Call_Name_kw (ld_blt I hg hm hv ?_ hn hdb)
  exact PyProof.Rows.callWith_builtin1 (thn (ha pos pins s σ H _ I h) fun us s1 ⟨vs, H1, I1, r1, q1⟩ => hc pins s1 σ H1 vs us Q I1 r1 q1) he hpl
/-- T(e, ..), T a built-in type -/
theorem pe_callTy (hc : CallR X (.type T) r) (hg : Gl X x) (hm : X.mg x = none) (hv : bootBuiltins x = some (.type T)) (ha : PA X (e :: es) t) (hn : x ≠ "__name__" := by decide) (hdb : (x == ("__debug__" : Str)) = false := by decide)
    (he : starEach (e :: es) X.env = (false, eval e X.env) :: starEach es X.env := by rfl) (hpl : (backTo pos (starEach es X.env)).any (·.1) = false := by rfl) : PE X (.Call (.Name x p) (e :: es) [] pos) (tCB r t) := by
  intro pins s σ H Q I h
  refine wpAny_Call_Name_kw (ld_blt I hg hm hv ?_ hn hdb)
  exact PyProof.Rows.callWith_type1 (thn (ha pos pins s σ H _ I h) fun us s1 ⟨vs, H1, I1, r1, q1⟩ => hc pins s1 σ H1 vs us Q I1 r1 q1) he hpl
end
end L2

namespace HT
open PySem PyProof.Rows

section
open PySem.SeqAt
open PySem.AutoSeq1 (wpAny_loadPart')
open PySem.MeetsSeq PySem.MeetsSeq2 PySem.MeetsSeq3

end

section
variable {prog : Program} {w : World} {A : Around} {E : Value → Shared → Prop} {s : Shared}

/-- t + u, t not empty -/
theorem cat_tup {t b : Addr} {vs ws : List Value} {Q : Value → Shared → Prop} (ht : IsTup s.heap t vs.toArray) (hb : IsTup s.heap b ws.toArray) (hv : vs ≠ [])
    (h1 : ws = [] → Q (.ref t) s) (h2 : ws ≠ [] → Q (.ref s.heap.objs.size) { s with heap := s.heap.push { cls := .type "tuple", data := .seq (vs ++ ws).toArray } })
    (hsz : vs.length + ws.length ≤ sizeLine) : wpAny (model prog w) A (binaryOp .Add (.ref t) (.ref b)) Q E s := by
  obtain ⟨⟨cls, dd, data, sl⟩, ho, hc, n, hd⟩ := id ht
  obtain ⟨⟨cls2, dd2, data2, sl2⟩, ho2, hc2, n2, hd2⟩ := id hb
  simp only at hc hd hc2 hd2
  subst hc hd hc2 hd2
  have e : vs.toArray ++ ws.toArray = (vs ++ ws).toArray := by simp
  by_cases hw : ws = []
  · exact concat_meets ⟨_, ho, rfl⟩ ⟨_, ho2, rfl⟩ noFill_tuple_add seq_tuple_add PySem.F.slot_tuple_add PySem.F.entry_tuple_add (PySem.F.args_tuple_add_2 _ _)
      (tuple_addW1 t b vs.toArray ws.toArray n n2 dd dd2 sl sl2 (by simpa using hv) (by simp [hw])) ⟨ho, ho2, h1 hw⟩
  · refine concat_meets ⟨_, ho, rfl⟩ ⟨_, ho2, rfl⟩ noFill_tuple_add seq_tuple_add PySem.F.slot_tuple_add PySem.F.entry_tuple_add (PySem.F.args_tuple_add_2 _ _)
      (tuple_addW2 t b vs.toArray ws.toArray n n2 dd dd2 sl sl2 (by simpa using hv) (by simpa using hw) (by rw [List.size_toArray, List.size_toArray]; exact hsz)) ⟨ho, ho2, ?_⟩
    rw [e]
    exact h2 hw

/-! ### t[a:b], not the whole -/
/-- a slice's bound as a place among n (d where it is left out) -/
def sIx (n d : Nat) : Option Int → Nat
  | none => d
  | some v => if v < 0 then (v + (n : Int)).toNat else min v.toNat n
theorem sIx_none (n d : Nat) : sIx n d none = d := rfl
theorem sIx_nat (n d k : Nat) : sIx n d (some (k : Int)) = min k n := by
  show (if (k : Int) < 0 then ((k : Int) + (n : Int)).toNat else min (k : Int).toNat n) = min k n
  rw [if_neg (by omega), Int.toNat_natCast]
theorem sIx_le (n d : Nat) (hd : d ≤ n) (o : Option Int) : sIx n d o ≤ n := by
  cases o with
  | none => exact hd
  | some v =>
    show (if v < 0 then (v + (n : Int)).toNat else min v.toNat n) ≤ n
    by_cases hv : v < 0
    · rw [if_pos hv]; omega
    · rw [if_neg hv]; exact Nat.min_le_right _ _
theorem clip_eq (v : Int) (n d : Nat) : (if v < 0 then max (v + (n : Int)) 0 else min v (n : Int)) = ((sIx n d (some v) : Nat) : Int) := by
  show (if v < 0 then max (v + (n : Int)) 0 else min v (n : Int)) = (((if v < 0 then (v + (n : Int)).toNat else min v.toNat n) : Nat) : Int)
  by_cases hv : v < 0
  · simp only [if_pos hv]; omega
  · simp only [if_neg hv]; omega
theorem adjust_gen (lo hi : Option Int) (n : Nat) : Builtin.Slice.sliceAdjust lo hi 1 (n : Int) = (((sIx n 0 lo : Nat) : Int), ((sIx n n hi : Nat) : Int)) := by
  have h1 : ¬ ((1 : Int) < 0) := by omega
  unfold Builtin.Slice.sliceAdjust
  simp only [h1, if_false]
  refine Prod.ext ?_ ?_
  · cases lo with
    | none => rfl
    | some v => exact clip_eq v n 0
  · cases hi with
    | none => rfl
    | some v => exact clip_eq v n n
theorem places_gen (i j : Nat) : Builtin.Slice.slicePlaces (i : Int) (j : Int) 1 = j - i := by
  unfold Builtin.Slice.slicePlaces
  have h1 : (1 : Int) > 0 := by omega
  simp only [h1, if_true, Int.ediv_one]
  split <;> omega
theorem slicePart_ {v : Value} {o : Option Int} {Q : Option Int → Shared → Prop} (p : IsPart v o) (h : Q o s) : wpAny (model prog w) A (Builtin.Slice.slicePartIndex v) Q E s := by
  cases p with
  | none => exact slicePart_none h
  | int i t => exact slicePart_int h
theorem sliceApplied_gen {sl : Addr} {vl vu : Value} {lo hi : Option Int} {n : Nat} {Q : Int × Int × Nat → Shared → Prop} (hs : s.heap.IsSliceOf sl vl vu .none) (pl : IsPart vl lo) (pu : IsPart vu hi)
    (h : Q (((sIx n 0 lo : Nat) : Int), 1, sIx n n hi - sIx n 0 lo) s) : wpAny (model prog w) A (Builtin.Slice.sliceApplied (.ref sl) (pure (n : Int))) Q E s := by
  obtain ⟨os, hos, hcs, hds⟩ := id hs
  unfold Builtin.Slice.sliceApplied Builtin.Slice.sliceFields
  refine wpAny_bind (wpAny_bind (wpAny_field hos hds (x := vl) rfl (wpAny_bind (wpAny_field hos hds (x := vu) rfl (wpAny_bind (wpAny_field hos hds (x := .none) rfl (wpAny_pure ?_)))))))
  refine wpAny_bind (slicePart_none ?_)
  show wpAny _ _ (if ((1 : Int) == 0) = true then _ else _) _ _ s
  rw [if_neg (by decide)]
  refine wpAny_bind (slicePart_ pl (wpAny_bind (slicePart_ pu (wpAny_bind (wpAny_pure ?_)))))
  show wpAny _ _ (match Builtin.Slice.sliceAdjust lo hi 1 (n : Int) with | (lo, hi) => pure (lo, (1 : Int), Builtin.Slice.slicePlaces lo hi 1)) _ _ s
  rw [adjust_gen lo hi n]
  show wpAny _ _ (pure (((sIx n 0 lo : Nat) : Int), (1 : Int), Builtin.Slice.slicePlaces ((sIx n 0 lo : Nat) : Int) ((sIx n n hi : Nat) : Int) 1)) _ _ s
  rw [places_gen]
  exact wpAny_pure h
theorem pick_gen (xs : Array Value) (i k : Nat) : ((List.range k).filterMap fun (m : Nat) => xs[((i : Int) + (m : Int) * 1).toNat]?).toArray = ((xs.toList.drop i).take k).toArray := by
  have e : (fun (m : Nat) => xs[((i : Int) + (m : Int) * 1).toNat]?) = fun m => xs[i + m]? := by
    funext m
    have : ((i : Int) + (m : Int) * 1).toNat = i + m := by omega
    rw [this]
  rw [e]
  have := pick_run xs i k
  rw [List.filterMap_map] at this
  have e2 : ((fun x => xs[x]?) ∘ fun x => i + x) = fun m => xs[i + m]? := rfl
  rw [e2] at this
  rw [this]

theorem getItem_tuple_cut {t sl : Addr} {items : Array Value} {vl vu : Value} {lo hi : Option Int} {Q : Value → Shared → Prop} (ht : IsTup s.heap t items) (hs : s.heap.IsSliceOf sl vl vu .none) (pl : IsPart vl lo) (pu : IsPart vu hi)
    (hw : ¬ (sIx items.size 0 lo = 0 ∧ sIx items.size items.size hi = items.size))
    (h : Q (.ref s.heap.objs.size) { s with heap := s.heap.push { cls := .type "tuple", data := .seq ((items.toList.drop (sIx items.size 0 lo)).take (sIx items.size items.size hi - sIx items.size 0 lo)).toArray } })
    (hsz : items.size ≤ sizeLine) : wpAny (model prog w) A (getItem (.ref t) (.ref sl)) Q E s := by
  have htake : sizeOk (.seq ((items.toList.drop (sIx items.size 0 lo)).take (sIx items.size items.size hi - sIx items.size 0 lo)).toArray) := by
    show ((items.toList.drop (sIx items.size 0 lo)).take (sIx items.size items.size hi - sIx items.size 0 lo)).toArray.size ≤ sizeLine
    rw [List.size_toArray, List.length_take, List.length_drop, Array.length_toList]
    omega
  have hj : sIx items.size items.size hi ≤ items.size := sIx_le _ _ (Nat.le_refl _) hi
  obtain ⟨os, hos, hcs, hds⟩ := id hs
  have hTs : s.TypeIs (.ref sl) "slice" := ⟨os, hos, hcs⟩
  unfold getItem
  try with_reducible refine wpAny_holding ?_
  first | refine wpAny_bind (wpAny_pure ?_) | skip
  refine wpAny_bind (wpAny_sequenceKey ht.typeIs (by decide) ?_)
  refine wpAny_bind (wpAny_callSpecial?_slot (name := Str.ofString "__getitem__") ht.typeIs PyProof.Rows.slot_tuple_getitem
    (wpAny_call_entry PyProof.Rows.slot_tuple_getitem ht.typeIs entry_tuple_getitem ?_ (args_tuple_getitem _ _)))
  show wpAny _ _ (Builtin.Tuple.tupleItemsOf (.ref t) >>= _) _ _ s
  refine wpAny_bind (tupleItemsOf_ ht ?_)
  refine wpAny_bind (wpAny_typeOf hTs ?_)
  rw [if_pos (by decide)]
  refine wpAny_bind (sliceApplied_gen hs pl pu ?_)
  have hno : ¬ ((((sIx items.size 0 lo : Nat) : Int) == 0 && (1 : Int) == 1 && (sIx items.size items.size hi - sIx items.size 0 lo) == items.size) = true) := by
    intro q
    rw [Bool.and_eq_true, Bool.and_eq_true] at q
    have q1 : ((sIx items.size 0 lo : Nat) : Int) = 0 := eq_of_beq q.1.1
    have q2 : sIx items.size items.size hi - sIx items.size 0 lo = items.size := eq_of_beq q.2
    exact hw ⟨by omega, by omega⟩
  show wpAny _ _ (if (((sIx items.size 0 lo : Nat) : Int) == 0 && (1 : Int) == 1 && (sIx items.size items.size hi - sIx items.size 0 lo) == items.size) = true then _ else _) _ _ s
  rw [if_neg hno, pick_gen]
  first
    | exact wpAny_bind (m := Builtin.Tuple.tupleExact _) (wpAny_newObj_type (wpAny_pure ⟨_, rfl, wpAny_pure h⟩) htake)
    | exact wpAny_bind (m := Builtin.Tuple.tupleExact _) (wpAny_newObj_type (wpAny_bind (wpAny_pure (wpAny_pure ⟨_, rfl, wpAny_pure h⟩))) htake)
    | exact wpAny_bind (wpAny_bind (m := Builtin.Tuple.tupleExact _) (wpAny_newObj_type (wpAny_pure (wpAny_pure ⟨_, rfl, wpAny_pure h⟩)) htake))
    | exact wpAny_bind (wpAny_bind (m := Builtin.Tuple.tupleExact _) (wpAny_newObj_type (wpAny_pure ⟨_, rfl, wpAny_pure h⟩) htake))
end
end HT

namespace L2
open PySem PySem.Spec PyProof.Rows

/-! ### the parts of a slice -/
abbrev TO := St → Hp → (Option Int → Hp → Prop) → Prop
/-- a slice's part (left out, or an int) -/
def PO (X : Cx) (e : Option Expr) (t : TO) : Prop :=
  ∀ (pins : List (Addr × Obj)) (s : Shared) (σ : St) (H : Hp) (Q : Option Int → Hp → Prop), Inv X pins σ H s → t σ H Q →
    wpAny (model X.prog X.w) X.A (evalPart e X.env) (fun u s' => ∃ o H', Inv X pins σ H' s' ∧ IsPart u o ∧ Q o H') X.xe s
def tNoPart : TO := fun _ H Q => Q none H
def tPart (t : TE) : TO := fun σ H Q => t σ H fun x H1 => ∃ i, x = .int i ∧ Q (some i) H1

section
variable {X : Cx} {e : Expr} {te : TE} {lo hi : Option Expr} {tl th : TO} {pos p2 : Pos}

theorem po_none : PO X none tNoPart := by
  intro pins s σ H Q I h
  rw [evalPart_none]
  exact wpAny_pure ⟨none, H, I, .none, h⟩
theorem po_some (h : PE X e te) : PO X (some e) (tPart te) := by
  intro pins s σ H Q I hw
  rw [evalPart_some]
  refine thn (h pins s σ H _ I hw) fun u s1 ⟨x, H1, I1, r1, q1⟩ => ?_
  obtain ⟨i, rfl, q⟩ := q1
  obtain ⟨t, rfl⟩ := r1
  exact ⟨some i, H1, I1, .int i t, q⟩

/-- what a slice of a value is, by values: the slice object stands at sl -/
def SlR (X : Cx) (r : V → Option Int → Option Int → Hp → VK → Prop) : Prop :=
  ∀ (pins : List (Addr × Obj)) (s : Shared) (σ : St) (H : Hp) (x : V) (v vl vu : Value) (lo hi : Option Int) (sl : Addr) (Q : VK), Inv X pins σ H s → RelV x v → s.heap.IsSliceOf sl vl vu .none → IsPart vl lo → IsPart vu hi → r x lo hi H Q →
    ∃ T id, typeLookup (.type T) "__getitem__" = pure (some (.builtin id)) ∧ s.TypeIs v T ∧ wpAny (model X.prog X.w) X.A (getItem v (.ref sl)) (EP X pins σ Q) X.xe s
def tSl (r : V → Option Int → Option Int → Hp → VK → Prop) (te : TE) (tl th : TO) : TE := fun σ H Q => te σ H fun x H1 => tl σ H1 fun l H2 => th σ H2 fun u H3 => r x l u H3 Q
/-- a[lo:hi], any a -/
theorem pe_slice {r : V → Option Int → Option Int → Hp → VK → Prop} (hr : SlR X r) (he : PE X e te) (hl : PO X lo tl) (hu : PO X hi th) : PE X (.Subscript e (.Slice lo hi none p2) pos) (tSl r te tl th) := by
  intro pins s σ H Q I h
  refine Subscript_ (thn (he pins s σ H _ I h) fun v s1 ⟨x, H1, I1, r1, q1⟩ => ?_)
  refine wpAny_Slice (thn (hl pins s1 σ H1 _ I1 q1) fun vl s2 ⟨l, H2, I2, pl, q2⟩ => thn (hu pins s2 σ H2 _ I2 q2) fun vu s3 ⟨u, H3, I3, pu, q3⟩ => ?_)
  rw [evalPart_none]
  refine wpAny_pure ?_
  have I4 : Inv X pins σ H3 { s3 with heap := s3.heap.push { cls := .type "slice", data := .fields #[vl, vu, .none] } } := I3.kept (t' := s3.toks) fun b ob q => Heap.get?_push_of_some _ q
  obtain ⟨T, id, hT, ht, hg⟩ := hr pins { s3 with heap := s3.heap.push { cls := .type "slice", data := .fields #[vl, vu, .none] } } σ H3 x v vl vu l u s3.heap.objs.size Q I4 r1 (Heap.IsSliceOf.new ..) pl pu q3
  show wpAny (model X.prog X.w) X.A (subscriptTail e (.Slice lo hi none p2) v (.ref s3.heap.objs.size)) (EP X pins σ Q) X.xe { s3 with heap := s3.heap.push { cls := .type "slice", data := .fields #[vl, vu, .none] } }
  exact tail_any (ops := [.ref s3.heap.objs.size, v]) ht hT hg (by with_unfolding_all rfl)

/-- the items of xs[lo:hi] -/
def cutV (xs : List V) (lo hi : Option Int) : List V := (xs.drop (HT.sIx xs.length 0 lo)).take (HT.sIx xs.length xs.length hi - HT.sIx xs.length 0 lo)
theorem cutV_length (xs : List V) (lo hi : Option Int) : (cutV xs lo hi).length ≤ xs.length := by
  unfold cutV
  rw [List.length_take, List.length_drop]
  omega
/-- t[lo:hi], not the whole of it (the whole would be t itself) -/
def rSlT (K : PySem.W.Frag) : V → Option Int → Option Int → Hp → VK → Prop := fun x lo hi H Q => ∃ a xs, x = .ref a ∧ SqT K H a xs ∧
  ¬ (HT.sIx xs.length 0 lo = 0 ∧ HT.sIx xs.length xs.length hi = xs.length) ∧ ∀ p, H p = none → Q (.ref p) (upd H p (.tup (cutV xs lo hi)))
theorem sl_tup : SlR X (rSlT X.K) := by
  intro pins s σ H x v vl vu lo hi sl Q I rx hs pl pu h
  obtain ⟨a, xs, rfl, hx, hw, q⟩ := h
  cases rx
  obtain ⟨its, r, ht, hz⟩ := I.tuple hx
  have hlen : its.toArray.size = xs.length := by rw [List.size_toArray]; exact r.length.symm
  refine ⟨"tuple", _, PyProof.Rows.slot_tuple_getitem.lookup, ht.typeIs, ?_⟩
  refine HT.getItem_tuple_cut ht hs pl pu (by rw [hlen]; exact hw) ?_ (by rw [hlen]; exact hz)
  rw [hlen]
  refine ⟨.ref s.heap.objs.size, _, I.laid (t' := s.toks) (o := .tup (cutV xs lo hi)) (fun b ob q => Heap.get?_push_of_some _ q) (Nat.le_refl _) ?_, rfl, q _ (I.hok.fresh (Nat.le_refl _))⟩
  exact ⟨Nat.le_trans (cutV_length xs lo hi) hz, _, (r.drop (HT.sIx xs.length 0 lo)).take (HT.sIx xs.length xs.length hi - HT.sIx xs.length 0 lo), IsTup.new _ _, _, Heap.get?_push_size _ rfl, rfl⟩

/-! ### t < u, t + u -/
/-- t + u, t not empty: u empty gives t itself -/
def rCatT (K : PySem.W.Frag) : R2 := fun x y H Q => ∃ a b xs ys, x = .ref a ∧ y = .ref b ∧ SqT K H a xs ∧ SqT K H b ys ∧ xs ≠ [] ∧ xs.length + ys.length ≤ sizeLine ∧
  (ys = [] → Q (.ref a) H) ∧ (ys ≠ [] → ∀ p, H p = none → Q (.ref p) (upd H p (.tup (xs ++ ys))))
theorem Vals.nil_iff {xs : List V} {us : List Value} (r : Vals xs us) : us = [] ↔ xs = [] := by
  cases r with
  | nil => simp
  | cons _ _ => simp
theorem op_catT : OpR X (binaryOp .Add) (rCatT X.K) := by
  intro pins s σ H x y v u Q I rx ry h
  obtain ⟨a, b, xs, ys, rfl, rfl, ha, hb, hx, hz, q1, q2⟩ := h
  cases rx
  cases ry
  obtain ⟨its, r1, p1, _⟩ := I.tuple ha
  obtain ⟨its2, r2, p2, _⟩ := I.tuple hb
  refine HT.cat_tup p1 p2 (fun z => hx (r1.nil_iff.mp z)) (fun z => ⟨.ref a, H, I, rfl, q1 (r2.nil_iff.mp z)⟩) (fun z => ?_) (by rw [← r1.length, ← r2.length]; exact hz)
  refine ⟨.ref s.heap.objs.size, _, I.laid (t' := s.toks) (o := .tup (xs ++ ys)) (fun b ob q => Heap.get?_push_of_some _ q) (Nat.le_refl _) ?_, rfl, q2 (fun w => z (r2.nil_iff.mpr w)) _ (I.hok.fresh (Nat.le_refl _))⟩
  exact ⟨by rw [List.length_append]; exact hz, _, r1.append r2, IsTup.new _ _, _, Heap.get?_push_size _ rfl, rfl⟩
end
end L2

namespace L2
open PySem PySem.Spec PyProof.Rows

/-! ### places -/
/-- the place that an index of any sign means -/
def ixN (n : Nat) (i : Int) : Option Nat := if 0 ≤ i then (if i < n then some i.toNat else none) else if -(n : Int) ≤ i then some (i + n).toNat else none
def atI {α : Type} (xs : List α) (i : Int) : Option α := (ixN xs.length i).bind fun j => xs[j]?
theorem ixN_seq {n : Nat} {i : Int} {j : Nat} (h : ixN n i = some j) : seqIndex? i n = some j ∧ j < n ∧ -(n : Int) ≤ i ∧ i < n := by
  unfold ixN at h
  by_cases h0 : 0 ≤ i
  · rw [if_pos h0] at h
    by_cases h1 : i < n
    · rw [if_pos h1] at h
      have e : i.toNat = j := Option.some.inj h
      exact ⟨by rw [seqIndex_of h0 h1, e], by omega, by omega, h1⟩
    · rw [if_neg h1] at h; cases h
  · rw [if_neg h0] at h
    by_cases h1 : -(n : Int) ≤ i
    · rw [if_pos h1] at h
      have e : (i + n).toNat = j := Option.some.inj h
      exact ⟨by rw [seqIndex_neg (by omega) h1, e], by omega, h1, by omega⟩
    · rw [if_neg h1] at h; cases h
theorem atI_get {α : Type} {xs : List α} {i : Int} {v : α} (h : atI xs i = some v) : ∃ j, seqIndex? i xs.length = some j ∧ xs[j]? = some v ∧ j < xs.length ∧ -(xs.length : Int) ≤ i ∧ i < xs.length := by
  unfold atI at h
  cases e : ixN xs.length i with
  | none => rw [e] at h; cases h
  | some j =>
    rw [e] at h
    obtain ⟨h1, h2, h3, h4⟩ := ixN_seq e
    exact ⟨j, h1, h, h2, h3, h4⟩
theorem atI_nat {α : Type} {xs : List α} {j : Nat} {v : α} (h : xs[j]? = some v) : atI xs (j : Int) = some v := by
  have hj : j < xs.length := (List.getElem?_eq_some_iff.mp h).1
  have e : ixN xs.length (j : Int) = some j := by
    unfold ixN
    rw [if_pos (by omega), if_pos (by omega)]; simp
  unfold atI; rw [e]; exact h
/-! ### what may be subscripted -/
/-- what stands as an index of a plain subscript -/
def PlainIx (b : Expr) : Prop := ∀ o i, subscripted b false o i = operate [o, i] (getItem o i)
/-- a subscript by values -/
def IxR (X : Cx) (r : R2) : Prop :=
  ∀ (value slice : Expr) (pins : List (Addr × Obj)) (s : Shared) (σ : St) (H : Hp) (x y : V) (v u : Value) (Q : VK), Inv X pins σ H s → RelV x v → RelV y u → r x y H Q →
    subscripted slice false v u = operate [v, u] (getItem v u) → wpAny (model X.prog X.w) X.A (subscriptTail value slice v u) (EP X pins σ Q) X.xe s
/-- a call of a builtin's method by values: the receiver, the arguments -/
def MtR (X : Cx) (id : String) (r : V → List V → Hp → VK → Prop) : Prop :=
  ∀ (pins : List (Addr × Obj)) (s : Shared) (σ : St) (H : Hp) (x : V) (xs : List V) (v : Value) (us : List Value) (Q : VK), Inv X pins σ H s → RelV x v → Vals xs us → r x xs H Q →
    wpAny (model X.prog X.w) X.A (call (.builtin id) (v :: us)) (EP X pins σ Q) X.xe s
section
variable {X : Cx} {a b : Expr} {ta tb : TE} {pos : Pos}
theorem IxR.or {r r' : R2} (h : IxR X r) (h' : IxR X r') : IxR X (fun x y H Q => r x y H Q ∨ r' x y H Q) := by
  intro value slice pins s σ H x y v u Q I rx ry q hs
  rcases q with q | q
  · exact h value slice pins s σ H x y v u Q I rx ry q hs
  · exact h' value slice pins s σ H x y v u Q I rx ry q hs
/-- a[b] -/
theorem pe_ix {r : R2} (hr : IxR X r) (ha : PE X a ta) (hb : PE X b tb) (hs : PlainIx b) : PE X (.Subscript a b pos) (tOp r ta tb) := by
  intro pins s σ H Q I h
  exact Subscript_ (binT ha hb I h fun v u s2 x y H2 I2 rx ry q => hr a b pins s2 σ H2 x y v u Q I2 rx ry q (hs _ _))

def rIxL (K : PySem.W.Frag) : R2 := fun x y H Q => ∃ p xs i v, x = .ref p ∧ y = .int i ∧ SqL K H p xs ∧ atI xs i = some v ∧ Q v H
def rIxT (K : PySem.W.Frag) : R2 := fun x y H Q => ∃ p xs i v, x = .ref p ∧ y = .int i ∧ SqT K H p xs ∧ atI xs i = some v ∧ Q v H
def rIxS : R2 := fun x y H Q => ∃ z i c, x = .str z ∧ y = .int i ∧ z.length ≤ sizeLine ∧ atI z.cps.toList i = some c ∧ Q (.str ⟨#[c]⟩) H
theorem ix_list : IxR X (rIxL X.K) := by
  intro value slice pins s σ H x y v u Q I rx ry h hs
  obtain ⟨p, xs, i, z, rfl, rfl, hq, he, q⟩ := h
  cases rx
  obtain ⟨t, rfl⟩ := ry
  obtain ⟨its, r, pl, hz⟩ := I.list hq
  obtain ⟨j, h1, h2, h3, h4, h5⟩ := atI_get he
  obtain ⟨w, ew, rw'⟩ := r.get h2
  have hl := r.length
  have hn := line63
  have fin : EP X pins σ Q w s := ⟨z, H, I, rw', q⟩
  by_cases h0 : 0 ≤ i
  · have hj : i.toNat = j := by
      rw [seqIndex_of h0 h5] at h1
      exact Option.some.inj h1
    exact item_listR pl.isList h0 (by omega) (by rw [hj]; simpa using ew) fin hs
  · have hj : (i + (its.toArray.size : Int)).toNat = j := by
      rw [seqIndex_neg (by omega) h4] at h1
      rw [List.size_toArray, ← hl]
      exact Option.some.inj h1
    exact subscriptTail_builtinR (x := w) pl.isList.typeIs slot_list_getitem.lookup
      (wpAny_getItem_list_neg (Q := fun r s' => r = w ∧ EP X pins σ Q r s') pl.isList (by omega) (by rw [List.size_toArray] <;> omega) (by omega) (by rw [hj]; simpa using ew) ⟨rfl, fin⟩) hs
theorem ix_tup : IxR X (rIxT X.K) := by
  intro value slice pins s σ H x y v u Q I rx ry h hs
  obtain ⟨p, xs, i, z, rfl, rfl, hq, he, q⟩ := h
  cases rx
  obtain ⟨t, rfl⟩ := ry
  obtain ⟨its, r, pl, hz⟩ := I.tuple hq
  obtain ⟨j, h1, h2, h3, h4, h5⟩ := atI_get he
  obtain ⟨w, ew, rw'⟩ := r.get h2
  have hl := r.length
  have hn := line63
  have fin : EP X pins σ Q w s := ⟨z, H, I, rw', q⟩
  exact subscriptTail_builtinR (x := w) pl.typeIs slot_tuple_getitem.lookup
    (getItem_tuple (j := j) (Q := fun r s' => r = w ∧ EP X pins σ Q r s') pl (by omega) (by omega) (by rw [List.size_toArray, ← hl]; exact h1) (by simpa using ew) ⟨rfl, fin⟩) hs
theorem ix_str : IxR X rIxS := by
  intro value slice pins s σ H x y v u Q I rx ry h hs
  obtain ⟨z, i, c, rfl, rfl, hz, he, q⟩ := h
  obtain ⟨t, rfl⟩ := rx
  obtain ⟨t', rfl⟩ := ry
  obtain ⟨j, h1, h2, h3, h4, h5⟩ := atI_get he
  have hl : z.cps.toList.length = z.length := by simp [Str.length]
  rw [hl] at h1 h4 h5
  have hn := line63
  exact tail_any (typeIs_str s z t) slot_str_getitem.lookup (getItem_str (c := c) (by
    have e1 : decide (i < -(2 ^ 63 : Int)) = false := decide_eq_false (by omega)
    have e2 : decide (i ≥ 2 ^ 63) = false := decide_eq_false (by omega)
    rw [e1, e2, Bool.or_false]) (by rw [h1]; simpa using h2) ⟨.str ⟨#[c]⟩, H, I.tok _, ⟨_, rfl⟩, q⟩) hs
/-- list, tuple or str -/
def rIx (K : PySem.W.Frag) : R2 := fun x y H Q => rIxL K x y H Q ∨ rIxT K x y H Q ∨ rIxS x y H Q
theorem ix_seq : IxR X (rIx X.K) := ix_list.or (ix_tup.or ix_str)

/-! ### xs[i] = v, any sign -/
/-- the list's object behind a store -/
theorem mapSeq_set (its : List Value) (n j : Nat) (u : Value) : Obj.mapSeq (·.setIfInBounds j u) { cls := .type "list", data := .seq its.toArray n } = { cls := .type "list", data := .seq (its.set j u).toArray n } := by
  simp [Obj.mapSeq]
theorem Inv.lst {pins : List (Addr × Obj)} {σ : St} {H : Hp} {s : Shared} {p : Addr} {xs : List V} (I : Inv X pins σ H s) (h : H p = some (.lst xs)) :
    ∃ (its : List Value) (n : Nat), Vals xs its ∧ s.heap.get? p = some { cls := .type "list", data := .seq its.toArray n } ∧ xs.length ≤ sizeLine := by
  obtain ⟨z, its, n, r, e⟩ := I.hok p _ h
  exact ⟨its, n, r, e, z⟩
/-- the list at p is written by an update of its object -/
theorem Inv.lstUpd {pins : List (Addr × Obj)} {σ : St} {H : Hp} {s : Shared} {p : Addr} {xs ys : List V} {its its' : List Value} {n n' : Nat} {f : Obj → Obj} (I : Inv X pins σ H s) (h : H p = some (.lst xs))
    (ho : s.heap.get? p = some { cls := .type "list", data := .seq its.toArray n }) (hf : f { cls := .type "list", data := .seq its.toArray n } = { cls := .type "list", data := .seq its'.toArray n' }) (r : Vals ys its') (hz : ys.length ≤ sizeLine) (t : Nat) :
    Inv X pins σ (upd H p (.lst ys)) { s with heap := s.heap.update p f, toks := t } := by
  have e : (s.heap.update p f).get? p = some { cls := .type "list", data := .seq its'.toArray n' } := by
    rw [Heap.get?_update_self f ho (by rw [hf] <;> rfl), hf]
  refine I.write (x := p) (e := p) (by rw [h]; trivial) (.inl rfl) (fun b u hb q => (Heap.get?_update_other _ _ (Ne.symm hb)).trans q) ⟨_, e⟩ ?_
  exact ⟨hz, its', n', r, e⟩
def rSetL : V → V → V → Hp → (Hp → Prop) → Prop := fun o i v H Q => ∃ p xs k j, o = .ref p ∧ i = .int k ∧ H p = some (.lst xs) ∧ ixN xs.length k = some j ∧ Q (upd H p (.lst (xs.set j v)))
theorem set_list : PSet X rSetL := by
  intro pins s σ H o i v ov iv u Q I ro ri rv h
  obtain ⟨p, xs, k, j, rfl, rfl, hp, hj, q⟩ := h
  cases ro
  obtain ⟨t, rfl⟩ := ri
  obtain ⟨its, n, r, ho, hz⟩ := I.lst hp
  obtain ⟨h1, h2, h3, h4⟩ := ixN_seq hj
  have hl := r.length
  have hn := line63
  have I' : Inv X pins σ (upd H p (.lst (xs.set j v))) { s with heap := s.heap.update p (Obj.mapSeq (·.setIfInBounds j u)) } :=
    I.lstUpd hp ho (mapSeq_set its n j u) (r.set rv j) (by rw [List.length_set]; exact hz) s.toks
  by_cases h0 : 0 ≤ k
  · have hk : k.toNat = j := by
      rw [seqIndex_of h0 h4] at h1
      exact Option.some.inj h1
    exact PySem.W.ki_setAt ho h0 (by omega) (by rw [List.size_toArray, ← hl]; exact h4) (by rw [hk]; exact ⟨_, I', q⟩)
  · have hk : (k + (its.toArray.size : Int)).toNat = j := by
      rw [seqIndex_neg (by omega) h3] at h1
      rw [List.size_toArray, ← hl]
      exact Option.some.inj h1
    exact PySem.W.ki_setBack ho (by omega) (by rw [List.size_toArray, ← hl]; exact h3) (by omega) (by rw [hk]; exact ⟨_, I', q⟩)

/-! ### slices -/
theorem slice_bounds (lo hi : Option Int) (n : Nat) : (sliceBounds lo hi none n).1 = ((HT.sIx n 0 lo : Nat) : Int) ∧ (sliceBounds lo hi none n).2.1 = ((HT.sIx n n hi : Nat) : Int) ∧ (sliceBounds lo hi none n).2.2 = 1 := by
  refine ⟨?_, ?_, rfl⟩
  · cases lo with
    | none => simp [sliceBounds, HT.sIx]
    | some i =>
      simp only [sliceBounds, HT.sIx, Option.getD_none, show (1 : Int) > 0 by decide, if_true]
      by_cases h : i < 0
      · simp only [h, if_true] <;> omega
      · simp only [h, if_false] <;> omega
  · cases hi with
    | none => simp [sliceBounds, HT.sIx]
    | some i =>
      simp only [sliceBounds, HT.sIx, Option.getD_none, show (1 : Int) > 0 by decide, if_true]
      by_cases h : i < 0
      · simp only [h, if_true] <;> omega
      · simp only [h, if_false] <;> omega
theorem slicePick_cut (its : List Value) (lo hi : Option Int) : slicePick its.toArray lo hi none = ((its.drop (HT.sIx its.length 0 lo)).take (HT.sIx its.length its.length hi - HT.sIx its.length 0 lo)).toArray := by
  obtain ⟨h1, h2, h3⟩ := slice_bounds lo hi its.toArray.size
  unfold slicePick
  rw [h1, h2, h3]
  simp only [sliceRange_one, pick_run, List.size_toArray] <;> rfl
/-- xs[lo:hi] of a list: a new list -/
def rSlL (K : PySem.W.Frag) : V → Option Int → Option Int → Hp → VK → Prop := fun x lo hi H Q => ∃ a xs, x = .ref a ∧ SqL K H a xs ∧ ∀ p, H p = none → Q (.ref p) (upd H p (.lst (cutV xs lo hi)))
theorem sl_list : SlR X (rSlL X.K) := by
  intro pins s σ H x v vl vu lo hi sl Q I rx hs pl pu h
  obtain ⟨a, xs, rfl, hx, q⟩ := h
  cases rx
  obtain ⟨its, r, ht, hz⟩ := I.list hx
  have hlen := r.length
  refine ⟨"list", _, slot_list_getitem.lookup, ht.isList.typeIs, ?_⟩
  refine wpAny_getItem_list_slice ht.isList hs pl pu .none (by simp) ?_ (by rw [List.size_toArray] <;> omega)
  rw [slicePick_cut, ← hlen]
  refine ⟨.ref s.heap.objs.size, _, I.laid (t' := s.toks) (o := .lst (cutV xs lo hi)) (fun b ob q => Heap.get?_push_of_some _ q) (Nat.le_refl _) ?_, rfl, q _ (I.hok.fresh (Nat.le_refl _))⟩
  exact ⟨Nat.le_trans (cutV_length xs lo hi) hz, _, 0, (r.drop (HT.sIx xs.length 0 lo)).take (HT.sIx xs.length xs.length hi - HT.sIx xs.length 0 lo), Heap.get?_push_size _ rfl⟩

/-! ### in, not in: flat items -/
/-! ### len, list(x), tuple(x) of any list or tuple that is read -/
theorem call_len_seq : CallR X (.builtin "len") (fun xs H Q => ∃ p ys, xs = [.ref p] ∧ (SqL X.K H p ys ∨ SqT X.K H p ys) ∧ Q (.int ys.length) H) := by
  intro pins s σ H xs us Q I r h
  obtain ⟨p, ys, rfl, hq, q⟩ := h
  obtain ⟨u, rfl, rx⟩ := vals1 r
  cases rx
  have hn := line63
  rcases hq with hq | hq
  · obtain ⟨its, r', pl, hz⟩ := I.list hq
    have hlen := r'.length
    exact Calls.call_len_list pl.isList (by simp only [List.size_toArray] <;> omega) ⟨.int ys.length, H, I.tok _, ⟨s.toks + 1, by rw [List.size_toArray, hlen]⟩, q⟩
  · obtain ⟨its, r', pl, hz⟩ := I.tuple hq
    have hlen := r'.length
    exact len_tuple pl (by simp only [List.size_toArray] <;> omega) ⟨.int ys.length, H, I.tok _, ⟨s.toks + 1, by rw [List.size_toArray, hlen]⟩, q⟩
theorem call_list_of : CallR X (.type "list") (fun xs H Q => ∃ p ys, xs = [.ref p] ∧ (SqL X.K H p ys ∨ SqT X.K H p ys) ∧ ∀ l, H l = none → Q (.ref l) (upd H l (.lst ys))) := by
  intro pins s σ H xs us Q I r h
  obtain ⟨p, ys, rfl, hq, q⟩ := h
  obtain ⟨u, rfl, rx⟩ := vals1 r
  cases rx
  have fin : ∀ (its : List Value), Vals ys its → ys.length ≤ sizeLine → ∀ (h' : Heap) (c' : Nat), (∀ b o', s.heap.get? b = some o' → h'.get? b = some o') →
      h'.get? s.heap.objs.size = some { cls := .type "list", dict := none, data := .seq its.toArray c', slots := #[] } → EP X pins σ Q (.ref s.heap.objs.size) { s with heap := h' } := fun its r' hz h' c' kp e =>
    ⟨.ref s.heap.objs.size, _, I.laid (t' := s.toks) kp (Nat.le_refl _) (show ObjOk X.prog X.w _ h' _ (.lst ys) from ⟨hz, its, c', r', e⟩), rfl, q _ (I.hok.fresh (Nat.le_refl _))⟩
  rcases hq with hq | hq
  · obtain ⟨its, r', pl, hz⟩ := I.list hq
    have hlen := r'.length
    obtain ⟨o, ho, hc, n, hd⟩ := pl.isList
    exact call_list_seq p (.inl rfl) ho hc hd (fun h' c' kp e => fin its r' hz h' c' kp e) (by simp only [List.size_toArray] <;> omega)
  · obtain ⟨its, r', pl, hz⟩ := I.tuple hq
    have hlen := r'.length
    obtain ⟨o, ho, hc, n, hd⟩ := pl
    exact call_list_seq p (.inr rfl) ho hc hd (fun h' c' kp e => fin its r' hz h' c' kp e) (by simp only [List.size_toArray] <;> omega)
theorem call_tuple_of : CallR X (.type "tuple") (fun xs H Q => ∃ p ys, xs = [.ref p] ∧ ((SqL X.K H p ys ∧ ∀ l, H l = none → Q (.ref l) (upd H l (.tup ys))) ∨ (SqT X.K H p ys ∧ Q (.ref p) H))) := by
  intro pins s σ H xs us Q I r h
  obtain ⟨p, ys, rfl, h⟩ := h
  obtain ⟨u, rfl, rx⟩ := vals1 r
  cases rx
  rcases h with ⟨hq, q⟩ | ⟨hq, q⟩
  · obtain ⟨its, r', pl, hz⟩ := I.list hq
    have hlen := r'.length
    refine call_tuple_list pl.isList (fun h' kp => ?_) (by simp only [List.size_toArray] <;> omega)
    have I1 : Inv X pins σ H { s with heap := h' } := I.kept (t' := s.toks) kp
    have I2 : Inv X pins σ (upd H h'.objs.size (.tup ys)) { s with heap := h'.push { cls := .type "tuple", data := .seq its.toArray } } :=
      I1.laid (t' := s.toks) (fun b o e => Heap.get?_push_of_some _ e) (Nat.le_refl _) (show ObjOk X.prog X.w _ _ _ (.tup ys) from ⟨hz, its, r', IsTup.new _ _, _, Heap.get?_push_size _ rfl, rfl⟩)
    exact ⟨.ref h'.objs.size, _, I2, rfl, q _ (I1.hok.fresh (Nat.le_refl _))⟩
  · obtain ⟨its, r', pl, hz⟩ := I.tuple hq
    exact call_tuple_same pl ⟨.ref p, H, I, rfl, q⟩

/-! ### the call of a builtin's method: o.m(..) -/
/-- the value is of that builtin type -/
def tyV (K : PySem.W.Frag) (T : String) (x : V) (H : Hp) : Prop := match x with
  | .str _ => T = "str"
  | .int _ => T = "int"
  | .ref p => (T = "list" ∧ ∃ xs, SqL K H p xs) ∨ (T = "tuple" ∧ ∃ o, K.lookup p = some o ∧ o.cls = .type "tuple" ∧ o.dict = none) ∨
      (T = "dict" ∧ ((∃ kvs, H p = some (.dK kvs)) ∨ ∃ kvs, H p = some (.dT kvs))) ∨ (T = "set" ∧ ∃ S n, H p = some (.set S n))
  | _ => False
theorem tyV_is {pins : List (Addr × Obj)} {σ : St} {H : Hp} {s : Shared} {T : String} {x : V} {v : Value} (I : Inv X pins σ H s) (r : RelV x v) (ty : tyV X.K T x H) :
    s.TypeIs v T ∧ ∀ a, v = .ref a → ∃ ob, s.heap.get? a = some ob ∧ ob.dict = none := by
  cases x with
  | str z =>
    obtain ⟨t, rfl⟩ := r
    cases (show T = "str" from ty)
    exact ⟨typeIs_str s z t, fun _ e => nomatch e⟩
  | int i =>
    obtain ⟨t, rfl⟩ := r
    cases (show T = "int" from ty)
    exact ⟨typeIs_int s i t, fun _ e => nomatch e⟩
  | ref p =>
    cases r
    rcases ty with ⟨rfl, xs, hq⟩ | ⟨rfl, o, hk, hc, hd⟩ | ⟨rfl, hk⟩ | ⟨rfl, S, n, hk⟩
    · obtain ⟨its, _, pl, _⟩ := I.list hq
      refine ⟨pl.isList.typeIs, fun a e => ?_⟩
      cases e
      obtain ⟨o, n, e, c, hd, _⟩ := pl
      exact ⟨o, e, hd⟩
    · refine ⟨⟨o, I.kIn p o hk, hc⟩, fun a e => ?_⟩
      cases e
      exact ⟨o, I.kIn _ o hk, hd⟩
    · have z : ∃ o, s.heap.get? p = some o ∧ o.ExactDict := by
        rcases hk with ⟨kvs, hk⟩ | ⟨kvs, hk⟩
        · obtain ⟨_, _, _, _, o, _, _, e, ex, _⟩ := I.hok p _ hk
          exact ⟨o, e, ex⟩
        · obtain ⟨_, _, _, _, o, _, _, e, ex, _⟩ := I.hok p _ hk
          exact ⟨o, e, ex⟩
      obtain ⟨o, e, ex⟩ := z
      refine ⟨⟨o, e, ex.1⟩, fun a e2 => ?_⟩
      cases e2
      exact ⟨o, e, ex.2.1⟩
    · obtain ⟨o, _, _, _, e, ex, _⟩ := I.hok p _ hk
      refine ⟨⟨o, e, ex.1⟩, fun a e2 => ?_⟩
      cases e2
      exact ⟨o, e, ex.2.1⟩
  | _ => exact False.elim ty
def tBM (K : PySem.W.Frag) (T : String) (r : V → List V → Hp → VK → Prop) (to : TE) (t : TA) : TE := fun σ H Q => to σ H fun x H1 => tyV K T x H1 ∧ t σ H1 fun xs H2 => r x xs H2 Q
variable {o e : Expr} {es : List Expr} {to : TE} {t : TA} {name : Str} {apos cpos : Pos} {T id : String} {r : V → List V → Hp → VK → Prop}
theorem pe_bm (pa : PlainAttrs T) (slot : Slot T name id) (hty : typeOf (.builtin id) = pure (.type "method_descriptor")) (hm : MtR X id r) (ho : PE X o to) (ha : PA X (e :: es) t)
    (hbase : attributeBase o name X.env (eval o X.env) = eval o X.env := by rfl)
    (hfew : ((backTo cpos (starEach (e :: es) X.env)).all (fun x => !x.1) && (backToKw cpos (keywordEach [] X.env)).all (fun x => x.1.isSome)
      && decide ((e :: es).length + ([] : List Keyword).length + (if ([] : List Keyword).isEmpty then 0 else 1) < 30)) = true := by rfl)
    (hline : (apos.endLine == cpos.line) = true := by rfl) (hs : starEach (e :: es) X.env = (false, eval e X.env) :: starEach es X.env := by rfl) (hplain : (backTo cpos (starEach es X.env)).any (·.1) = false := by rfl) :
    PE X (.Call (.Attribute o name apos) (e :: es) [] cpos) (tBM X.K T r to t) := by
  intro pins s σ H Q I h
  refine wpAny_Call_method_late hbase hfew hline rfl (thn (ho pins s σ H _ I h) fun v s1 ⟨x, H1, I1, r1, ty, q1⟩ => ?_)
  obtain ⟨h1, h2⟩ := tyV_is I1 r1 ty
  refine ⟨T, id, pa, slot, hty, h1, h2, ?_⟩
  have hA := ha cpos pins s1 σ H1 _ I1 q1
  rw [hs] at hA ⊢
  refine Calls.callWith_builtin (by show (false || (backTo cpos (starEach es X.env)).any (·.1)) = false; rw [hplain] <;> rfl) (Calls.evalArgs_plain ?_)
  exact thn hA fun us s2 ⟨vs, H2, I2, r2, q2⟩ => hm pins s2 σ H2 x vs v us Q I2 r1 r2 q2
/- xs.append(e), list.index on a module's tuple .. are MtR facts of 06m -/
end
end L2

namespace L2
open PySem PySem.Spec PyProof.Rows

def MtM (X : Cx) (id : String) (r : V → List V → Hp → VK → Prop) : Prop :=
  ∀ (pins : List (Addr × Obj)) (s : Shared) (σ : St) (H : Hp) (x : V) (xs : List V) (v : Value) (us : List Value) (Q : VK), Inv X pins σ H s → RelV x v → Vals xs us → r x xs H Q →
    wpAny (model X.prog X.w) X.A (call (.builtin id) (v :: us)) (EP X pins σ Q) X.xe s

/-! ### lists of values -/
theorem Vals.one : ∀ {x : V} {us : List Value}, Vals [x] us → ∃ u, us = [u] ∧ RelV x u
  | _, _, .cons r .nil => ⟨_, rfl, r⟩
theorem Vals.two : ∀ {x y : V} {us : List Value}, Vals [x, y] us → ∃ u v, us = [u, v] ∧ RelV x u ∧ RelV y v
  | _, _, _, .cons r (.cons q .nil) => ⟨_, _, rfl, r, q⟩
theorem Vals.rep {xs : List V} {us : List Value} (h : Vals xs us) : ∀ k : Nat, Vals (List.replicate k xs).flatten (List.replicate k us).flatten
  | 0 => .nil
  | k + 1 => by
    rw [List.replicate_succ, List.replicate_succ, List.flatten_cons, List.flatten_cons]
    exact Vals.append h (Vals.rep h k)
theorem foldl_rep (its : List Value) : ∀ (k : Nat) (acc : List Value),
    List.foldl (fun x1 x2 => x1 ++ x2) acc.toArray (List.replicate k its.toArray) = (acc ++ (List.replicate k its).flatten).toArray
  | 0, acc => by simp
  | k + 1, acc => by
    have e : acc.toArray ++ its.toArray = (acc ++ its).toArray := by simp
    have e2 : (acc ++ its) ++ (List.replicate k its).flatten = acc ++ (List.replicate (k + 1) its).flatten := by
      rw [List.replicate_succ, List.flatten_cons, List.append_assoc]
    rw [← e2, ← foldl_rep its k (acc ++ its), ← e, List.replicate_succ, List.foldl_cons]

section
variable {X : Cx} {pins : List (Addr × Obj)} {σ : St} {H : Hp} {s : Shared} {l b : Addr} {xs ys zs : List V}

/-! ### the two steps: a tracked list is rewritten, a new list is laid -/
theorem Inv.lset {its its' : List Value} {n : Nat} {f : Array Value → Array Value} {t' : Nat} (I : Inv X pins σ H s) (hH : H l = some (.lst xs))
    (e : s.heap.get? l = some { cls := .type "list", data := .seq its.toArray n }) (hf : f its.toArray = its'.toArray) (hv : Vals ys its') (hz : ys.length ≤ sizeLine) :
    Inv X pins σ (upd H l (.lst ys)) { s with heap := s.heap.update l (Obj.mapSeq f), toks := t' } := by
  have q := PySem.IsL.update e f
  rw [hf] at q
  refine I.write (x := l) (e := l) (by rw [hH]; exact trivial) (.inl rfl) (fun b' u hb hu => (Heap.get?_update_other s.heap (Obj.mapSeq f) (Ne.symm hb)).trans hu) ⟨_, q⟩ ?_
  exact ⟨hz, its', _, hv, q⟩
theorem Inv.lnew {its : List Value} {t' : Nat} (I : Inv X pins σ H s) (hv : Vals ys its) (hz : ys.length ≤ sizeLine) :
    Inv X pins σ (upd H s.heap.objs.size (.lst ys)) { s with heap := s.heap.push { cls := .type "list", data := .seq its.toArray }, toks := t' } :=
  I.laid (fun _ _ q => Heap.get?_push_of_some _ q) (Nat.le_refl _) ⟨hz, its, 0, hv, Heap.get?_push_size _ rfl⟩
theorem Inv.fresh (I : Inv X pins σ H s) : H s.heap.objs.size = none := I.hok.fresh (Nat.le_refl _)
theorem Inv.lstM (I : Inv X pins σ H s) (hH : H l = some (.lst xs)) : xs.length ≤ sizeLine ∧ ∃ (its : List Value) (n : Nat), Vals xs its ∧ xs.length = its.length ∧ s.heap.get? l = some { cls := .type "list", data := .seq its.toArray n } := by
  obtain ⟨z, its, n, r, e⟩ := I.hok l _ hH
  exact ⟨z, its, n, r, r.length, e⟩

theorem notLongL {n : Nat} (h : n ≤ sizeLine) : Builtin.List.listTooLong n = false := by
  unfold Builtin.List.listTooLong
  exact decide_eq_false (by omega)
end

section
variable {X : Cx}

/-! ### methods -/
def rAppend : V → List V → Hp → VK → Prop := fun x vs H Q => ∃ l xs y, x = .ref l ∧ vs = [y] ∧ H l = some (.lst xs) ∧ xs.length < sizeLine ∧ Q .non (upd H l (.lst (xs ++ [y])))
theorem mt_append : MtM X "list.append" rAppend := by
  intro pins s σ H x vs v us Q I rx rv h
  obtain ⟨l, xs, y, rfl, rfl, hH, hz, q⟩ := h
  cases rx
  obtain ⟨u, rfl, ru⟩ := rv.one
  obtain ⟨z, its, n, r, hl, e⟩ := I.lstM hH
  refine call_meets F.slot_list_append ⟨_, e, rfl⟩ F.entry_list_append (F.args_list_append_2 _ _) (PySem.list_append l its.toArray n u (by rw [List.size_toArray]; omega)) ⟨e, ?_⟩
  refine ⟨.non, _, I.lset (its' := its ++ [u]) hH e (by simp) (r.append (.cons ru .nil)) ?_, rfl, q⟩
  rw [List.length_append, List.length_singleton]
  omega

def rExtend : V → List V → Hp → VK → Prop := fun x vs H Q => ∃ l b xs zs, x = .ref l ∧ vs = [.ref b] ∧ H l = some (.lst xs) ∧ H b = some (.lst zs) ∧ xs.length + zs.length ≤ sizeLine ∧ Q .non (upd H l (.lst (xs ++ zs)))
theorem mt_extend : MtM X "list.extend" rExtend := by
  intro pins s σ H x vs v us Q I rx rv h
  obtain ⟨l, b, xs, zs, rfl, rfl, hH, hB, hz, q⟩ := h
  cases rx
  obtain ⟨u, rfl, ru⟩ := rv.one
  cases ru
  obtain ⟨z, its, n, r, hl, e⟩ := I.lstM hH
  obtain ⟨z2, its2, n2, r2, hl2, e2⟩ := I.lstM hB
  have hsz : its.toArray.size + its2.toArray.size ≤ sizeLine := by rw [List.size_toArray, List.size_toArray]; omega
  have hlong : ¬ (!its.toArray.isEmpty && Builtin.List.listTooLong (its.toArray.size + its2.toArray.size)) = true := by
    rw [notLongL hsz, Bool.and_false]
    exact Bool.false_ne_true
  refine call_meets F.slot_list_extend ⟨_, e, rfl⟩ F.entry_list_extend (F.args_list_extend_2 _ _)
    (AutoSeq1.list_extend_list_list_0 l its.toArray n b its2.toArray n2 hlong (by rw [List.size_toArray]; omega) (by omega)) ⟨e, e2, ?_⟩
  refine ⟨.non, _, I.lset (its' := its ++ its2) hH e (by simp) (r.append r2) ?_, rfl, q⟩
  rw [List.length_append]
  omega

/-! ### list + list, list += list, list * int -/
def rCat : R2 := fun x y H Q => ∃ l b xs zs, x = .ref l ∧ y = .ref b ∧ H l = some (.lst xs) ∧ H b = some (.lst zs) ∧ xs.length + zs.length ≤ sizeLine ∧ ∀ p, H p = none → Q (.ref p) (upd H p (.lst (xs ++ zs)))
theorem op_cat : OpR X (binaryOp .Add) rCat := by
  intro pins s σ H x y v u Q I rx ry h
  obtain ⟨l, b, xs, zs, rfl, rfl, hH, hB, hz, q⟩ := h
  cases rx
  cases ry
  obtain ⟨z, its, n, r, hl, e⟩ := I.lstM hH
  obtain ⟨z2, its2, n2, r2, hl2, e2⟩ := I.lstM hB
  refine PySem.P.add_list e e2 ?_ (by rw [List.size_toArray, List.size_toArray]; omega)
  have ea : its.toArray ++ its2.toArray = (its ++ its2).toArray := by simp
  rw [ea]
  exact ⟨.ref _, _, I.lnew (t' := s.toks) (r.append r2) (by rw [List.length_append]; omega), rfl, q _ I.fresh⟩
/-- a list times an int (a negative one is nothing) -/
def rRep : R2 := fun x y H Q => ∃ l k xs, x = .ref l ∧ y = .int k ∧ H l = some (.lst xs) ∧ -(2 ^ 63) ≤ k ∧ k < 2 ^ 63 ∧ xs.length * k.toNat ≤ sizeLine ∧
  ∀ p, H p = none → Q (.ref p) (upd H p (.lst (List.replicate k.toNat xs).flatten))
theorem len_rep {α : Type} (xs : List α) (k : Nat) : (List.replicate k xs).flatten.length = k * xs.length := by
  induction k with
  | zero => simp
  | succ k ih => rw [List.replicate_succ, List.flatten_cons, List.length_append, ih, Nat.succ_mul, Nat.add_comm]
theorem op_rep : OpR X (binaryOp .Mult) rRep := by
  intro pins s σ H x y v u Q I rx ry h
  obtain ⟨l, k, xs, rfl, rfl, hH, h1, h2, hz, q⟩ := h
  cases rx
  obtain ⟨t, rfl⟩ := ry
  obtain ⟨z, its, n, r, hl, e⟩ := I.lstM hH
  have hlen : its.toArray.size * k.toNat ≤ sizeLine := by rw [List.size_toArray, ← hl]; exact hz
  have hcap : ¬ its.toArray.size * k.toNat > (2 ^ 63 - 1) / 8 := by
    have : (sizeLine : Nat) ≤ (2 ^ 63 - 1) / 8 := by decide
    omega
  have hfit : ¬ (!Builtin.List.listFitsIndex k) = true := by
    rw [fitsIndex_both h1 h2]
    exact Bool.false_ne_true
  have hlong : ¬ Builtin.List.listTooLong (its.toArray.size * k.toNat) = true := by
    rw [notLongL hlen]
    exact Bool.false_ne_true
  have hnew : List.foldl (fun x1 x2 => x1 ++ x2) #[] (List.replicate (if its.toArray.isEmpty = true then 0 else k.toNat) its.toArray) = (List.replicate k.toNat its).flatten.toArray := by
    have f0 : ∀ m : Nat, List.foldl (fun x1 x2 => x1 ++ x2) #[] (List.replicate m its.toArray) = (List.replicate m its).flatten.toArray := fun m => by
      have := foldl_rep its m []
      rw [List.nil_append] at this
      exact this
    rw [f0]
    cases its with
    | nil => simp
    | cons a r' => rw [if_neg (by simp)]
  refine wpAny_binaryOp_repeat_ref (T := "list") (U := "int") (by decide) ⟨_, e, rfl⟩ (fun s' => typeIs_int s' k t) noFill_list_mul F.fills_int_mul F.slot_int_rmul repeat_list F.slot_int_index.lookup
    (call_meets F.slot_int_rmul (typeIs_int s k t) F.entry_int_rmul (F.args_int_rmul_2 _ _) (int___rmul___int_list k t l its.toArray n)
      ⟨e, rfl, ⟨_, e, rfl⟩, call_meets F.slot_list_mul ⟨_, e, rfl⟩ F.entry_list_mul (F.args_list_mul_2 _ _) (AutoListH.list___mul___list_int_3 l its.toArray n k t hfit hcap hlong) ⟨e, ?_⟩⟩)
  rw [hnew]
  exact ⟨.ref _, _, I.lnew (t' := s.toks) (r.rep k.toNat) (by rw [len_rep, Nat.mul_comm]; exact hz), rfl, q _ I.fresh⟩

/-! ### del xs[i] -/
end

/-! ### xs[a:b] = ys -/
section
variable {prog : Program} {w : World} {A : Around} {E : Value → Shared → Prop} {s : Shared}
set_option maxRecDepth 100000 in
end

section
variable {X : Cx}
end
end L2

namespace Att
open PySem PySem.W PySem.Calls PyProof.Rows

/-! ### the script -/
theorem ints_of_wellAll {P : Params} {h : Heap} : ∀ (ns : List Int) (vs : List Value), WellAll P h vs (ns.map WData.int) → IntsAre vs ns := by
  intro ns
  induction ns with
  | nil =>
    intro vs w
    rw [List.map_nil] at w
    cases w
    exact .nil
  | cons n ns ih =>
    intro vs w
    rw [List.map_cons] at w
    cases w with
    | cons a b =>
      cases a
      exact .cons _ _ (ih _ b)

theorem script_of {l : OpenLaw} {n : Nat} (hn : l.most = some n) {P : Params} {h : Heap} {args : List WData} {vals : List Value}
    (hpre : l.row.toRowW.claim.pre args = true) (hwl : WellAll P h vals args) :
    ∃ a vs ns, vals = [Value.ref a] ∧ args = [WData.list (ns.map WData.int)] ∧ h.get? a = some { cls := .type "list", data := .seq vs.toArray } ∧ IntsAre vs ns ∧ ns.length ≤ n := by
  have hsh : WShape.hasAll [] args [.list .int] = true := (pre_splitW hpre).1
  have hc : l.pre.holds [] { args := args } = true := (pre_splitW hpre).2
  obtain ⟨d, r, rfl, h1, h2⟩ := hasAllW_cons hsh
  obtain rfl := hasAllW_nil h2
  obtain ⟨xs, rfl, h3⟩ := hasW_list h1
  obtain ⟨ns, rfl⟩ := items_int h3
  have hlen : ns.length ≤ n := by
    unfold OpenLaw.pre at hc
    have h4 : (WTm.not (.lt (.lit (.int (n : Int))) (.len (.arg 0)))).holds [] { args := [.list (ns.map .int)] } = true := by
      have h4 := (holds_andW hc).1
      rw [hn] at h4
      exact h4
    have h5 := condW_of h4 (w_not (w_lt w_lit (w_len_list (w_arg rfl))))
    rw [List.length_map] at h5
    refine Nat.le_of_not_lt fun q => ?_
    have q' : (n : Int) < ((ns.length : Nat) : Int) := by omega
    first
      | (rw [decide_eq_true q'] at h5; exact absurd h5 (by decide))
      | (simp at h5; omega)
  cases hwl with
  | cons w1 w2 =>
    cases w2
    cases w1 with
    | list ho hall => exact ⟨_, _, ns, rfl, rfl, ho, ints_of_wellAll ns _ hall, hlen⟩

theorem post_true (l : OpenLaw) (args : List WData) : l.row.toRowW.claim.post args (.bool true) args = true :=
  postW_of (r := l.row.toRowW) (X := (true == true))
    (show WShape.has [] (.bool true) .bool = true by first | rfl | decide | simp [WShape.has, WShape.arms, WShape.armsAll])
    (show (WTm.eq .res (.lit (.bool true))).value [] { args := args, res := some (.bool true), after := args } = some (.bool (true == true)) from w_eq_bool (w_res rfl) w_lit) rfl

/-! ### the attachment: holds_open's last premise (the goal 'hc' behind k_head) from a wpAny of the law's body -/
/-- the same from a codeAny of the CALL (for a layer whose function contracts speak of calls) -/
theorem attach_call {l : OpenLaw} {n : Nat} {q : Program} {loose : List Str} {XP : (Str → Option Value) → Heap → Prop} {YP : World → Heap → Prop} {d : DefRec}
    (hn : l.most = some n) (hdf : d.params.defaults = [])
    (call : ∀ (w : World) (s₀ s₁ : Shared) (mg mb : Str → Option Value) (fa : Addr) (o : Obj) (pm cd doc : Value) (a : Addr) (vs : List Value) (ns : List Int),
      Ground q loose [] XP w s₀ mg mb s₁.heap → YP w s₁.heap →
      s₁.heap.get? fa = some o → o.data = .func (docDef d.name d.params d.body d.scope pm cd doc) → s₁.heap.CodeRec cd d.name → mg d.name = some (.ref fa) →
      s₁.heap.get? a = some { cls := .type "list", data := .seq vs.toArray } → IntsAre vs ns → ns.length ≤ n → s₁.gens = #[] →
      codeAny (model l.prog w) callerA (.call (.ref fa) ⟨[.ref a], []⟩) (fun r s' => r = .ok (.ret (.bool true)) ∧ OldK s₁.heap s'.heap ∧ s'.os = s₁.os ∧ AllBare s'.gens) s₁) :
    WalkO q loose XP YP l.row.toRowW d [] (fun f vs => PySem.call f vs) := by
  intro w s₀ s₁ mg mb G Y fa o pm cd doc dV kV ho hd hcd hD hmg hg args vals as hpre hlay hrd hwl hlo
  obtain rfl : dV = .none := Dflts.none hD hdf
  obtain rfl : kV = .none := Dflts.noKw hD
  obtain ⟨a, vs, ns, rfl, rfl, hobj, hints, hlen⟩ := script_of hn hpre hwl
  refine enter_call (codeAny_mono (call w s₀ s₁ mg mb fa o pm cd doc a vs ns G Y ho (fd_plain hd) hcd hmg hobj hints hlen hg) fun r s' hq => ?_)
  obtain ⟨rfl, h2, h3, h4⟩ := hq
  exact ⟨.inl ⟨.bool true, .bool true, [], rfl, fun _ => rfl, .bool true, post_true l _, fun _ => ⟨List.Pairwise.nil, fun _ hm => (nomatch hm)⟩⟩, h2, h3, h4⟩

/-! ### rules over ANY heap (no ledger) from facts about the written part K: the library's own take a ledger (News) for what they write -/
section
variable {prog : Program} {w : World} {A : Around} {E : Value → Shared → Prop} {s : Shared} {K : Frag}

/-! the whole heap as the ledger: makes every rule that writes through a ledger a rule over any heap -/
end
end Att

namespace L2
open PySem PySem.Spec PyProof.Rows

theorem vals_ints : ∀ {vs : List Value} {ns : List Int}, IntsAre vs ns → Vals (ns.map V.int) vs
  | _, _, .nil => .nil
  | _, _, .cons n t h => .cons ⟨t, rfl⟩ (vals_ints h)

/-- nothing is tracked but the script, known to the object (or it is an object of the module) -/
def Only (H : Hp) : Prop := ∀ b, H b = none ∨ ∃ o xs, H b = some (.frz o (.lst xs))

/-- THE HEAD: the law's promise, at the heap behind the top. F, the promise of the law's def, may use that base is part of the heap (so K.In base, base.Ns mainGlobals mg stand in Mod) -/
theorem law_call {P : Program} {w : World} {K : PySem.W.Frag} {mg mb : Str → Option Value} {CX : CXT} {k : Nat} {fa a : Addr} {fd : FuncData} {x : Str} {sp : Sp} {s₁ : Shared} {vs : List Value} {ns : List Int}
    (KX : K.In s₁.heap) (hns : s₁.heap.Ns mainGlobals mg) (hb : s₁.heap.Ns builtinsNs mb) (hbb : ∀ x : Str, x ≠ "__name__" → mb x = bootBuiltins x) (hlim : s₁.heap.NoLimit) (hg : s₁.gens = #[])
    (ha : s₁.heap.get? a = some { cls := .type "list", data := .seq vs.toArray }) (hi : IntsAre vs ns) (hl : ns.length ≤ sizeLine) (hr : Room k callerA)
    (F : ∀ base : Heap, K.In base → base.Ns mainGlobals mg → FnOk P w K mg base CX k fa fd [x] sp) (hbind : ∀ (s : Shared) (u : Value), BindsTo s fd ⟨[u], []⟩ [(x, u)])
    (hsp : ∀ H : Hp, Only H → SqL K H a (ns.map V.int) → sp [.ref a] H (fun v _ => v = .bl true) fun _ _ _ => False)
    (hCX : ∀ H e s', CX [] H s₁ (fun _ _ _ => False) e s' → False) :
    codeAny (model P w) callerA (.call (.ref fa) ⟨[.ref a], []⟩) (fun r s' => r = .ok (.ret (.bool true)) ∧ OldK s₁.heap s'.heap ∧ s'.os = s₁.os ∧ AllBare s'.gens) s₁ := by
  have rv := vals_ints hi
  have lenV := hi.length
  -- from an abstract heap in which nothing but the script may be tracked
  have core : ∀ H : Hp, Only H → SqL K H a (ns.map V.int) → HOk P w H s₁.heap → (∀ b, H b ≠ none → b = a) → (H a ≠ none → K.lookup a = none) →
      codeAny (model P w) callerA (.call (.ref fa) ⟨[.ref a], []⟩) (fun r s' => r = .ok (.ret (.bool true)) ∧ OldK s₁.heap s'.heap ∧ s'.os = s₁.os ∧ AllBare s'.gens) s₁ := by
    intro H hO hS hok hA hK
    have base_of : ∀ {b : Addr} {o : Obj}, s₁.heap.get? b = some o → H b = none → (hidT s₁.heap H).get? b = some o := fun e n => hidT_get e n
    have noA : ∀ {b : Addr} {o : Obj} {es : Array DictEntry} {ep : Nat}, s₁.heap.get? b = some o → o.data = .dict es ep → H b = none := fun {b o es ep} e d => by
      cases q : H b with
      | none => rfl
      | some u =>
        have e' : b = a := hA b (by rw [q]; simp)
        subst e'
        rw [ha] at e; cases e
        have d' : Data.seq vs.toArray _ = Data.dict es ep := d
        cases d'
    have nsK : ∀ {b : Addr} {m : Str → Option Value}, s₁.heap.Ns b m → (hidT s₁.heap H).Ns b m := fun {b m} ⟨o, es, ep, e, d, r⟩ => ⟨o, es, ep, base_of e (noA e d), d, r⟩
    have hKb : K.In (hidT s₁.heap H) := fun b o e => base_of (KX b o e) (by
      cases q : H b with
      | none => rfl
      | some u =>
        have e' : b = a := hA b (by rw [q]; simp)
        subst e'
        rw [hK (by rw [q]; simp)] at e; cases e)
    have hM : Mod K mg (hidT s₁.heap H) := ⟨hKb, nsK hns, ⟨mb, nsK hb, hbb⟩, let ⟨mc, h1, h2⟩ := hlim; ⟨mc, nsK h1, h2⟩⟩
    have e0 : Env0 P w K mg (hidT s₁.heap H) callerA [] s₁ H := ⟨rfl, hM, fun b o e => of_hidT e, Nat.le_of_eq (hidT_size _ _), trivial, fun b hb => absurd (show b ∈ ([] : List Addr) from hb) (by simp), hok, .of_eq hg⟩
    refine codeAny_mono ((F _ hKb (nsK hns)).run callerA [] s₁ H ⟨[.ref a], []⟩ [.ref a] [.ref a] _ _ hr e0 (hbind s₁ (.ref a)) (.cons rfl .nil) (hsp H hO hS)) fun r s' h => ?_
    cases r with
    | error e => exact (hCX H e s' h).elim
    | ok fl =>
      cases fl with
      | next => exact False.elim h
      | brk => exact False.elim h
      | cont => exact False.elim h
      | ret u =>
        obtain ⟨v, H', os, bare, un, hok', r', q⟩ := h
        have q' : v = .bl true := q
        subst q'
        obtain rfl : u = Value.bool true := r'
        refine ⟨rfl, OldK.of_keep fun b o e => ?_, os, bare⟩
        cases q : H b with
        | none => exact un.keep b o e q (by intro z; exact absurd (show b ∈ ([] : List Addr) from z) (by simp)) (by simp)
        | some u =>
          rcases hO b with z | ⟨ob, xs, z⟩
          · rw [q] at z; cases z
          · have z2 := un.frzs b ob _ z
            obtain ⟨e1, _⟩ := hok b _ z
            obtain ⟨e2, _⟩ := hok' b _ z2
            rw [e] at e1; cases e1
            exact e2
  cases hk : K.lookup a with
  | some o =>
    -- the script is one of the module's own objects
    have e := KX a o hk
    rw [ha] at e
    cases e
    refine core (fun _ => none) (fun _ => .inl rfl) (.inr ⟨_, vs.toArray, _, hk, rfl, rfl, rfl, by rw [List.size_toArray, lenV]; exact hl, by simpa using rv⟩) (fun b u z => by have z' : (none : Option HO) = some u := z; cases z') (fun b z => absurd rfl z) fun z => absurd rfl z
  | none =>
    refine core (fun b => if b = a then some (.frz { cls := .type "list", data := .seq vs.toArray } (.lst (ns.map V.int))) else none) (fun b => ?_) (.inl (.inr ⟨{ cls := .type "list", data := .seq vs.toArray }, if_pos rfl⟩)) (fun b u z => ?_) (fun b z => ?_) fun _ => hk
    · by_cases hb : b = a
      · exact .inr ⟨_, _, if_pos hb⟩
      · exact .inl (if_neg hb)
    · by_cases hb : b = a
      · have z' := (if_pos hb).symm.trans z
        cases z'
        subst hb
        exact ⟨ha, by rw [List.length_map]; exact hl, vs, _, rv, ha⟩
      · have z' := (if_neg hb).symm.trans z
        cases z'
    · by_cases hb : b = a
      · exact hb
      · exact absurd (if_neg hb) z
end L2

namespace L2
open PySem PySem.Spec PyProof.Rows

abbrev KOf {K : PySem.W.Frag} {h : Heap} (_ : K.In h) : PySem.W.Frag := K

/-- the goal that k_head leaves (case hc), from the law's promise. F gives the function object fd (K's own) once, then the promise over every base -/
theorem walk_of {l : PySem.W.OpenLaw} {n k : Nat} {q : Program} {loose : List Str} {XP : (Str → Option Value) → Heap → Prop} {YP : World → Heap → Prop} {d : DefRec} {K : Params → PySem.W.Frag} {CX : World → CXT} {sp : World → Sp} {x : Str}
    (hn : l.most = some n) (hn2 : n ≤ sizeLine) (hdf : d.params.defaults = []) (hr : Room k callerA)
    (hY : ∀ (w : World) (h : Heap), YP w h → (K w.params).In h)
    (F : ∀ (w : World) (mg : Str → Option Value) (fa : Addr) (h : Heap), (K w.params).In h → h.Ns mainGlobals mg → mg d.name = some (.ref fa) →
      ∃ fd : FuncData, (∀ (s : Shared) (u : Value), BindsTo s fd ⟨[u], []⟩ [(x, u)]) ∧
        ∀ base : Heap, (K w.params).In base → base.Ns mainGlobals mg → FnOk l.prog w (K w.params) mg base (CX w) k fa fd [x] (sp w))
    (hsp : ∀ (w : World) (H : Hp) (a : Addr) (ns : List Int), ns.length ≤ n → Only H → SqL (K w.params) H a (ns.map V.int) → sp w [.ref a] H (fun v _ => v = .bl true) fun _ _ _ => False)
    (hCX : ∀ (w : World) (H : Hp) (s : Shared) (e : Value) (s' : Shared), CX w [] H s (fun _ _ _ => False) e s' → False) :
    PySem.W.WalkO q loose XP YP l.row.toRowW d [] (fun f vs => PySem.call f vs) := by
  refine Att.attach_call hn hdf fun w s₀ s₁ mg mb fa o pm cd doc a vs ns G Y ho hd hcd hmg hobj hints hlen hg => ?_
  have KX := hY w _ Y
  obtain ⟨fd, hb, hF⟩ := F w mg fa _ KX G.T.g hmg
  exact law_call KX G.T.g G.T.b G.T.builtins G.T.nolimit hg hobj hints (Nat.le_trans hlen hn2) hr hF hb (fun H hO hS => hsp w H a ns hlen hO hS) fun H e s' => hCX w H s₁ e s'
/-- the same where the promise hangs on the written part alone: (sp := My.sp_law), no hole under a binder -/
theorem walk_ofK {l : PySem.W.OpenLaw} {n k : Nat} {q : Program} {loose : List Str} {XP : (Str → Option Value) → Heap → Prop} {YP : World → Heap → Prop} {d : DefRec} {K : Params → PySem.W.Frag} {CX : CXT} {sp : PySem.W.Frag → Sp} {x : Str}
    (hn : l.most = some n) (hn2 : n ≤ sizeLine) (hdf : d.params.defaults = []) (hr : Room k callerA)
    (hY : ∀ (w : World) (h : Heap), YP w h → (K w.params).In h)
    (F : ∀ (w : World) (mg : Str → Option Value) (fa : Addr) (h : Heap), (K w.params).In h → h.Ns mainGlobals mg → mg d.name = some (.ref fa) →
      ∃ fd : FuncData, (∀ (s : Shared) (u : Value), BindsTo s fd ⟨[u], []⟩ [(x, u)]) ∧
        ∀ base : Heap, (K w.params).In base → base.Ns mainGlobals mg → FnOk l.prog w (K w.params) mg base CX k fa fd [x] (sp (K w.params)))
    (hsp : ∀ (K : PySem.W.Frag) (H : Hp) (a : Addr) (ns : List Int), ns.length ≤ n → Only H → SqL K H a (ns.map V.int) → sp K [.ref a] H (fun v _ => v = .bl true) fun _ _ _ => False)
    (hCX : ∀ (H : Hp) (s : Shared) (e : Value) (s' : Shared), CX [] H s (fun _ _ _ => False) e s' → False) :
    PySem.W.WalkO q loose XP YP l.row.toRowW d [] (fun f vs => PySem.call f vs) :=
  walk_of (K := K) (CX := fun _ => CX) (sp := fun w => sp (K w.params)) hn hn2 hdf hr hY F (fun w H a ns h1 h2 h3 => hsp (K w.params) H a ns h1 h2 h3) fun _ H s e s' => hCX H s e s'
end L2

/- THE LAST THEOREM (shape; LID, My.* are yours):
   My.Adr: a structure of the addresses that your layer names (classes, functions); My.Txt K t: a structure (Prop) of the equations over K;
   My.txt_mk : {K} {implicit addresses ..} (e1 : nsIn K mainGlobals "law" = some (some (.ref f))) (e2 : K.lookup f = some ⟨oc, od, .func (fnOf "law" "law" params body scope dV kV doc pm an cdv ct), sl⟩) (e3 : codeIn K cdv "law" = true) .. : ∃ t, My.Txt K t

set_option maxRecDepth 100000 in
set_option maxHeartbeats 0 in
theorem PySem.Challenge.cw_LID_holds : PySem.Challenge.rw_LID.Holds := by
  w_on; o_law; k_head; (case hw => w_witness2)
  k_fill
  refine L2.walk_of (l := PySem.Challenge.rw_LID) (n := 63) (k := 40) (x := "script") (CX := fun w => ..) (sp := fun _ => My.sp_law) rfl (by decide) rfl ⟨rfl, by decide, by decide⟩ (fun w h Y => PySem.W.kIn_of Y) ?F ?S ?C
  case F =>
    intro w mg fa h KX G hmg
    have T : ∃ t, My.Txt (L2.KOf KX) t := by
      dsimp only [L2.KOf]                          -- K must stand as «<heap const> w.params» for k_is
      refine' My.txt_mk ?e1 ?e2 ?e3 ..
      (case e1 => PySem.W.k_is)                    -- in the order: a name -> its address -> its object -> its parts
      (case e2 => PySem.W.k_is)
      ..
    obtain ⟨t, T⟩ := T
    have e0 := hmg.symm.trans (PySem.W.mg_of KX G T.law)
    cases e0                                       -- fa is the law's own address
    exact ⟨_, fun s u => .of_eq rfl, fun base kb nb => My.law_fn T kb nb⟩     -- if «.of_eq rfl» comes too early: refine' ⟨_, ?b, fun base kb nb => My.law_fn T kb nb⟩; exact fun s u => .of_eq rfl
  case S => exact fun w H a ns hl hO hS => ..
  case C => exact ..
(the tactic k_is has no namespace: write k_is) -/

/-! SHORT WORDS over the layer: a def of the text, its body, what a loop and a test want. -/
namespace L2
open PySem PySem.Spec PyProof.Rows

/-! ### the text by places -/
def defArgs (s : Stmt) : Arguments := match s with
  | .FunctionDef _ a _ _ _ _ _ _ _ _ => a
  | _ => { posonlyargs := [], args := [], vararg := none, kwonlyargs := [], kw_defaults := [], kwarg := none, defaults := [] }
def defBody (s : Stmt) : List Stmt := match s with
  | .FunctionDef _ _ b _ _ _ _ _ _ _ => b
  | _ => []
def defScope (s : Stmt) : Scope := match s with
  | .FunctionDef _ _ _ _ _ _ sc _ _ _ => sc
  | _ => { kind := .function, names := [], isGenerator := false, isCoroutine := false }

/-! ### no exception leaves a def -/
abbrev CX0 : CXT := fun _ _ _ _ _ _ => False
abbrev E0 : XK := fun _ _ _ => False
theorem pass0 {X : Cx} : Passes CX0 X E0 := fun _ _ _ _ _ _ _ h => h.elim

/-! ### a def (or method) of the text as it stands behind the top -/
structure Fun (K : PySem.W.Frag) (x qual : Str) (st : Stmt) (f : Addr) (fd : FuncData) : Prop where
  ex : ∃ (oc : Value) (od : Option Addr) (kV doc pm : Value) (an : Option Addr) (cdv ct : Value) (osl : Array (Option Value)),
    fd = PySem.W.fnOf x qual (defArgs st) (defBody st) (defScope st) .none kV doc pm an cdv ct ∧ K.lookup f = some ⟨oc, od, .func fd, osl⟩ ∧ PySem.W.codeIn K cdv qual = true
  kp : PySem.W.keepIn K (.ref f) = true
section
variable {P : Program} {w : World} {K : PySem.W.Frag} {mg : Str → Option Value} {base : Heap}
/-- THE RULE for a def: its body as a term of rules, and the reading of that term -/
theorem Fun.ok {x qual : Str} {st : Stmt} {f : Addr} {fd : FuncData} {N ps : List Str} {k : Nat} {sp : Sp} (F : Fun K x qual st f fd) (S : FnScope N ps (defScope st)) (len : ∀ vs H Q E, sp vs H Q E → vs.length = ps.length)
    (hbody : ∀ (cdv : Value) (A : Around) (outer : List Env) (s : Shared) (H : Hp) (vs : List V) (Q : VK) (E : XK), Room k (A.deeper (envOfC qual (defScope st) s.heap.objs.size f cdv)) → sp vs H Q E →
      ∃ t, PSs (cxOf CX0 P w K mg base N qual (defScope st) f cdv A outer s H E).nox (defBody st) t ∧ t { nx := fun _ H' => Q .non H', rt := Q } (start N vs) H) : FnOk P w K mg base CX0 (k + 1) f fd ps sp := by
  obtain ⟨oc, od, kV, doc, pm, an, cdv, ct, osl, rfl, lk, hcd⟩ := F.ex
  refine fn_of lk hcd S len fun A outer s H vs Q E hr hsp => ?_
  obtain ⟨t, h, q⟩ := hbody cdv A outer s H vs Q E hr hsp
  exact ⟨t, h.nox, q⟩
/-- how its arguments bind (no defaults): h is «fun _ _ _ _ _ _ us hl => match us, hl with | [_, _], _ => rfl», one _ a parameter -/
theorem Fun.binds {x qual : Str} {st : Stmt} {f : Addr} {fd : FuncData} {ps : List Str} (F : Fun K x qual st f fd)
    (h : ∀ (kV doc pm : Value) (an : Option Addr) (cdv ct : Value) (us : List Value), us.length = ps.length → bindArgs (PySem.W.fnOf x qual (defArgs st) (defBody st) (defScope st) .none kV doc pm an cdv ct) ⟨us, []⟩ = pure (ps.zip us)) : Binds K fd ps [] := by
  obtain ⟨oc, od, kV, doc, pm, an, cdv, ct, osl, rfl, lk, hcd⟩ := F.ex
  exact .all (h kV doc pm an cdv ct)
theorem fun_mk {x qual : Str} {st : Stmt} {f : Addr} {oc : Value} {od an : Option Addr} {osl : Array (Option Value)} {kV doc pm cdv ct : Value} (l : K.lookup f = some ⟨oc, od, .func (PySem.W.fnOf x qual (defArgs st) (defBody st) (defScope st) .none kV doc pm an cdv ct), osl⟩)
    (c : PySem.W.codeIn K cdv qual = true) (k : PySem.W.keepIn K (.ref f) = true) : Fun K x qual st f (PySem.W.fnOf x qual (defArgs st) (defBody st) (defScope st) .none kV doc pm an cdv ct) := ⟨⟨oc, od, kV, doc, pm, an, cdv, ct, osl, rfl, l, c⟩, k⟩
end
/-! ### expressions in short: the name that stands in the i-th slot -/
section
variable {X : Cx}
theorem pv (i : Nat) {x : Str} {pos : Pos} (hN : X.N[i]? = some x := by rfl) (hv : Vis X.env.scope x := by first | exact Or.inl rfl | exact Or.inr (Or.inl rfl) | exact Or.inr (Or.inr rfl)) (hd : (x == ("__debug__" : Str)) = false := by decide)
    (hcd : (x == ("__classdict__" : Str)) = false := by decide) : PE X (.Name x pos) (tVar i) := pe_var hN hv hd hcd
end

/-! ### tests -/
theorem iteF {A B : Prop} (h : B) : if false = true then A else B := by
  rw [if_neg Bool.false_ne_true]
  exact h
theorem iteT {A B : Prop} (h : A) : if true = true then A else B := by
  rw [if_pos rfl]
  exact h
theorem ite2 {c A B : Prop} [Decidable c] (h1 : c → A) (h2 : ¬ c → B) : if c then A else B := by
  by_cases h : c
  · rw [if_pos h]
    exact h1 h
  · rw [if_neg h]
    exact h2 h
/-! ### heaps -/
/-- all that was tracked is as it was -/
def Same (H H' : Hp) : Prop := ∀ b o, H b = some o → H' b = some o
theorem Same.refl (H : Hp) : Same H H := fun _ _ h => h
theorem Same.trans {H H1 H2 : Hp} (a : Same H H1) (b : Same H1 H2) : Same H H2 := fun c o h => b c o (a c o h)
theorem Same.free {H H' : Hp} (e : Same H H') {l : Addr} (h : H' l = Option.none) : H l = Option.none := by
  cases q : H l with
  | none => rfl
  | some o =>
    rw [e l o q] at h
    cases h
theorem Same.seq {K : PySem.W.Frag} {H H' : Hp} {a : Addr} {xs : List V} (e : Same H H') (h : SqL K H a xs) : SqL K H' a xs := by
  rcases h with (h | ⟨o, h⟩) | h
  · exact .inl (.inl (e _ _ h))
  · exact .inl (.inr ⟨o, e _ _ h⟩)
  · exact .inr h

end L2

namespace L2
open PySem
theorem clos_ok {scope : Scope} {env : Env} (h : ∀ y ∈ scope.names, y.2 = .free → ∃ c, env.cells.lookup y.1 = some c) :
    ∃ cl, closureFor scope env = pure cl ∧ (∀ x c, cl.lookup x = some c → env.cells.lookup x = some c) ∧ (∀ y ∈ scope.names, y.2 = .free → ∃ c, cl.lookup y.1 = some c) := by
  have go : ∀ (names : List (Str × NameKind)) (acc : List (Str × Addr)), (∀ y ∈ names, y.2 = .free → ∃ c, env.cells.lookup y.1 = some c) → (∀ x c, acc.lookup x = some c → env.cells.lookup x = some c) →
      ∃ cl, (forIn names acc (fun (x : Str × NameKind) (cs : List (Str × Addr)) => match x with
        | (name, kind) => if (kind == .free) = true then (do let a ← cellOf env name; pure (ForInStep.yield ((name, a) :: cs))) else pure (ForInStep.yield cs)) : Sem (List (Str × Addr))) = pure cl ∧
        (∀ x c, cl.lookup x = some c → env.cells.lookup x = some c) ∧ (∀ y ∈ names, y.2 = .free → ∃ c, cl.lookup y.1 = some c) ∧ (∀ x c, acc.lookup x = some c → ∃ c', cl.lookup x = some c') := by
    intro names
    induction names with
    | nil => intro acc _ ha; exact ⟨acc, rfl, ha, fun y hy => (by cases hy), fun x c e => ⟨c, e⟩⟩
    | cons x r ih =>
      intro acc hn ha
      obtain ⟨name, kind⟩ := x
      rw [List.forIn_cons]
      by_cases hk : kind = .free
      · subst hk
        obtain ⟨c, hc⟩ := hn (name, .free) List.mem_cons_self rfl
        have e : cellOf env name = pure c := by unfold cellOf; rw [hc]
        obtain ⟨cl, e1, e2, e3, e4⟩ := ih ((name, c) :: acc) (fun y hy => hn y (List.mem_cons_of_mem _ hy)) (fun x c' hx => by
          rw [List.lookup_cons] at hx
          split at hx
          · rename_i hb
            have : x = name := by simpa using hb
            subst this
            cases hx; exact hc
          · exact ha x c' hx)
        refine ⟨cl, ?_, e2, fun y hy hf => ?_, fun x c' hx => ?_⟩
        · simp only [beq_self_eq_true, if_true]
          rw [e, pure_bind, pure_bind]
          exact e1
        · rcases List.mem_cons.mp hy with rfl | hy
          · exact e4 name c (by simp)
          · exact e3 y hy hf
        · by_cases hb : (x == name) = true
          · have : x = name := by simpa using hb
            subst this
            exact e4 x c (by simp)
          · exact e4 x c' (by rw [List.lookup_cons]; simp only [Bool.not_eq_true] at hb; rw [hb]; exact hx)
      · have hb : (kind == NameKind.free) = false := by simpa using hk
        obtain ⟨cl, e1, e2, e3, e4⟩ := ih acc (fun y hy => hn y (List.mem_cons_of_mem _ hy)) ha
        refine ⟨cl, ?_, e2, fun y hy hf => ?_, e4⟩
        · simp only [hb, Bool.false_eq_true, if_false]
          rw [pure_bind]
          exact e1
        · rcases List.mem_cons.mp hy with rfl | hy
          · exact absurd hf hk
          · exact e3 y hy hf
  obtain ⟨cl, e1, e2, e3, _⟩ := go scope.names [] h (fun x c e => by simp at e)
  refine ⟨cl, ?_, e2, e3⟩
  unfold closureFor
  show (forIn scope.names _ _ >>= fun cs => pure cs) = _
  rw [bind_pure]
  exact e1
section
variable {prog : Program} {w : World} {A : Around} {R : Result → Shared → Prop} {s : Shared}
theorem compLoop_all {elt target iter : Expr} {ifs : List Expr} {scope : Scope} {pos : Pos} {it acc : Value} {env : Env} (I : Nat → Shared → Prop)
    (turn : ∀ n s, I n s → wpAny (model prog w) A (pyNext it) (fun r s₁ => match r with
      | none => R (.ok .next) s₁
      | some v => wpAny (model prog w) A (letOwnedTupleGo target it v) (fun _ s₁' => wpAny (model prog w) A (assign target env v) (fun _ s₂ =>
          wpAny (model prog w) A (forIn ifs true fun c r => if r = true then do let ok ← isTrue c env (eval c env); pure (ForInStep.yield ok) else pure (ForInStep.yield r)) (fun ok s₃ =>
            if ok = true then wpAny (model prog w) A (eval elt env) (fun x s₄ =>
              wpAny (model prog w) A (call (.builtin "list.append") [acc, x]) (fun _ s₅ => ∃ m, m < n ∧ I m s₅) (fun _ _ => False) s₄) (fun _ _ => False) s₃
            else ∃ m, m < n ∧ I m s₃) (fun _ _ => False) s₂) (fun _ _ => False) s₁') (fun _ _ => False) s₁) (fun _ _ => False) s)
    (n : Nat) (h : I n s) :
    codeAny (model prog w) A (.compLoop (.ListComp elt [⟨target, iter, ifs, 0⟩] scope pos) 0 it acc env) R s := by
  refine codeAny_loop rfl I (fun n s hI => ?_) n h
  show wpAny _ A ((compTurn (.ListComp elt [⟨target, iter, ifs, 0⟩] scope pos) 0 it acc env).onRaise (fun x => do noteFrame x env; theTreesLotGoes x)) _ _ s
  refine wpAny_noted ?_
  rw [compTurn_list]
  refine wpAny_bind (wpAny_standAt (wpAny_bind (wpAny_mono (turn n s hI) (fun r s₁ h₁ => ?_) fun _ _ h' => h'.elim)))
  cases r with
  | none => exact wpAny_pure h₁
  | some v =>
    refine wpAny_bind (wpAny_mono h₁ (fun _ s₁' h₁' => ?_) fun _ _ h' => h'.elim)
    refine wpAny_bind (wpAny_mono h₁' (fun _ s₂ h₂ => wpAny_bind (wpAny_mono h₂ (fun ok s₃ h₃ => ?_) fun _ _ h' => h'.elim)) fun _ _ h' => h'.elim)
    cases ok with
    | false => exact wpAny_pure ⟨rfl, h₃⟩
    | true =>
      exact wpAny_bind (wpAny_bind (wpAny_mono h₃ (fun x s₄ h₄ => wpAny_bind (wpAny_mono h₄ (fun _ s₅ h₅ => wpAny_pure (wpAny_pure ⟨rfl, h₅⟩)) fun _ _ h' => h'.elim)) fun _ _ h' => h'.elim))
end
end L2
namespace L2
open PySem PySem.Spec PyProof.Rows
/-! ### isinstance -/
section
variable {X : Cx}
theorem call_isinst : CallR X (.builtin "isinstance") (fun xs H Q => ∃ x T t b, xs = [x, .ty T] ∧ TyOf X.K H x t ∧ PySem.W.kitOne X.K t (.type T) = some b ∧ Q (.bl b) H) := by
  intro pins s σ H xs us Q I r h
  obtain ⟨x, T, t, b, rfl, ty, e, q⟩ := h
  obtain ⟨u, c, rfl, ru, rc⟩ := r.two
  obtain rfl : c = Value.type T := rc
  exact isinst_ok I ru ty e fun tk => ⟨.bl b, H, I.tok tk, rfl, q⟩
end
/-! ### a comprehension's block -/
def cxComp (X : Cx) (scope : Scope) (cl : List (Str × Addr)) (C : Addr) (N' : List Str) (s : Shared) (H : Hp) (ex : List Addr) (pn : List (Addr × Obj)) : Cx :=
  { X with N := N', s₀ := s, H₀ := H, env := compEnvC scope cl C X.env, outer := X.stack, ex := ex, fn := fun _ => false, pn := pn, xe := fun _ _ => False }
/-- the block's names at a turn's start: L of its own, then those of the def around it -/
def cst (L : Nat) (src : List Nat) (σ : St) : St := List.replicate L none ++ src.map fun j => (σ[j]?).join
def Back (σ σ' : St) : Prop := σ'.length = σ.length ∧ ∀ (i : Nat) v, σ[i]? = some (some v) → σ'[i]? = some (some v)
theorem back1 {x : V} {r : St} : Back (none :: r) (some x :: r) := ⟨rfl, fun i v e => by
  cases i with
  | zero => simp at e
  | succ i => simpa using e⟩
def PIfs (X : Cx) (ifs : List Expr) (t : TT) : Prop :=
  ∀ (pins : List (Addr × Obj)) (s : Shared) (σ : St) (H : Hp) (Q : Bool → Hp → Prop), Inv X pins σ H s → t σ H Q →
    wpAny (model X.prog X.w) X.A (forIn ifs true fun c r => if r = true then do let ok ← isTrue c X.env (eval c X.env); pure (ForInStep.yield ok) else pure (ForInStep.yield r)) (TP X pins σ Q) X.xe s
def tT : TT := fun _ H Q => Q true H
theorem pifs_nil {X : Cx} : PIfs X [] tT := fun _ _ _ H _ I h => wpAny_pure ⟨H, I, h⟩
def compChk (esc : Scope) (N : List Str) (scope : Scope) (N' : List Str) (L : Nat) (src : List Nat) : Bool :=
  (scope.kind == .function) && scope.names.all (fun y => y.2 != .cell && (y.2 != .local || scope.names.lookup y.1 == some .local) && (y.2 != .free || esc.names.lookup y.1 == some .cell || esc.names.lookup y.1 == some .free)) &&
    (N'.length == L + src.length) && (List.range src.length).all fun i => match src[i]?, N'[L + i]? with
      | some j, some x => (N[j]? == some x) && (scope.names.lookup x == some .free)
      | _, _ => false
structure CompOk (esc : Scope) (N : List Str) (scope : Scope) (N' : List Str) (L : Nat) (src : List Nat) : Prop where
  kind : scope.kind = .function
  nocell : ∀ y ∈ scope.names, y.2 ≠ .cell
  loc : ∀ y ∈ scope.names, y.2 = .local → scope.names.lookup y.1 = some .local
  free : ∀ y ∈ scope.names, y.2 = .free → esc.names.lookup y.1 = some .cell ∨ esc.names.lookup y.1 = some .free
  len : N'.length = L + src.length
  frees : ∀ (i j : Nat), src[i]? = some j → ∃ x, N'[L + i]? = some x ∧ N[j]? = some x ∧ scope.names.lookup x = some .free
theorem compOk_of {esc : Scope} {N : List Str} {scope : Scope} {N' : List Str} {L : Nat} {src : List Nat} (h : compChk esc N scope N' L src = true) : CompOk esc N scope N' L src := by
  unfold compChk at h
  simp only [Bool.and_eq_true, List.all_eq_true] at h
  obtain ⟨⟨⟨h1, h2⟩, h3⟩, h4⟩ := h
  refine ⟨by simpa using h1, fun y hy => ?_, fun y hy e => ?_, fun y hy e => ?_, by simpa using h3, fun i j e => ?_⟩
  · have := (h2 y hy).1.1
    simpa using this
  · have := (h2 y hy).1.2
    rw [e] at this
    simpa using this
  · have := (h2 y hy).2
    rw [e] at this
    simpa using this
  · have hi : i < src.length := (List.getElem?_eq_some_iff.mp e).1
    have := h4 i (List.mem_range.mpr hi)
    rw [e] at this
    cases q : N'[L + i]? with
    | none => rw [q] at this; simp at this
    | some x =>
      rw [q] at this
      simp only [Bool.and_eq_true, beq_iff_eq] at this
      exact ⟨x, rfl, this.1, this.2⟩
/-- the reading of a comprehension: D is the list that grows -/
def CompW (J : It) (σc : St) (g : TG) (tt : TT) (te : TE) (D : Addr) (H1 : Hp) (Q : VK) : Prop :=
  ∃ W : Nat → Nat → Hp → List V → Prop, (∃ m, W 0 m (upd H1 D (.lst [])) []) ∧ ∀ i m H ys, W i m H ys → H D = some (.lst ys) ∧
    ((J.stop i H ∧ Q (.ref D) H) ∨ (J.go i H ∧ ys.length < sizeLine ∧ ∃ N : Hp → List V → Prop, (∀ H' ys', N H' ys' → ∃ m', m' < m ∧ W (i + 1) m' H' ys') ∧
      ∀ x H', J.yld i H x H' → g x σc H' fun σ2 H2 => Back σc σ2 ∧ tt σ2 H2 fun b H3 => if b = true then te σ2 H3 fun y H4 => H4 D = some (.lst ys) ∧ N (upd H4 D (.lst (ys ++ [y]))) (ys ++ [y]) else N H3 ys))
def tComp (wi : TI) (L : Nat) (src : List Nat) (g : TG) (tt : TT) (te : TE) : TE := fun σ H Q => wi σ H fun J H1 => ∀ D, H1 D = none → CompW J (cst L src σ) g tt te D H1 Q
section
variable {X : Cx} {elt tg iter : Expr} {ifs : List Expr} {scope : Scope} {pos : Pos} {N' : List Str} {L : Nat} {src : List Nat} {wi : TI} {g : TG} {tt : TT} {te : TE}
theorem comp_run (hc : X.calm = true) (ck : CompOk X.env.scope X.N scope N' L src) {cl : List (Str × Addr)} {pins : List (Addr × Obj)} {s : Shared} {σ : St} {H : Hp} {Q : VK} (I : Inv X pins σ H s)
    (hsub : ∀ x c, cl.lookup x = some c → X.env.cells.lookup x = some c) (hhas : ∀ y ∈ scope.names, y.2 = .free → ∃ c, cl.lookup y.1 = some c)
    (hi : PI X tg iter wi) (hg : ∀ cl C s H ex pn, PG (cxComp X scope cl C N' s H ex pn) tg g) (hif : ∀ cl C s H ex pn, PIfs (cxComp X scope cl C N' s H ex pn) ifs tt)
    (he : ∀ cl C s H ex pn, PE (cxComp X scope cl C N' s H ex pn) elt te) (h : tComp wi L src g tt te σ H Q) {RR : Value → Addr → Result → Shared → Prop}
    (hRR : ∀ D C H' f s' m, Inv X pins σ H' s' → s'.heap.Ns C m → FpOk X pins H' C → Q (.ref D) H' → RR (.ref D) C (.ok f) s') :
    wpAny (model X.prog X.w) X.A (eval iter X.env) (fun x s₁ => wpAny (model X.prog X.w) X.A (pyIter x) (fun it s₂ => wpAny (model X.prog X.w) X.A (newList []) (fun acc s₃ =>
      wpAny (model X.prog X.w) X.A (newFunctionEnv scope X.env.globals cl [] X.env.qual none .none (some X.env)) (fun cenv s₄ =>
        codeAny (model X.prog X.w) X.A (.compStart (.ListComp elt [⟨tg, iter, ifs, 0⟩] scope pos) 0 it acc { cenv with scope := relabel scope X.env }) (RR acc cenv.locals) s₄) X.xe s₃) X.xe s₂) X.xe s₁) X.xe s := by
  refine thn (hi pins s σ H _ I h) fun v s1 h1 => thn h1 fun itv s2 h2 => ?_
  obtain ⟨it, fp, tn, J, H2, e, I2, T, st2, f2, q⟩ := h2
  subst e
  refine wpAny_newObj_type (wpAny_newFunctionEnv ck.nocell (by intro y hy; simp at hy) (fun h₁ hns₁ hsb₁ => ?_) ck.kind)
  dsimp only at hns₁ hsb₁ ⊢
  generalize hH2 : s2.heap.push { cls := .type "list", dict := none, data := .seq ([] : List Value).toArray } = hp2 at hns₁ hsb₁ ⊢
  have hC : hp2.objs.size = s2.heap.objs.size + 1 := by rw [← hH2, Heap.size_push]
  have hDC : s2.heap.objs.size ≠ hp2.objs.size := by rw [hC]; exact Nat.ne_of_lt (Nat.lt_succ_self _)
  have hCle : s2.heap.objs.size ≤ hp2.objs.size := by rw [hC]; exact Nat.le_succ _
  have below : ∀ b, b < s2.heap.objs.size → b ≠ hp2.objs.size ∧ b ≠ s2.heap.objs.size := fun b hb => ⟨by rw [hC]; exact Nat.ne_of_lt (Nat.lt_succ_of_lt hb), Nat.ne_of_lt hb⟩
  have old : ∀ b o, s2.heap.get? b = some o → h₁.get? b = some o := fun b o e => hsb₁.extBut b o (below b (Heap.lt_size e)).1 (Heap.get?_push_of_some _ (hH2 ▸ Heap.get?_push_of_some _ e))
  have hacc : h₁.get? s2.heap.objs.size = some { cls := .type "list", dict := none, data := .seq ([] : List Value).toArray } := hsb₁.extBut _ _ hDC (Heap.get?_push_of_some _ (hH2 ▸ Heap.get?_push_size _ rfl))
  have hDn : H2 s2.heap.objs.size = none := I2.fresh
  obtain ⟨W, ⟨m0, w0⟩, turn⟩ := q _ hDn
  -- the iterator's records
  have fpo : ∀ b ∈ fp, ∃ o, s2.heap.get? b = some o ∧ ∀ v, o.data ≠ .cell v := T.obj _ _ st2
  have fplt : ∀ b ∈ fp, b < s2.heap.objs.size := fun b hb => by obtain ⟨o, e, _⟩ := fpo b hb; exact Heap.lt_size e
  have hfrs : ∀ b ∈ fp, b ∉ frs X.stack := fun b hb z => by
    rcases List.mem_cons.mp (I2.stkSub b z) with z' | z'
    · exact (f2 b hb).2.1 z'
    · exact (f2 b hb).2.2.1 z'
  generalize hX : cxComp X scope cl hp2.objs.size N' s2 H2 fp (X.pn ++ pins) = X'
  have ok' : X'.Ok := by
    subst hX
    refine ⟨I2.ok.mod, ck.kind, I2.ok.glob, I2.ok.blt, hCle, fun x y c e1 e2 => I2.ok.inj x y c (hsub _ _ e1) (hsub _ _ e2), fun x hx => ?_, fun x c z _ => (by cases z), I2.ok.hd, I2.ok.frames, .inl rfl, fun b hb => ⟨(below b (fplt b hb)).1, fun x c e => (f2 b hb).2.2.2.2.1 x c (hsub _ _ e)⟩,
      I2.bs, Nat.le_trans I2.ok.bsz I2.sz, fun b o e hb => ?_, hfrs, I2.stack, I2.stkFree⟩
    · -- a name that is a cell or free
      have hx' : (relabel scope X.env).names.lookup x = some .cell ∨ (relabel scope X.env).names.lookup x = some .free := hx
      have key : ∀ (names : List (Str × NameKind)), (∀ y ∈ names, y.2 ≠ .cell) →
          ((names.map fun (n, k) => if (k == NameKind.free && X.env.scope.kind == .function && X.env.kindOf n == some .cell) then (n, NameKind.cell) else (n, k)).lookup x = some .cell ∨
           (names.map fun (n, k) => if (k == NameKind.free && X.env.scope.kind == .function && X.env.kindOf n == some .cell) then (n, NameKind.cell) else (n, k)).lookup x = some .free) → ∃ y ∈ names, y.1 = x ∧ y.2 = .free := by
        intro names
        induction names with
        | nil => intro _ h; rcases h with h | h <;> simp at h
        | cons y r ih =>
          intro hn h
          obtain ⟨n, k⟩ := y
          by_cases hb : x = n
          · subst hb
            refine ⟨(x, k), List.mem_cons_self, rfl, ?_⟩
            by_cases hk : k = .free
            · exact hk
            · exfalso
              have hkb : (k == NameKind.free) = false := by simpa using hk
              have hnc : k ≠ .cell := hn (x, k) List.mem_cons_self
              simp only [List.map_cons, hkb, Bool.false_and, Bool.false_eq_true, if_false, List.lookup_cons, beq_self_eq_true, if_true] at h
              rcases h with h | h
              · exact hnc (Option.some.inj h)
              · exact hk (Option.some.inj h)
          · have hb' : (x == n) = false := by simpa using hb
            have h' : ((r.map fun (n, k) => if (k == NameKind.free && X.env.scope.kind == .function && X.env.kindOf n == some .cell) then (n, NameKind.cell) else (n, k)).lookup x = some .cell ∨
                (r.map fun (n, k) => if (k == NameKind.free && X.env.scope.kind == .function && X.env.kindOf n == some .cell) then (n, NameKind.cell) else (n, k)).lookup x = some .free) := by
              rw [List.map_cons] at h
              dsimp only at h
              by_cases hcnd : (k == NameKind.free && X.env.scope.kind == .function && X.env.kindOf n == some .cell) = true
              · rw [if_pos hcnd] at h
                simpa only [List.lookup_cons, hb'] using h
              · rw [if_neg hcnd] at h
                simpa only [List.lookup_cons, hb'] using h
            obtain ⟨y, hy, e1, e2⟩ := ih (fun y hy => hn y (List.mem_cons_of_mem _ hy)) h'
            exact ⟨y, List.mem_cons_of_mem _ hy, e1, e2⟩
      obtain ⟨y, hy, e1, e2⟩ := key scope.names ck.nocell hx'
      obtain ⟨c, hc'⟩ := hhas y hy e2
      exact ⟨c, e1 ▸ hc'⟩
    · rcases (f2 b hb).2.2.2.1 with z | z
      · exact I2.ok.noex b o e z
      · exact absurd (Nat.lt_of_lt_of_le (Heap.lt_size e) (Nat.le_trans I2.ok.bsz z)) (Nat.lt_irrefl _)
  have stat : ∀ {H' : Hp}, (∀ b ∈ fp, H' b = none) → ∀ b ∈ fp, FpOk X' [] H' b := by
    subst hX
    intro H' hn b hb
    refine ⟨hn b hb, (below b (fplt b hb)).1, hfrs b hb, .inl hb, fun x c e => (f2 b hb).2.2.2.2.1 x c (hsub _ _ e), fun p hp => ?_⟩
    have hp' : p ∈ X.pn ++ pins := by simpa [cxComp] using hp
    exact (f2 b hb).2.2.2.2.2 p hp'
  have I1 : Inv X' [] (cst L src σ) (upd H2 s2.heap.objs.size (.lst [])) { s2 with heap := h₁, toks := s2.toks + ([] : List (Str × Value)).length } := by
    subst hX
    have up : ∀ b o, H2 b = some o → upd H2 s2.heap.objs.size (.lst []) b = some o := fun b o e => by rw [upd_ne (ne_of_none e hDn)]; exact e
    have upn : ∀ b, b < s2.heap.objs.size → H2 b = none → upd H2 s2.heap.objs.size (.lst []) b = none := fun b hb e => by rw [upd_ne (Nat.ne_of_lt hb)]; exact e
    refine ⟨ok', rfl, I2.bare, Un.laid old (Nat.le_refl _) hDn, ⟨_, hns₁, fun i x v e1 e2 e3 => ?_⟩, fun x c e => ?_, ?_, fun x c e => ?_, fun p hp => ?_, I2.hok.laid old (Nat.le_refl _) ⟨Nat.zero_le _, [], 0, .nil, hacc⟩, ?_⟩
    · -- the names of the def around
      have hiL : L ≤ i := by
        by_cases hlt : i < L
        · exfalso
          unfold cst at e2
          rw [List.getElem?_append_left (by simpa using hlt), List.getElem?_replicate, if_pos hlt] at e2
          cases e2
        · omega
      have e2' : (src.map fun j => (σ[j]?).join)[i - L]? = some (some v) := by
        unfold cst at e2
        rw [List.getElem?_append_right (by simpa using hiL), List.length_replicate] at e2
        exact e2
      rw [List.getElem?_map] at e2'
      cases hj : src[i - L]? with
      | none => rw [hj] at e2'; cases e2'
      | some j =>
        rw [hj] at e2'
        have e3' : (σ[j]?).join = some v := Option.some.inj e2'
        have hσ : σ[j]? = some (some v) := by
          cases q : σ[j]? with
          | none => rw [q] at e3'; cases e3'
          | some o => rw [q] at e3'; exact congrArg some e3'
        obtain ⟨x', g1, g2, g3⟩ := ck.frees (i - L) j hj
        have : L + (i - L) = i := by omega
        rw [this] at g1
        have ex : x' = x := Option.some.inj (g1.symm.trans e1)
        subst ex
        have hfree := ck.free _ (PySem.mem_of_lookup g3) rfl
        obtain ⟨m, hn, hl⟩ := I2.loc
        obtain ⟨u, r, l⟩ := hl j x' v g2 hσ (hfree.elim (fun z => .inr (.inl z)) fun z => .inr (.inr z))
        refine ⟨u, r, .inr ⟨?_, ?_⟩⟩
        · -- its kind in the block
          have key : ∀ (names : List (Str × NameKind)), names.lookup x' = some .free →
              ((names.map fun (n, k) => if (k == NameKind.free && X.env.scope.kind == .function && X.env.kindOf n == some .cell) then (n, NameKind.cell) else (n, k)).lookup x' = some .cell ∨
               (names.map fun (n, k) => if (k == NameKind.free && X.env.scope.kind == .function && X.env.kindOf n == some .cell) then (n, NameKind.cell) else (n, k)).lookup x' = some .free) := by
            intro names
            induction names with
            | nil => intro h; simp at h
            | cons y r ih =>
              intro h
              obtain ⟨n, k⟩ := y
              by_cases hb : x' = n
              · subst hb
                simp only [List.lookup_cons, beq_self_eq_true, if_true] at h
                have hk : k = .free := Option.some.inj h
                subst hk
                rw [List.map_cons]
                dsimp only
                by_cases hcnd : (NameKind.free == NameKind.free && X.env.scope.kind == .function && X.env.kindOf x' == some .cell) = true
                · rw [if_pos hcnd]; left; simp [List.lookup_cons]
                · rw [if_neg hcnd]; right; simp [List.lookup_cons]
              · have hb' : (x' == n) = false := by simpa using hb
                have h' := ih (by simpa only [List.lookup_cons, hb'] using h)
                rw [List.map_cons]
                dsimp only
                by_cases hcnd : (k == NameKind.free && X.env.scope.kind == .function && X.env.kindOf n == some .cell) = true
                · rw [if_pos hcnd]; simpa only [List.lookup_cons, hb'] using h'
                · rw [if_neg hcnd]; simpa only [List.lookup_cons, hb'] using h'
          exact key scope.names g3
        · obtain ⟨c, hcl⟩ := hhas _ (PySem.mem_of_lookup g3) rfl
          have hcx := hsub _ _ hcl
          rcases l with ⟨k1, _⟩ | ⟨_, c', e4, z⟩
          · exfalso
            have k1' : X.env.scope.names.lookup x' = some .local := k1
            rcases hfree with z | z
            · rw [z] at k1'; cases k1'
            · rw [z] at k1'; cases k1'
          · rw [hcx] at e4
            cases e4
            obtain ⟨o, ho, hd⟩ := z
            exact ⟨c, hcl, o, old _ _ ho, hd⟩
    · obtain ⟨v, o, ho, hd⟩ := I2.cell x c (hsub _ _ e)
      exact ⟨v, o, old _ _ ho, hd⟩
    · show upd H2 s2.heap.objs.size (.lst []) hp2.objs.size = none
      rw [upd_ne (Ne.symm hDC)]
      exact I2.hok.fresh hCle
    · obtain ⟨v, o, ho, hd⟩ := I2.cell x c (hsub _ _ e)
      exact upn c (Heap.lt_size ho) (I2.freeC x c (hsub _ _ e))
    · have hp' : p ∈ X.pn ++ pins := by simpa [cxComp] using hp
      obtain ⟨e, n, ne, nf, d⟩ := I2.pin p hp'
      have hlt := Heap.lt_size e
      refine ⟨old _ _ e, upn _ hlt n, (below _ hlt).1, fun z => ?_, d⟩
      rcases List.mem_cons.mp (I2.stkSub _ z) with z' | z'
      · exact ne z'
      · exact nf z'
    · show (cst L src σ).length = N'.length
      unfold cst
      rw [List.length_append, List.length_replicate, List.length_map, ck.len]
  have eA : X'.A = X.A := by subst hX; rfl
  have eP : X'.prog = X.prog := by subst hX; rfl
  have eW : X'.w = X.w := by subst hX; rfl
  have eK : X'.K = X.K := by subst hX; rfl
  have ec : X'.calm = true := by subst hX; exact hc
  have exe : X'.xe = fun _ _ => False := by subst hX; rfl
  have eE : X'.env = compEnvC scope cl hp2.objs.size X.env := by subst hX; rfl
  have hg' : PG X' tg g := by subst hX; exact hg _ _ _ _ _ _
  have hif' : PIfs X' ifs tt := by subst hX; exact hif _ _ _ _ _ _
  have he' : PE X' elt te := by subst hX; exact he _ _ _ _ _ _
  -- behind the block
  have aft : ∀ {H' : Hp} {s' : Shared}, Inv X' [] (cst L src σ) H' s' → Inv X pins σ H' s' ∧ (∃ m, s'.heap.Ns hp2.objs.size m) ∧ FpOk X pins H' hp2.objs.size := by
    subst hX
    intro H' s' J
    refine ⟨I2.call' (ch := fp) J.os J.base J.hok J.bare fun b hb => ⟨(f2 b hb).2.2.2.1, (f2 b hb).2.1, (f2 b hb).2.2.2.2.1, (f2 b hb).2.2.2.2.2⟩, ?_, I2.fpOk hCle J.free⟩
    obtain ⟨m, hn, _⟩ := J.loc
    exact ⟨m, hn⟩
  have st1 : tn 0 h₁ := T.keep _ _ _ st2 fun b hb o e => old b o e
  have loop : ∀ s₃ : Shared, s₃ = { s2 with heap := h₁, toks := s2.toks + ([] : List (Str × Value)).length } →
      codeAny (model X.prog X.w) X.A (.compLoop (.ListComp elt [⟨tg, iter, ifs, 0⟩] scope pos) 0 (.ref it) (.ref s2.heap.objs.size) (compEnvC scope cl hp2.objs.size X.env))
        (RR (.ref s2.heap.objs.size) hp2.objs.size) s₃ := by
    rintro s₃ rfl
    refine compLoop_all (fun n s' => ∃ i H' ys, Inv X' [] (cst L src σ) H' s' ∧ tn i s'.heap ∧ (∀ b ∈ fp, H' b = none) ∧ W i n H' ys) ?_ m0
      ⟨0, _, [], I1, st1, fun b hb => (by rw [upd_ne (below b (fplt b hb)).2]; exact (f2 b hb).1), w0⟩
    rintro n s3 ⟨i, H3, ys, I3, st3, fr3, w3⟩
    obtain ⟨hD, alt⟩ := turn i n H3 ys w3
    rcases alt with ⟨stop, qn⟩ | ⟨go, hlen, N, hN, step⟩
    · have d := T.done X' eP eW eK ec i [] s3 (cst L src σ) H3 (fun _ _ => False) I3 (stat fr3) st3 stop
      rw [eA] at d
      refine thn d fun r s4 ⟨hr, I4⟩ => ?_
      subst hr
      obtain ⟨J, ⟨m, hn⟩, fpC⟩ := aft I4
      exact hRR _ _ H3 .next s4 m J hn fpC qn
    · have d := T.item X' eP eW eK ec i [] s3 (cst L src σ) H3 (fun _ _ => False) I3 (stat fr3) st3 go
      rw [eA] at d
      refine thn d fun r s4 ⟨u, hr, h4⟩ => ?_
      subst hr
      refine thn h4 fun _ s5 ⟨x, H5, I5, r5, y5, st5, fr5⟩ => ?_
      have I5' := I5.pinned (stat fr5) (T.obj _ _ st5)
      have a1 := hg' _ s5 (cst L src σ) H5 x u _ I5' r5 (step x H5 y5)
      rw [eP, eW, eA, eE, exe] at a1
      refine thn a1 fun _ s6 ⟨σ6, H6, I6, bk, q6⟩ => ?_
      have a2 := hif' _ s6 σ6 H6 _ I6 q6
      rw [eP, eW, eA, eE, exe] at a2
      refine thn a2 fun b s7 ⟨H7, I7, q7⟩ => ?_
      have again : ∀ {H8 : Hp} {s8 : Shared} {ys' : List V}, Inv X' ([] ++ pinsAt fp s5.heap) σ6 H8 s8 → N H8 ys' → ∃ m, m < n ∧ ∃ i H' ys, Inv X' [] (cst L src σ) H' s8 ∧ tn i s8.heap ∧ (∀ b ∈ fp, H' b = none) ∧ W i m H' ys := fun {H8 s8 ys'} I8 n8 => by
        obtain ⟨m', hm, w8⟩ := hN H8 ys' n8
        refine ⟨m', hm, i + 1, H8, ys', (I8.unpinned).weak bk.1.symm bk.2, T.keep _ _ _ st5 fun b hb o e => (I8.pin (b, o) (List.mem_append_right _ (List.mem_append_right _ (mem_pinsAt hb e)))).1, fun b hb => ?_, w8⟩
        obtain ⟨o, e, d⟩ := T.obj _ _ st5 b hb
        exact (I8.pin (b, o) (List.mem_append_right _ (List.mem_append_right _ (mem_pinsAt hb e)))).2.1
      cases b with
      | false =>
        rw [if_neg Bool.false_ne_true] at q7 ⊢
        exact again I7 q7
      | true =>
        rw [if_pos rfl] at q7 ⊢
        have a3 := he' _ s7 σ6 H7 _ I7 q7
        rw [eP, eW, eA, eE, exe] at a3
        refine thn a3 fun xv s8 ⟨y, H8, I8, r8, hD8, q8⟩ => ?_
        have a4 := mt_append (X := X') _ s8 σ6 H8 (.ref s2.heap.objs.size) [y] (.ref s2.heap.objs.size) [xv] (fun _ H' => H' = upd H8 s2.heap.objs.size (.lst (ys ++ [y]))) I8 rfl (.cons r8 .nil) ⟨_, ys, y, rfl, rfl, hD8, hlen, rfl⟩
        rw [eP, eW, eA, exe] at a4
        refine thn a4 fun _ s9 ⟨_, H9, I9, _, e9⟩ => ?_
        subst e9
        exact again I9 q8
  exact codeAny_compStart_list (loop _ rfl) (T.self _ 0 _ _ _ st1 (loop _ rfl))
/-- a comprehension as a value -/
theorem pe_comp (hc : X.calm = true) (ck : compChk X.env.scope X.N scope N' L src = true) (hi : PI X tg iter wi) (hg : ∀ cl C s H ex pn, PG (cxComp X scope cl C N' s H ex pn) tg g) (hif : ∀ cl C s H ex pn, PIfs (cxComp X scope cl C N' s H ex pn) ifs tt)
    (he : ∀ cl C s H ex pn, PE (cxComp X scope cl C N' s H ex pn) elt te) (hs : ∀ x, foldedSetIterable iter X.env x = pure x := by intro _; rfl) :
    PE X (.ListComp elt [⟨tg, iter, ifs, 0⟩] scope pos) (tComp wi L src g tt te) := by
  intro pins s σ H Q I h
  have ck := compOk_of ck
  obtain ⟨cl, hclos, hsub, hhas⟩ := clos_ok (scope := scope) (env := X.env) fun y hy e => I.ok.has y.1 (ck.free y hy e)
  rw [eval_ListComp]
  refine wpAny_comprehension_free (use := none) rfl hs hclos ck.kind ck.loc (comp_run hc ck I hsub hhas hi hg hif he h (RR := fun acc C => compPost (model X.prog X.w) X.A X.xe none (EP X pins σ Q) acc C) ?_)
  intro D C H' f s' m J hn fpC q
  refine ⟨m, hn, fun h' hsb => ⟨.ref D, H', ?_, rfl, q⟩⟩
  obtain ⟨f0, f1, f2, f3, f4, f5⟩ := fpC
  exact J.turned (t' := s'.toks) (fun b o hb e => (hsb.2 b hb).trans e) f0 f1 f3 f4 f5
/-- name = [.. for ..], a plain local of the row -/
theorem ps_setComp {j : Nat} {y : Str} {py spos : Pos} (hN : X.N.Nodup) (hj : X.N[j]? = some y) (hy : X.env.scope.names.lookup y = some .local) (hsw : swapsWith (.ListComp elt [⟨tg, iter, ifs, 0⟩] scope pos) (some (.Name y py)) spos.line X.env = pure true)
    (hc : X.calm = true) (ck : compChk X.env.scope X.N scope N' L src = true) (hi : PI X tg iter wi) (hg : ∀ cl C s H ex pn, PG (cxComp X scope cl C N' s H ex pn) tg g) (hif : ∀ cl C s H ex pn, PIfs (cxComp X scope cl C N' s H ex pn) ifs tt)
    (he : ∀ cl C s H ex pn, PE (cxComp X scope cl C N' s H ex pn) elt te) (hs : ∀ x, foldedSetIterable iter X.env x = pure x := by intro _; rfl) :
    PS X (.Assign [.Name y py] (.ListComp elt [⟨tg, iter, ifs, 0⟩] scope pos) spos) (tAsg (tComp wi L src g tt te) (gName j)) := by
  intro pins s σ H D I h
  have ck := compOk_of ck
  obtain ⟨cl, hclos, hsub, hhas⟩ := clos_ok (scope := scope) (env := X.env) fun y hy e => I.ok.has y.1 (ck.free y hy e)
  rw [exec_Assign_Name_used _ _ _ _ hsw]
  refine wpAny_bind (wpAny_standAt (wpAny_bind ?_))
  show wpAny _ X.A (do let _ ← comprehension (.ListComp elt [⟨tg, iter, ifs, 0⟩] scope pos) scope X.env _ (newList []) false (eval iter X.env) (some (assign (.Name y py) X.env))) _ _ s
  refine wpAny_bind (wpAny_mono (wpAny_comprehension_free (use := some (assign (.Name y py) X.env)) (Q := fun _ s' => SP X pins D .next s') rfl hs hclos ck.kind ck.loc
    (comp_run hc ck I hsub hhas hi hg hif he h (RR := fun acc C => compPost (model X.prog X.w) X.A X.xe (some (assign (.Name y py) X.env)) (fun _ s' => SP X pins D .next s') acc C) ?_)) (fun _ s' hq => wpAny_pure (wpAny_pure hq)) fun _ _ e => e)
  intro L' C H' f s' m J hn fpC q
  show wpAny _ X.A (assign (.Name y py) X.env (.ref L')) _ _ _
  refine wpAny_assign_Name (store_ok2 J hN hj (.inl hy) (v := .ref L') rfl (fun s2 J2 hsb => ?_) (.inr hy))
  obtain ⟨f0, f1, f2, f3, f4, f5⟩ := fpC
  obtain ⟨a, hsb, ha⟩ := hsb
  have hCa : C ≠ a := by
    rcases ha with rfl | ha
    · exact f1
    · exact fun z => f4 _ _ ha z.symm
  refine ⟨m, hn.sameBut hsb hCa, fun h' hsb' => ⟨_, H', ?_, q⟩⟩
  exact J2.turned (t' := s2.toks) (fun b o hb e => (hsb'.2 b hb).trans e) f0 f1 f3 f4 f5
end
/-! ### the forms of a comprehension that one uses -/
theorem comp_over {J : It} {n : Nat} {H1 : Hp} {D : Addr} {σc : St} {g : TG} {tt : TT} {te : TE} {Q : VK} (Pv : Nat → Hp → List V → Prop) (hz : n ≤ sizeLine) (h0 : Pv 0 (upd H1 D (.lst [])) [])
    (hD : ∀ i H ys, Pv i H ys → H D = some (.lst ys) ∧ ys.length ≤ i)
    (hgo : ∀ i H ys, i < n → Pv i H ys → J.go i H) (hst : ∀ H ys, Pv n H ys → J.stop n H)
    (hs : ∀ i H ys x H', i < n → Pv i H ys → J.yld i H x H' → g x σc H' fun σ2 H2 => Back σc σ2 ∧ tt σ2 H2 fun b H3 => if b = true then te σ2 H3 fun y H4 => H4 D = some (.lst ys) ∧ Pv (i + 1) (upd H4 D (.lst (ys ++ [y]))) (ys ++ [y]) else Pv (i + 1) H3 ys)
    (hd : ∀ H ys, Pv n H ys → Q (.ref D) H) : CompW J σc g tt te D H1 Q := by
  refine ⟨fun i m H ys => m = n - i ∧ i ≤ n ∧ Pv i H ys, ⟨n, by simp, Nat.zero_le _, h0⟩, ?_⟩
  rintro i m H ys ⟨rfl, hi, p⟩
  obtain ⟨q1, q2⟩ := hD i H ys p
  refine ⟨q1, ?_⟩
  by_cases hlt : i < n
  · exact .inr ⟨hgo i H ys hlt p, by omega, Pv (i + 1), fun H' ys' p' => ⟨n - (i + 1), by omega, rfl, hlt, p'⟩, fun x H' y => hs i H ys x H' hlt p y⟩
  · have e : i = n := by omega
    subst e
    exact .inl ⟨hst H ys p, hd H ys p⟩
theorem comp_each {J : It} {n : Nat} {H1 : Hp} {D : Addr} {σc : St} {g : TG} {te : TE} {Q : VK} (Pv : Nat → Hp → List V → Prop) (hz : n ≤ sizeLine) (h0 : Pv 0 (upd H1 D (.lst [])) [])
    (hD : ∀ i H ys, Pv i H ys → H D = some (.lst ys) ∧ ys.length ≤ i)
    (hgo : ∀ i H ys, i < n → Pv i H ys → J.go i H) (hst : ∀ H ys, Pv n H ys → J.stop n H)
    (hs : ∀ i H ys x H', i < n → Pv i H ys → J.yld i H x H' → g x σc H' fun σ2 H2 => Back σc σ2 ∧ te σ2 H2 fun y H4 => H4 D = some (.lst ys) ∧ Pv (i + 1) (upd H4 D (.lst (ys ++ [y]))) (ys ++ [y]))
    (hd : ∀ H ys, Pv n H ys → Q (.ref D) H) : CompW J σc g tT te D H1 Q := by
  refine comp_over Pv hz h0 hD hgo hst (fun i H ys x H' hi p y => ?_) hd
  have e := hs i H ys x H' hi p y
  have q : (fun (σ2 : St) (H2 : Hp) => Back σc σ2 ∧ tT σ2 H2 fun b H3 => if b = true then te σ2 H3 fun y H4 => H4 D = some (.lst ys) ∧ Pv (i + 1) (upd H4 D (.lst (ys ++ [y]))) (ys ++ [y]) else Pv (i + 1) H3 ys) =
      (fun σ2 H2 => Back σc σ2 ∧ te σ2 H2 fun y H4 => H4 D = some (.lst ys) ∧ Pv (i + 1) (upd H4 D (.lst (ys ++ [y]))) (ys ++ [y])) := by
    funext σ2 H2
    unfold tT
    dsimp only
    rw [if_pos rfl]
  rw [q]
  exact e
end L2

namespace L2
open PySem PySem.Spec PyProof.Rows
section
variable {X : Cx} {pins : List (Addr × Obj)} {σ : St} {H : Hp} {s : Shared} {h' : Heap}
/-- records of ours have turned, and a new object is laid -/
theorem Inv.turnedNew {t' : Nat} {ch : List Addr} {T : Addr} {o : HO} (I : Inv X pins σ H s) (hf : ∀ b ∈ ch, FpOk X pins H b) (k : ∀ b u, b ∉ ch → s.heap.get? b = some u → h'.get? b = some u)
    (hT : s.heap.objs.size ≤ T) (new : ObjOk X.prog X.w (upd H T o) h' T o) : Inv X pins σ (upd H T o) { s with heap := h', toks := t' } := by
  have hn : H T = none := I.hok.fresh hT
  refine I.step (g' := s.gens) (d' := s.drawn) (ch := ch) (fun b hb => ?_) (fun b o _ _ hc e _ => k b o hc e) (fun b o _ _ hc e _ => ⟨o.slots, k b o hc e⟩) (fun b o hc e n => ?_)
    (fun b o hc e => ⟨o, k b o hc e⟩) (fun b xs e => ?_) (fun b o u e => ?_) (fun b ps e => ?_) (fun m hm => ?_) (fun b u e => ?_) I.bare
  · obtain ⟨f0, f1, f2, f3, f4, f5⟩ := hf b hb
    exact ⟨f3, f1, f4, f5⟩
  · rw [upd_ne (Nat.ne_of_lt (Nat.lt_of_lt_of_le (Heap.lt_size e) hT))]; exact n
  · rw [upd_ne (ne_of_none e hn)]; exact e
  · rw [upd_ne (ne_of_none e hn)]; exact e
  · exact ⟨#[], by rw [upd_ne (ne_of_none e hn), e]; simp⟩
  · obtain ⟨o, es, ep, ho, r⟩ := hm
    exact ⟨o, es, ep, k _ o (fun z => (hf _ z).2.1 rfl) ho, r⟩
  · by_cases hb : b = T
    · subst hb; rw [upd_same] at e; cases e; exact new
    · rw [upd_ne hb] at e
      refine (I.hok b u e).stay (fun c v hc q => k c v (fun z => ?_) q) (fun c q => by rw [upd_ne (ne_of_none q hn)]; exact q) fun c xs q => by rw [upd_ne (ne_of_none q hn)]; exact q
      have hcn := (hf c z).1
      rcases hc with rfl | hc
      · rw [e] at hcn; cases hcn
      · rw [hc] at hcn; cases hcn
end
/-! ### all, any -/
section
variable {X : Cx}
theorem bools_get {bs : List Bool} {us : List Value} (r : Vals (bs.map V.bl) us) {i : Nat} {v : Value} (e : us[i]? = some v) : ∃ b, bs[i]? = some b ∧ v = .bool b := by
  have hl := r.length
  rw [List.length_map] at hl
  have hi : i < us.length := (List.getElem?_eq_some_iff.mp e).1
  have hb : bs[i]? = some bs[i] := by simp [hl, hi]
  obtain ⟨u, h1, h2⟩ := r.get (i := i) (x := .bl bs[i]) (by rw [List.getElem?_map, hb]; rfl)
  rw [e] at h1
  cases h1
  exact ⟨_, hb, h2⟩
theorem kept_it {s : Shared} {h' : Heap} {o : Obj} (hk : ∀ b x, b ∉ [s.heap.objs.size] → (s.heap.push o).get? b = some x → h'.get? b = some x) : ∀ b x, s.heap.get? b = some x → h'.get? b = some x :=
  fun b x e => hk b x (fun hm => by rw [List.mem_singleton.mp hm] at e; exact Nat.lt_irrefl _ (Heap.lt_size e)) (Heap.get?_push_of_some _ e)
theorem call_all (hc : X.calm = true) : CallR X (.builtin "all") (fun xs H Q => ∃ (l : Addr) (bs : List Bool), xs = [.ref l] ∧ SqL X.K H l (bs.map V.bl) ∧ Q (.bl (bs.all id)) H) := by
  intro pins s σ H xs us Q I r h
  obtain ⟨l, bs, rfl, hq, q⟩ := h
  obtain ⟨u, rfl, ru⟩ := r.one
  obtain rfl : u = .ref l := ru
  obtain ⟨its, rv, p, hz⟩ := I.list hq
  have hl := p.isList
  have hlt : l < s.heap.objs.size := by obtain ⟨_, e, _⟩ := hl; exact Heap.lt_size e
  refine call_all_walk (wpAny_pyIter_list hl ?_)
  refine ⟨s.heap.objs.size, [s.heap.objs.size, l], [s.heap.objs.size], its.toArray.size, _, _, fun i => (bs[i]?).getD true, rfl, Walks.list (A := X.A.in1) (I.ok.hd hc) _ l (Nat.ne_of_lt hlt) its.toArray,
    ⟨⟨_, Heap.get?_push_size _ rfl, rfl, rfl⟩, hl.push _⟩, fun i v s' Q' E' hP hQ => ?_, fun h' tk hk => ?_⟩
  · obtain ⟨b, e, rfl⟩ := bools_get rv (i := i) (v := v) (by simpa using hP)
    simp only [e, Option.getD_some] at hQ
    exact wpAny_truthy_bool hQ
  · have e : ((List.range its.toArray.size).all fun i => (bs[i]?).getD true) = bs.all id := by
      rw [List.size_toArray, ← rv.length, List.length_map]; exact LSm.range_all bs
    rw [e]
    exact ⟨.bl _, H, I.kept (kept_it hk), rfl, q⟩
theorem call_any (hc : X.calm = true) : CallR X (.builtin "any") (fun xs H Q => ∃ (l : Addr) (bs : List Bool), xs = [.ref l] ∧ SqL X.K H l (bs.map V.bl) ∧ Q (.bl (bs.any id)) H) := by
  intro pins s σ H xs us Q I r h
  obtain ⟨l, bs, rfl, hq, q⟩ := h
  obtain ⟨u, rfl, ru⟩ := r.one
  obtain rfl : u = .ref l := ru
  obtain ⟨its, rv, p, hz⟩ := I.list hq
  have hl := p.isList
  have hlt : l < s.heap.objs.size := by obtain ⟨_, e, _⟩ := hl; exact Heap.lt_size e
  refine call_any_walk (wpAny_pyIter_list hl ?_)
  refine ⟨s.heap.objs.size, [s.heap.objs.size, l], [s.heap.objs.size], its.toArray.size, _, _, fun i => (bs[i]?).getD false, rfl, Walks.list (A := X.A.in1) (I.ok.hd hc) _ l (Nat.ne_of_lt hlt) its.toArray,
    ⟨⟨_, Heap.get?_push_size _ rfl, rfl, rfl⟩, hl.push _⟩, fun i v s' Q' E' hP hQ => ?_, fun h' tk hk => ?_⟩
  · obtain ⟨b, e, rfl⟩ := bools_get rv (i := i) (v := v) (by simpa using hP)
    simp only [e, Option.getD_some] at hQ
    exact wpAny_truthy_bool hQ
  · have e : ((List.range its.toArray.size).any fun i => (bs[i]?).getD false) = bs.any id := by
      rw [List.size_toArray, ← rv.length, List.length_map]; exact LSm.range_any bs
    rw [e]
    exact ⟨.bl _, H, I.kept (kept_it hk), rfl, q⟩
end
/-! ### enumerate of a list -/
def Ite (K : PySem.W.Frag) (a : Addr) : It :=
  ⟨fun i H => ∃ xs x, SqL K H a xs ∧ xs[i]? = some x, fun i H v H' => ∃ T x, H T = none ∧ v = .ref T ∧ H' = upd H T (.tup [.int (i : Int), x]) ∧ ∀ xs, SqL K H a xs → xs[i]? = some x, fun i H => ∃ xs, SqL K H a xs ∧ xs.length ≤ i⟩
theorem turn_enum {P : Program} {w : World} {K : PySem.W.Frag} {es : List Expr} {kk : Nat} {pos : Pos} (a e it : Addr) (hne : e ≠ it) :
    Turn P w K (.Tuple es kk pos) (Ite K a) [e, it] e (fun i h => (∃ old, IsEnum h e it i old) ∧ h.IsListIter it a i) where
  mem := by simp
  obj := fun i h st b hb => by
    obtain ⟨⟨old, he⟩, o, e1, c, d⟩ := st
    have hb' : b = e ∨ b = it := by simpa using hb
    rcases hb' with rfl | rfl
    · exact ⟨_, he, fun v z => by
        have z' : Data.fields _ = Data.cell v := z
        cases z'⟩
    · exact ⟨o, e1, fun v z => by rw [d] at z; cases z⟩
  keep := fun i h h' st k => by
    obtain ⟨⟨old, he⟩, hi⟩ := st
    exact ⟨⟨old, k e (by simp) _ he⟩, hi.at fun o q => k it (by simp) o q⟩
  item := by
    intro X hP hw hK hc i pins s σ H E I hf st hg
    subst hP hw hK
    obtain ⟨⟨old, he⟩, hit⟩ := st
    obtain ⟨xs, x, hq, hx⟩ := hg
    obtain ⟨its, rv, p, hz⟩ := I.list hq
    obtain ⟨u, hu, ru⟩ := rv.get hx
    have hnT : H s.heap.objs.size = none := I.fresh
    refine wpAny_pyNext_enum_item he hit p.isList (x := u) (by simpa using hu) hne fun h' ho hit' hT hsz hk => ?_
    refine ⟨_, rfl, wpAny_letOwnedTupleGo_enum (s := { s with heap := h', toks := s.toks + 1 }) ho fun h'' he'' hs'' => ?_⟩
    have helt : e < s.heap.objs.size := Heap.lt_size he
    have hilt : it < s.heap.objs.size := by obtain ⟨_, y, _⟩ := hit; exact Heap.lt_size y
    have hT'' : h''.get? s.heap.objs.size = some { cls := .type "tuple", data := .seq #[.int i s.toks, u] } := (hs''.2 _ (Nat.ne_of_gt helt)).trans hT
    refine ⟨.ref s.heap.objs.size, upd H s.heap.objs.size (.tup [.int (i : Int), x]), I.turnedNew (ch := [e, it]) (t' := s.toks + 1) hf (fun b o hb q => ?_) (Nat.le_refl _) ?_, rfl, ⟨_, x, hnT, rfl, rfl, fun ys hy => by rw [I.list_inj hy hq]; exact hx⟩, ⟨⟨u, ?_⟩, hit'.extBut hs''.extBut (Ne.symm hne)⟩, fun b hb => ?_⟩
    · have h1 : b ≠ e := fun z => hb (by simp [z])
      have h2 : b ≠ it := fun z => hb (by simp [z])
      exact (hs''.2 b h1).trans (hk b o h1 h2 q)
    · exact ⟨by show 2 ≤ sizeLine; decide, [.int i s.toks, u], .cons ⟨_, rfl⟩ (.cons ru .nil), ⟨_, hT'', rfl, _, rfl⟩, _, hT'', rfl⟩
    · simpa using he''
    · have hb' : b = e ∨ b = it := by simpa using hb
      have hlt : b < s.heap.objs.size := by rcases hb' with rfl | rfl <;> assumption
      rw [upd_ne (Nat.ne_of_lt hlt)]
      exact (hf b hb).1
  done := by
    intro X hP hw hK hc i pins s σ H E I hf st hg
    subst hP hw hK
    obtain ⟨⟨old, he⟩, hit⟩ := st
    obtain ⟨xs, hq, hx⟩ := hg
    obtain ⟨its, rv, p, hz⟩ := I.list hq
    obtain ⟨f0, f1, f2, f3, f4, f5⟩ := hf it (by simp)
    have hl := rv.length
    exact wpAny_pyNext_enum_end (I.ok.hd hc) he hit p.isList (by simp; omega) fun h' eb => ⟨rfl, I.turned (t' := s.toks) (fun b o hb e => eb b o hb e) f0 f1 f3 f4 f5⟩
  self := fun _ _ _ _ _ st h => by
    obtain ⟨⟨old, he⟩, _⟩ := st
    exact wpAny_pyIter_enum he h
def iEnum (K : PySem.W.Frag) (ta : TA) : TI := fun σ H R => ta σ H fun vs H1 => ∃ a, vs = [.ref a] ∧ (∃ xs, SqL K H1 a xs) ∧ R (Ite K a) H1
theorem pi_enum {X : Cx} {es : List Expr} {kk : Nat} {tp : Pos} {a : Expr} {ta : TA} {p pos : Pos} (hg : Gl X "enumerate") (hm : X.mg "enumerate" = none) (ha : PA X [a] ta) (hs : starEach [a] X.env = [(false, eval a X.env)] := by rfl) :
    PI X (.Tuple es kk tp) (.Call (.Name "enumerate" p) [a] [] pos) (iEnum X.K ta) := by
  intro pins s σ H R I h
  refine Call_ (ld_blt I hg hm boot_enumerate (PyProof.Rows.callWith_type1 (thn (ha pos pins s σ H _ I h) fun us s1 ⟨vs, H1, I1, r1, q1⟩ => ?_) hs rfl))
  obtain ⟨a, rfl, ⟨xs, hq⟩, q⟩ := q1
  obtain ⟨u, rfl, ru⟩ := r1.one
  obtain rfl : u = .ref a := ru
  obtain ⟨its, rv, p, hz⟩ := I1.list hq
  refine call_enumerate_list p.isList fun h' hE hI hsz hk => wpAny_pyIter_enum hE ?_
  have I2 : Inv X pins σ H1 { s1 with heap := h', toks := s1.toks } := I1.kept hk
  refine ⟨s1.heap.objs.size + 1, [s1.heap.objs.size + 1, s1.heap.objs.size], _, _, H1, rfl, I2, turn_enum a (s1.heap.objs.size + 1) s1.heap.objs.size (Nat.succ_ne_self _), ⟨⟨_, hE⟩, hI⟩, fun b hb => ?_, q⟩
  have hb' : b = s1.heap.objs.size + 1 ∨ b = s1.heap.objs.size := by simpa using hb
  have hle : s1.heap.objs.size ≤ b := by rcases hb' with rfl | rfl <;> omega
  exact I1.fpOk hle (I1.hok.fresh hle)
end L2

namespace L2
open PySem PySem.Spec PyProof.Rows
theorem boot_b_len : bootBuiltins "len" = some (.builtin "len") := by decide +kernel
theorem boot_b_abs : bootBuiltins "abs" = some (.builtin "abs") := by decide +kernel
theorem boot_b_all : bootBuiltins "all" = some (.builtin "all") := by decide +kernel
theorem boot_b_any : bootBuiltins "any" = some (.builtin "any") := by decide +kernel
theorem boot_b_divmod : bootBuiltins "divmod" = some (.builtin "divmod") := by decide +kernel
theorem boot_b_isinstance : bootBuiltins "isinstance" = some (.builtin "isinstance") := by decide +kernel
theorem boot_ty_int : bootBuiltins "int" = some (.type "int") := by decide +kernel
theorem boot_ty_bool : bootBuiltins "bool" = some (.type "bool") := by decide +kernel
theorem boot_ty_str : bootBuiltins "str" = some (.type "str") := by decide +kernel
theorem boot_ty_list : bootBuiltins "list" = some (.type "list") := by decide +kernel
theorem boot_ty_tuple : bootBuiltins "tuple" = some (.type "tuple") := by decide +kernel
theorem pe_ty {X : Cx} {x : Str} {T : String} {pos : Pos} (hg : Gl X x) (hm : X.mg x = none) (hv : bootBuiltins x = some (.type T)) (hn : x ≠ "__name__" := by decide) (hd : (x == ("__debug__" : Str)) = false := by decide) : PE X (.Name x pos) (tC (.ty T)) :=
  pe_bltn (v := .ty T) hg hm hv rfl hn hd
/-! ### data by depth; E: the addresses of lists that may change -/
mutual
inductive IsD (E : Addr → Prop) (H : Hp) : V → PyData → Prop
  | non : IsD E H .non .none
  | bl (b : Bool) : IsD E H (.bl b) (.bool b)
  | int (i : Int) : IsD E H (.int i) (.int i)
  | str (x : Str) : IsD E H (.str x) (.str x)
  | lst {a : Addr} {xs : List V} {ds : List PyData} (h : H a = some (.lst xs)) (ne : ¬ E a) (r : IsAll E H xs ds) : IsD E H (.ref a) (.list ds)
  | tup {a : Addr} {xs : List V} {ds : List PyData} (h : H a = some (.tup xs)) (r : IsAll E H xs ds) : IsD E H (.ref a) (.tuple ds)
inductive IsAll (E : Addr → Prop) (H : Hp) : List V → List PyData → Prop
  | nil : IsAll E H [] []
  | cons {x : V} {xs : List V} {d : PyData} {ds : List PyData} (h : IsD E H x d) (r : IsAll E H xs ds) : IsAll E H (x :: xs) (d :: ds)
end
/-- what is not in E, and all tuples, stay -/
structure SameE (E : Addr → Prop) (H H' : Hp) : Prop where
  old : ∀ a o, ¬ E a → H a = some o → H' a = some o
  tup : ∀ a xs, H a = some (.tup xs) → H' a = some (.tup xs)
mutual
theorem IsD.mono {E : Addr → Prop} {H H' : Hp} (k : SameE E H H') : ∀ {v : V} {d : PyData}, IsD E H v d → IsD E H' v d
  | _, _, .non => .non
  | _, _, .bl b => .bl b
  | _, _, .int i => .int i
  | _, _, .str x => .str x
  | _, _, .lst h ne r => .lst (k.old _ _ ne h) ne (IsAll.mono k r)
  | _, _, .tup h r => .tup (k.tup _ _ h) (IsAll.mono k r)
theorem IsAll.mono {E : Addr → Prop} {H H' : Hp} (k : SameE E H H') : ∀ {vs : List V} {ds : List PyData}, IsAll E H vs ds → IsAll E H' vs ds
  | _, _, .nil => .nil
  | _, _, .cons h r => .cons (IsD.mono k h) (IsAll.mono k r)
end
theorem SameE.refl {E : Addr → Prop} (H : Hp) : SameE E H H := ⟨fun _ _ _ h => h, fun _ _ h => h⟩
theorem SameE.trans {E : Addr → Prop} {H H1 H2 : Hp} (a : SameE E H H1) (b : SameE E H1 H2) : SameE E H H2 := ⟨fun c o n h => b.old c o n (a.old c o n h), fun c xs h => b.tup c xs (a.tup c xs h)⟩
theorem Same.toE {E : Addr → Prop} {H H' : Hp} (a : Same H H') : SameE E H H' := ⟨fun c o _ h => a c o h, fun c xs h => a c _ h⟩
theorem Same.new {H : Hp} {p : Addr} {o : HO} (h : H p = none) : Same H (upd H p o) := fun b u e => by rw [upd_ne (ne_of_none e h)]; exact e
theorem IsAll.length {E : Addr → Prop} {H : Hp} : ∀ {vs : List V} {ds : List PyData}, IsAll E H vs ds → vs.length = ds.length
  | _, _, .nil => rfl
  | _, _, .cons _ r => by simp [IsAll.length r]
theorem IsAll.get {E : Addr → Prop} {H : Hp} : ∀ {vs : List V} {ds : List PyData} {i : Nat} {v : V}, IsAll E H vs ds → vs[i]? = some v → ∃ d, ds[i]? = some d ∧ IsD E H v d
  | _, _, _, _, .nil, e => by simp at e
  | _, _, 0, _, .cons h _, e => by simp at e; subst e; exact ⟨_, rfl, h⟩
  | _, _, i + 1, v, .cons _ r, e => by
    obtain ⟨d, h1, h2⟩ := IsAll.get (i := i) (v := v) r (by simpa using e)
    exact ⟨d, by simpa using h1, h2⟩
theorem IsAll.append {E : Addr → Prop} {H : Hp} : ∀ {vs ws : List V} {ds es : List PyData}, IsAll E H vs ds → IsAll E H ws es → IsAll E H (vs ++ ws) (ds ++ es)
  | _, _, _, _, .nil, s => s
  | _, _, _, _, .cons h r, s => .cons h (IsAll.append r s)
mutual
theorem IsD.reads {E : Addr → Prop} {P : Program} {w : World} {H : Hp} {h : Heap} (ok : HOk P w H h) : ∀ {v : V} {d : PyData}, IsD E H v d → ∀ {u : Value}, RelV v u → ∃ as, Reads h u d as
  | _, _, .non, u, r => by obtain rfl : u = .none := r; exact ⟨_, .none⟩
  | _, _, .bl b, u, r => by obtain rfl : u = .bool b := r; exact ⟨_, .bool b⟩
  | _, _, .int i, u, r => by obtain ⟨t, rfl⟩ := r; exact ⟨_, .int i t⟩
  | _, _, .str x, u, r => by obtain ⟨t, rfl⟩ := r; exact ⟨_, .str x t⟩
  | _, _, .lst (a := a) (xs := xs) e _ q, u, r => by
    obtain rfl : u = .ref a := r
    obtain ⟨_, its, n, rv, e1⟩ := (show ObjOk P w H h a (.lst xs) from ok a _ e)
    obtain ⟨as, ra⟩ := IsAll.reads ok q rv
    exact ⟨_, .list e1 rfl rfl (by simpa using ra)⟩
  | _, _, .tup (a := a) (xs := xs) e q, u, r => by
    obtain rfl : u = .ref a := r
    obtain ⟨_, its, rv, ⟨o, e1, c, n, dd⟩, _⟩ := (show ObjOk P w H h a (.tup xs) from ok a _ e)
    obtain ⟨as, ra⟩ := IsAll.reads ok q rv
    exact ⟨_, .tuple e1 c dd (by simpa using ra)⟩
theorem IsAll.reads {E : Addr → Prop} {P : Program} {w : World} {H : Hp} {h : Heap} (ok : HOk P w H h) : ∀ {vs : List V} {ds : List PyData}, IsAll E H vs ds → ∀ {us : List Value}, Vals vs us → ∃ as, ReadsAll h us ds as
  | _, _, .nil, us, r => by cases r; exact ⟨_, .nil⟩
  | _, _, .cons q qs, us, r => by
    cases r with
    | cons r1 rr =>
      obtain ⟨as, h1⟩ := IsD.reads ok q r1
      obtain ⟨bs, h2⟩ := IsAll.reads ok qs rr
      exact ⟨_, .cons h1 h2⟩
end
section
variable {X : Cx}
/-- str of a list or a tuple -/
theorem call_str_data {k : Nat} (hr : Room k X.A) : CallR X (.type "str") (fun xs H Q => ∃ (a : Addr) (d : PyData) (E : Addr → Prop), xs = [.ref a] ∧ IsD E H (.ref a) d ∧ d.showable = true ∧ d.hasDict = false ∧ d.depth ≤ 50 ∧ d.shown.length ≤ sizeLine ∧ Q (.str d.shown) H) := by
  intro pins s σ H xs us Q I r h
  obtain ⟨a, d, E, rfl, hd, h1, h2, h3, h4, q⟩ := h
  obtain ⟨u, rfl, ru⟩ := r.one
  obtain rfl : u = .ref a := ru
  obtain ⟨as, rr⟩ := hd.reads I.hok (u := .ref a) rfl
  refine str_of_reads rr h1 (PyData.noDict_hsm h2) hr.gd (by have := hr.units; omega) (fun _ _ e => e) (fun h' u tk hk => ?_) h4
  exact ⟨.str _, H, I.kept hk, ⟨_, rfl⟩, q⟩
def CDivB (_ j : Int) : Prop := 0 < j ∧ j.natAbs.log2 < 9000
theorem op_fdivB : OpR X (binaryOp .FloorDiv) (rI CDivB fun i j => .int (i / j)) := opI fun i j _ _ _ _ _ hc q => by
  rw [← Int.fdiv_eq_ediv_of_nonneg _ (Int.le_of_lt hc.1)] at q
  exact floordiv_int (Int.ne_of_gt hc.1) q (.inl (PyProof.noPylong_of_log2 hc.2))
end
end L2

namespace L2
open PySem PySem.Spec PyProof.Rows
/-! ### kinds of data -/
def tyN : PyData → String
  | .none => "NoneType"
  | .bool _ => "bool"
  | .int _ => "int"
  | .str _ => "str"
  | .list _ => "list"
  | .tuple _ => "tuple"
  | .dict _ => "dict"
theorem IsD.ty {K : PySem.W.Frag} {E : Addr → Prop} {H : Hp} {v : V} {d : PyData} (h : IsD E H v d) : TyOf K H v (.type (tyN d)) := by
  cases h with
  | non => exact .non
  | bl b => exact .bl b
  | int i => exact .int i
  | str x => exact .str x
  | lst h ne r => exact .lst h
  | tup h r => exact .tup h
def isIntB : PyData → Bool
  | .int _ => true
  | .bool _ => true
  | _ => false
def isNum : PyData → Bool
  | .int _ => true
  | _ => false
def isBoolB : PyData → Bool
  | .bool _ => true
  | _ => false
def isTupB : PyData → Bool
  | .tuple _ => true
  | _ => false
def isLstB : PyData → Bool
  | .list _ => true
  | _ => false
def isStrB : PyData → Bool
  | .str _ => true
  | _ => false
theorem kit_int {K : PySem.W.Frag} (d : PyData) : PySem.W.kitOne K (.type (tyN d)) (.type "int") = some (isIntB d) := by cases d <;> rfl
theorem kit_bool {K : PySem.W.Frag} (d : PyData) : PySem.W.kitOne K (.type (tyN d)) (.type "bool") = some (isBoolB d) := by cases d <;> rfl
theorem kit_tuple {K : PySem.W.Frag} (d : PyData) : PySem.W.kitOne K (.type (tyN d)) (.type "tuple") = some (isTupB d) := by cases d <;> rfl
theorem kit_list {K : PySem.W.Frag} (d : PyData) : PySem.W.kitOne K (.type (tyN d)) (.type "list") = some (isLstB d) := by cases d <;> rfl
theorem kit_str {K : PySem.W.Frag} (d : PyData) : PySem.W.kitOne K (.type (tyN d)) (.type "str") = some (isStrB d) := by cases d <;> rfl
/-- isinstance(x, int) and not isinstance(x, bool), read -/
def rIsi (K : PySem.W.Frag) : List V → Hp → VK → Prop := fun xs H Q => ∃ x T t b, xs = [x, .ty T] ∧ TyOf K H x t ∧ PySem.W.kitOne K t (.type T) = some b ∧ Q (.bl b) H
theorem rd_isnum {K : PySem.W.Frag} {i : Nat} {σ : St} {x : V} {d : PyData} {E : Addr → Prop} {H : Hp} {Q : VK} (hσ : σ[i]? = some (some x)) (hx : IsD E H x d) (k : Q (.bl (isNum d)) H) :
    tAndV (tCB (rIsi K) (tCons (tVar i) (tCons (tC (.ty "int")) tNil))) (tNotV (tCB (rIsi K) (tCons (tVar i) (tCons (tC (.ty "bool")) tNil)))) σ H Q := by
  refine ⟨_, hσ, _, _, _, _, rfl, hx.ty, kit_int d, _, rfl, ?_⟩
  have rest : ∀ b, isNum d = !b → isBoolB d = b → tNotV (tCB (rIsi K) (tCons (tVar i) (tCons (tC (.ty "bool")) tNil))) σ H Q := fun b e1 e2 => by
    refine ⟨_, hσ, _, _, _, _, rfl, hx.ty, kit_bool d, _, rfl, ?_⟩
    rw [e2, ← e1]
    exact k
  cases d with
  | int i => exact iteT (rest false rfl rfl)
  | bool b => exact iteT (rest true rfl rfl)
  | none => exact iteF k
  | str _ => exact iteF k
  | list _ => exact iteF k
  | tuple _ => exact iteF k
  | dict _ => exact iteF k
end L2

namespace L2
open PySem PySem.Spec PyProof.Rows
theorem log2_lt_of {j : Int} (h0 : 0 < j) {k : Nat} (h : j < 2 ^ k) : j.natAbs.log2 < k := by
  have hn : j.natAbs < 2 ^ k := by
    have e : ((2 : Int) ^ k) = ((2 ^ k : Nat) : Int) := by simp
    rw [e] at h
    omega
  exact (Nat.log2_lt (by omega)).mpr hn
theorem log2_small {j : Int} (h0 : 0 < j) (h : j < 2 ^ 8000) : j.natAbs.log2 < 9000 := Nat.lt_of_lt_of_le (log2_lt_of h0 h) (by decide)
section
variable {X : Cx}
theorem call_divmodB : CallR X (.builtin "divmod") (fun xs H Q => ∃ i j, xs = [.int i, .int j] ∧ CDivB i j ∧ ∀ p, H p = none → Q (.ref p) (upd H p (.tup [.int (i / j), .int (i % j)]))) := by
  intro pins s σ H xs us Q I r h
  obtain ⟨i, j, rfl, ⟨h1, h2⟩, q⟩ := h
  obtain ⟨u, w', rfl, ⟨t, rfl⟩, ⟨t', rfl⟩⟩ := vals2 r
  refine divmod_int (by omega) ?_ (.inl (PyProof.noPylong_of_log2 h2))
  rw [Int.fdiv_eq_ediv_of_nonneg i (by omega), Int.fmod_eq_emod_of_nonneg i (by omega)]
  have hn : H s.heap.objs.size = none := I.hok.fresh (Nat.le_refl _)
  refine ⟨.ref s.heap.objs.size, _, ?_, rfl, q _ hn⟩
  refine I.laid (fun b o e => Heap.get?_push_of_some _ e) (Nat.le_refl _) ⟨by simp only [List.length_cons, List.length_nil]; rw [sizeLine_eq]; decide, [.int (i / j) s.toks, .int (i % j) (s.toks + 1)], .cons ⟨_, rfl⟩ (.cons ⟨_, rfl⟩ .nil), ?_⟩
  exact ⟨⟨_, Heap.get?_push_size s.heap rfl, rfl, 0, rfl⟩, _, Heap.get?_push_size s.heap rfl, rfl⟩
end
theorem b01 (c : Bool) : -(2 ^ 64) < (if c = true then (1 : Int) else 0) ∧ (if c = true then (1 : Int) else 0) < 2 ^ 64 := by cases c <;> decide
theorem abs_nn (x : Int) : 0 ≤ (if x < 0 then -x else x) := by split <;> omega
theorem mul01 {x : Int} (c : Bool) (h : 0 ≤ x) : 0 ≤ x * (if c = true then (1 : Int) else 0) := by cases c <;> simp [h]
theorem atI_int {ms : List Int} {k : Int} (h0 : 0 ≤ k) (h : k.toNat < ms.length) : atI (ms.map V.int) k = some (V.int ms[k.toNat]) := by
  have q := atI_nat (xs := ms.map V.int) (j := k.toNat) (v := V.int ms[k.toNat]) (by rw [List.getElem?_map]; simp [h])
  rwa [Int.toNat_of_nonneg h0] at q
/-! ### the law's box of draws -/
def Bx (H : Hp) (b : Addr) (t : Int) : Prop := ∃ c x : Int, H b = some (.lst [.int c, .int x, .int t]) ∧ 0 ≤ c ∧ 0 ≤ x ∧ x < 2147483647
abbrev Eb (b : Addr) : Addr → Prop := fun a => a = b
theorem Bx.same {H H' : Hp} {b : Addr} {t : Int} (h : Bx H b t) (k : Same H H') : Bx H' b t := by
  obtain ⟨c, x, e, r⟩ := h
  exact ⟨c, x, k _ _ e, r⟩
/-- a list is changed at b, new things are laid -/
theorem sameE_upd {H H1 : Hp} {b : Addr} {xs : List V} {o : HO} (k : Same H H1) (hb : H1 b = some (.lst xs)) : SameE (Eb b) H (upd H1 b o) :=
  ⟨fun a u n h => by rw [upd_ne n]; exact k a u h, fun a ys h => by
    have e := k a _ h
    rw [upd_ne (ne_of e hb (by intro z; cases z))]; exact e⟩
def spBox (K : PySem.W.Frag) : Sp := fun vs H Q _ => ∃ (a : Addr) (ms : List Int) (k : Int), vs = [.ref a, .int k] ∧ SqL K H a (ms.map V.int) ∧ 0 ≤ k ∧ k ≤ 63 ∧ ∀ p H', H p = none → Same H H' → Bx H' p 0 → Q (.ref p) H'
def spTake : Sp := fun vs H Q _ => ∃ (b : Addr) (many t : Int), vs = [.ref b, .int many] ∧ Bx H b t ∧ 0 < many ∧ many.natAbs.log2 < 9000 ∧ 0 ≤ t ∧ t ≤ 1000000 ∧
  ∀ r t' H', 0 ≤ r → r < many → t ≤ t' → t' ≤ t + 1 → SameE (Eb b) H H' → Bx H' b t' → Q (.int r) H'
def spFold (K : PySem.W.Frag) : Sp := fun vs H Q _ => ∃ (a : Addr) (ns : List Int) (many : Int), vs = [.ref a, .int many] ∧ SqL K H a (ns.map V.int) ∧ ns.length ≤ 63 ∧ 2 ≤ many ∧ many ≤ 63 ∧
  ∀ (p : Addr) (ms : List Int) (H' : Hp), H p = none → Same H H' → H' p = some (.lst (ms.map V.int)) → 2 ≤ ms.length → (ms.length : Int) ≤ many → Q (.ref p) H'
end L2

namespace L2
open PySem PySem.Spec PyProof.Rows
theorem decV {i j : Int} : decide (V.int i = V.int j) = decide (i = j) := by
  by_cases h : i = j
  · rw [decide_eq_true h, decide_eq_true (by rw [h])]
  · rw [decide_eq_false h, decide_eq_false (fun z => h (by injection z))]
def nodupB : List Str → Bool
  | [] => true
  | x :: r => !r.contains x && nodupB r
theorem nodupS : ∀ l : List Str, nodupB l = true → l.Nodup
  | [], _ => List.nodup_nil
  | x :: r, h => by
    unfold nodupB at h
    simp only [Bool.and_eq_true, Bool.not_eq_true', List.contains_eq_mem, decide_eq_false_iff_not] at h
    exact List.nodup_cons.mpr ⟨h.1, nodupS r h.2⟩
def rLen (K : PySem.W.Frag) : List V → Hp → VK → Prop := fun xs H Q => ∃ p ys, xs = [.ref p] ∧ (SqL K H p ys ∨ SqT K H p ys) ∧ Q (.int ys.length) H
section
variable {X : Cx} {K : PySem.W.Frag}
theorem isinst_k (e : X.K = K := by rfl) : CallR X (.builtin "isinstance") (rIsi K) := by subst e; exact call_isinst
theorem len_k (e : X.K = K := by rfl) : CallR X (.builtin "len") (rLen K) := by subst e; exact call_len_seq
theorem ix_k (e : X.K = K := by rfl) : IxR X (rIx K) := by subst e; exact ix_seq
theorem ixL_k (e : X.K = K := by rfl) : IxR X (rIxL K) := by subst e; exact ix_list
theorem ixT_k (e : X.K = K := by rfl) : IxR X (rIxT K) := by subst e; exact ix_tup
def rAll (K : PySem.W.Frag) : List V → Hp → VK → Prop := fun xs H Q => ∃ (l : Addr) (bs : List Bool), xs = [.ref l] ∧ SqL K H l (bs.map V.bl) ∧ Q (.bl (bs.all id)) H
def rAny (K : PySem.W.Frag) : List V → Hp → VK → Prop := fun xs H Q => ∃ (l : Addr) (bs : List Bool), xs = [.ref l] ∧ SqL K H l (bs.map V.bl) ∧ Q (.bl (bs.any id)) H
theorem all_k (hc : X.calm = true) (e : X.K = K := by rfl) : CallR X (.builtin "all") (rAll K) := by subst e; exact call_all hc
theorem any_k (hc : X.calm = true) (e : X.K = K := by rfl) : CallR X (.builtin "any") (rAny K) := by subst e; exact call_any hc
theorem pg_tup_k {pos : Pos} {es : List Expr} {k : Nat} {t : TGs} {n : Nat} (hc : X.calm = true) (h : PGs X es t) (e : X.K = K := by rfl)
    (hn : (assignEach es X.env).length = n := by rfl) (hst : (assignEach es X.env).findIdx? (·.1) = none := by rfl) : PG X (.Tuple es k pos) (gTup K n t) := by
  subst e; exact pg_tup hc h hn hst
theorem pi_list_k {tg l : Expr} {tl : TE} (hl : PE X l tl) (e : X.K = K := by rfl) : PI X tg l (iList K tl) := by subst e; exact pi_list hl
theorem pi_tup_k {tg l : Expr} {tl : TE} (hl : PE X l tl) (e : X.K = K := by rfl) : PI X tg l (iTup K tl) := by subst e; exact pi_tup hl
end
end L2

namespace L2
open PySem PySem.Spec PyProof.Rows
def notStar : Expr → Bool
  | .Starred .. => false
  | _ => true
theorem star_cons {e : Expr} {es : List Expr} {env : Env} (h : notStar e = true) : starEach (e :: es) env = (false, eval e env) :: starEach es env := by
  cases e <;> first | rfl | (simp [notStar] at h)
section
variable {X : Cx} {e : Expr} {es : List Expr} {te : TE} {t : TA}
theorem pa_c (ha : PE X e te) (hr : PA X es t) (hs : notStar e = true := by rfl) : PA X (e :: es) (tCons te t) := pa_cons ha hr (star_cons hs)
theorem pw (i : Nat) {x : Str} {pos : Pos} (hv : Vis X.env.scope x) (hN : X.N[i]? = some x := by rfl) (hd : (x == ("__debug__" : Str)) = false := by decide) (hcd : (x == ("__classdict__" : Str)) = false := by decide) : PE X (.Name x pos) (tVar i) := pe_var hN hv hd hcd
end
end L2

namespace KM
theorem gcd_fmod (n d : Int) : Int.gcd d (n.fmod d) = Int.gcd n d := by
  apply Nat.dvd_antisymm
  · apply Int.dvd_gcd
    · have h1 : ((Int.gcd d (n.fmod d) : Nat) : Int) ∣ d := Int.gcd_dvd_left ..
      have h2 : ((Int.gcd d (n.fmod d) : Nat) : Int) ∣ n.fmod d := Int.gcd_dvd_right ..
      have h3 := Int.dvd_add h2 (Int.dvd_mul_of_dvd_left (c := n.fdiv d) h1)
      rw [Int.fmod_add_mul_fdiv] at h3
      exact h3
    · exact Int.gcd_dvd_left ..
  · apply Int.dvd_gcd
    · exact Int.gcd_dvd_right ..
    · rw [Int.fmod_def]
      exact Int.dvd_sub (Int.gcd_dvd_left ..) (Int.dvd_mul_of_dvd_left (Int.gcd_dvd_right ..))
theorem fmod_natAbs_lt (n d : Int) (h : d ≠ 0) : (n.fmod d).natAbs < d.natAbs := by
  rcases Int.lt_trichotomy d 0 with hd | hd | hd
  · have e : n.fmod d = -((-n).fmod (-d)) := by
      rw [Int.fmod_def, Int.fmod_def]
      have : (-n).fdiv (-d) = n.fdiv d := Int.neg_fdiv_neg n d
      rw [this, Int.neg_mul]; omega
    have h1 := Int.fmod_nonneg_of_pos (-n) (b := -d) (by omega)
    have h2 := Int.fmod_lt_of_pos (-n) (b := -d) (by omega)
    omega
  · exact absurd hd h
  · have h1 := Int.fmod_nonneg_of_pos n hd
    have h2 := Int.fmod_lt_of_pos n hd
    omega
theorem gcd_zero_abs (n : Int) : ((Int.gcd n 0 : Nat) : Int) = if n < 0 then -n else n := by
  rw [Int.gcd_zero_right]
  split <;> omega
theorem gcd_emod (n d : Int) : Int.gcd d (n % d) = Int.gcd n d := by
  by_cases h : d = 0
  · subst h; rw [Int.emod_zero, Int.gcd_comm]
  · apply Nat.dvd_antisymm
    · apply Int.dvd_gcd
      · have h1 : ((Int.gcd d (n % d) : Nat) : Int) ∣ d := Int.gcd_dvd_left ..
        have h2 : ((Int.gcd d (n % d) : Nat) : Int) ∣ n % d := Int.gcd_dvd_right ..
        have h3 := Int.dvd_add h2 (Int.dvd_mul_of_dvd_left (c := n / d) h1)
        rw [Int.emod_add_mul_ediv] at h3
        exact h3
      · exact Int.gcd_dvd_left ..
    · apply Int.dvd_gcd
      · exact Int.gcd_dvd_right ..
      · rw [Int.emod_def]
        exact Int.dvd_sub (Int.gcd_dvd_left ..) (Int.dvd_mul_of_dvd_left (Int.gcd_dvd_right ..))
end KM

namespace KM
/-- n over d in lowest terms, as the law reckons it -/
def low (n d : Int) : Int × Int := if 0 < d then (n / (Int.gcd n d : Nat), d / (Int.gcd n d : Nat)) else (-n / (Int.gcd n d : Nat), -d / (Int.gcd n d : Nat))
theorem gcd_pos {n d : Int} (h : d ≠ 0) : 0 < Int.gcd n d := by
  apply Nat.pos_of_ne_zero
  intro e
  exact h (Int.gcd_eq_zero_iff.mp e).2
theorem gcd_abs (n d : Int) : Int.gcd (if n < 0 then -n else n) (if d < 0 then -d else d) = Int.gcd n d := by
  split <;> split <;> simp [Int.gcd_neg, Int.neg_gcd]
theorem low_spec (n d : Int) (h : d ≠ 0) : 1 ≤ (low n d).2 ∧ (low n d).1 * d = n * (low n d).2 ∧ Int.gcd (low n d).1 (low n d).2 = 1 ∧ (low n d).1.natAbs ≤ n.natAbs ∧ (low n d).2.natAbs ≤ d.natAbs := by
  have g0 := gcd_pos (n := n) h
  have gi : ((Int.gcd n d : Nat) : Int) ≠ 0 := by omega
  have d1 : ((Int.gcd n d : Nat) : Int) ∣ n := Int.gcd_dvd_left ..
  have d2 : ((Int.gcd n d : Nat) : Int) ∣ d := Int.gcd_dvd_right ..
  obtain ⟨a, ha⟩ := d1
  obtain ⟨b, hb⟩ := d2
  have ea : n / ((Int.gcd n d : Nat) : Int) = a := by
    conv => lhs; lhs; rw [ha]
    exact Int.mul_ediv_cancel_left _ gi
  have eb : d / ((Int.gcd n d : Nat) : Int) = b := by
    conv => lhs; lhs; rw [hb]
    exact Int.mul_ediv_cancel_left _ gi
  have ena : -n / ((Int.gcd n d : Nat) : Int) = -a := by
    have : -n = ((Int.gcd n d : Nat) : Int) * (-a) := by rw [Int.mul_neg]; omega
    rw [this]
    exact Int.mul_ediv_cancel_left _ gi
  have enb : -d / ((Int.gcd n d : Nat) : Int) = -b := by
    have : -d = ((Int.gcd n d : Nat) : Int) * (-b) := by rw [Int.mul_neg]; omega
    rw [this]
    exact Int.mul_ediv_cancel_left _ gi
  have hco : Int.gcd a b = 1 := by
    have := Int.gcd_ediv_gcd_ediv_gcd (i := n) (j := d) g0
    rw [ea, eb] at this
    exact this
  have hgp : (0 : Int) < ((Int.gcd n d : Nat) : Int) := by omega
  have habs : n.natAbs = Int.gcd n d * a.natAbs := by
    conv => lhs; rw [ha]
    rw [Int.natAbs_mul]; rfl
  have hbbs : d.natAbs = Int.gcd n d * b.natAbs := by
    conv => lhs; rw [hb]
    rw [Int.natAbs_mul]; rfl
  have la : a.natAbs ≤ n.natAbs := by rw [habs]; exact Nat.le_mul_of_pos_left _ g0
  have lb : b.natAbs ≤ d.natAbs := by rw [hbbs]; exact Nat.le_mul_of_pos_left _ g0
  have hab : a * d = n * b := by
    generalize ((Int.gcd n d : Nat) : Int) = g at ha hb
    subst ha hb
    rw [Int.mul_comm g a, Int.mul_assoc]
  unfold low
  split
  · rename_i hd
    refine ⟨?_, ?_, ?_, ?_, ?_⟩
    · show 1 ≤ d / _
      rw [eb]
      have : 0 < b := by
        apply Int.pos_of_mul_pos_right (a := ((Int.gcd n d : Nat) : Int)) _ hgp
        rw [← hb]; exact hd
      omega
    · show n / _ * d = n * (d / _)
      rw [ea, eb]; exact hab
    · show Int.gcd (n / _) (d / _) = 1
      rw [ea, eb]; exact hco
    · show (n / _).natAbs ≤ _
      rw [ea]; exact la
    · show (d / _).natAbs ≤ _
      rw [eb]; exact lb
  · rename_i hd
    refine ⟨?_, ?_, ?_, ?_, ?_⟩
    · show 1 ≤ -d / _
      rw [enb]
      have : 0 < -b := by
        apply Int.pos_of_mul_pos_right (a := ((Int.gcd n d : Nat) : Int)) _ hgp
        rw [Int.mul_neg, ← hb]; omega
      omega
    · show -n / _ * d = n * (-d / _)
      rw [ena, enb, Int.neg_mul, Int.mul_neg, hab]
    · show Int.gcd (-n / _) (-d / _) = 1
      rw [ena, enb, Int.gcd_neg, Int.neg_gcd]; exact hco
    · show (-n / _).natAbs ≤ _
      rw [ena, Int.natAbs_neg]; exact la
    · show (-d / _).natAbs ≤ _
      rw [enb, Int.natAbs_neg]; exact lb
end KM

namespace KM
theorem low_uniq {n d a b : Int} (hd : d ≠ 0) (hb : 1 ≤ b) (hg : Int.gcd a b = 1) (he : a * d = n * b) : low n d = (a, b) := by
  obtain ⟨h1, h2, h3, _, _⟩ := low_spec n d hd
  generalize low n d = z at *
  obtain ⟨x, y⟩ := z
  dsimp only at h1 h2 h3
  have e1 : x * b = a * y := by
    apply Int.eq_of_mul_eq_mul_right hd
    calc x * b * d = (x * d) * b := by rw [Int.mul_assoc, Int.mul_comm b d, ← Int.mul_assoc]
      _ = n * y * b := by rw [h2]
      _ = (n * b) * y := by rw [Int.mul_assoc, Int.mul_comm y b, ← Int.mul_assoc]
      _ = a * d * y := by rw [he]
      _ = a * y * d := by rw [Int.mul_assoc, Int.mul_comm d y, ← Int.mul_assoc]
  have d1 : y ∣ b := by
    apply Int.natAbs_dvd_natAbs.mp
    apply Nat.Coprime.dvd_of_dvd_mul_left (k := y.natAbs) (m := x.natAbs)
    · show Nat.gcd y.natAbs x.natAbs = 1
      rw [Nat.gcd_comm]; exact h3
    · rw [← Int.natAbs_mul]
      exact Int.natAbs_dvd_natAbs.mpr ⟨a, by rw [e1, Int.mul_comm]⟩
  have d2 : b ∣ y := by
    apply Int.natAbs_dvd_natAbs.mp
    apply Nat.Coprime.dvd_of_dvd_mul_left (k := b.natAbs) (m := a.natAbs)
    · show Nat.gcd b.natAbs a.natAbs = 1
      rw [Nat.gcd_comm]; exact hg
    · rw [← Int.natAbs_mul]
      exact Int.natAbs_dvd_natAbs.mpr ⟨x, by rw [← e1, Int.mul_comm]⟩
  have e2 : y = b := Int.dvd_antisymm (by omega) (by omega) d1 d2
  subst e2
  have e3 : x = a := Int.eq_of_mul_eq_mul_right (by omega) e1
  rw [e3]
theorem low_self {a b : Int} (hb : 1 ≤ b) (hg : Int.gcd a b = 1) : low a b = (a, b) := low_uniq (by omega) hb hg rfl
section
variable {p0 p1 q0 q1 : Int}
end
end KM

namespace KM
/-! sums of lists of fractions, whatever the order -/
abbrev Fra := Int × Int
/-! the greatest, the least -/
/-- the sign of a fraction in lowest terms -/
theorem low_sgn {n d : Int} (hd : 0 < d) : (0 < (low n d).1 ↔ 0 < n) ∧ ((low n d).1 < 0 ↔ n < 0) := by
  obtain ⟨h1, h2, _, _, _⟩ := low_spec n d (by omega)
  generalize low n d = z at *
  obtain ⟨x, y⟩ := z
  dsimp only at *
  have hy : 0 < y := by omega
  constructor
  · constructor
    · intro h
      have : 0 < x * d := Int.mul_pos h hd
      rw [h2] at this
      exact Int.pos_of_mul_pos_left this hy
    · intro h
      have : 0 < n * y := Int.mul_pos h hy
      rw [← h2] at this
      exact Int.pos_of_mul_pos_left this hd
  · constructor
    · intro h
      have : x * d < 0 := Int.mul_neg_of_neg_of_pos h hd
      rw [h2] at this
      apply Decidable.byContradiction
      intro hn
      have := Int.mul_nonneg (show 0 ≤ n by omega) (show 0 ≤ y by omega)
      omega
    · intro h
      have : n * y < 0 := Int.mul_neg_of_neg_of_pos h hy
      rw [← h2] at this
      apply Decidable.byContradiction
      intro hn
      have := Int.mul_nonneg (show 0 ≤ x by omega) (show 0 ≤ d by omega)
      omega
end KM

namespace KM
/-! fractions by their worth: reduced ones of one worth are one -/
end KM

namespace L2
open PySem PySem.Spec PyProof.Rows
/-! ### zip of two lists or tuples -/
section
variable {prog : Program} {w : World} {A : Around} {E : Value → Shared → Prop} {s : Shared}
theorem nextOf_tup {it t : Addr} {i : Nat} {its : Array Value} {x : Value} {Q : Value → Shared → Prop} (hit : s.heap.IsTupleIter it t i) (ht : s.heap.IsTuple t its) (hx : its[i]? = some x)
    (q : ∀ h', h'.IsTupleIter it t (i + 1) → Heap.SameBut it s.heap h' → Q x { s with heap := h' }) : wpAny (model prog w) A (Builtin.SmallTypes.nextOf (.ref it)) Q E s := by
  obtain ⟨o, e1, e2, e3⟩ := id hit; obtain ⟨u, e4, _, k, e5⟩ := ht; unfold Builtin.SmallTypes.nextOf
  refine wpAny_bind (wpAny_callSpecial?_slot (name := Str.ofString "__next__") hit.typeIs F.slot_tuple_iterator_next (wpAny_call_entry F.slot_tuple_iterator_next hit.typeIs F.entry_tuple_iterator_next ?_ (F.args_tuple_iterator_next_1 _)))
  show wpAny _ _ (field (.ref it) 0 >>= _) _ _ s; refine wpAny_bind (wpAny_field e1 e3 (x := .ref t) rfl ?_)
  show wpAny _ _ (if (Value.ref t == Value.none) = true then _ else _) _ _ s; rw [if_neg (show ¬ ((Value.ref t == Value.none) = true) from Bool.false_ne_true)]
  show wpAny _ _ (field (.ref it) 1 >>= _) _ _ s; refine wpAny_bind (wpAny_field e1 e3 (x := .int i 0) rfl ?_)
  show wpAny _ _ (seqItems? (.ref t) >>= _) _ _ s; refine wpAny_bind (wpAny_seqItems e4 e5 ?_)
  simp only [Int.toNat_natCast, hx]; refine wpAny_bind (wpAny_setField e1 e3 (by simp) (wpAny_pure ⟨x, rfl, wpAny_pure (q _ ?_ (Heap.SameBut.update ..))⟩))
  exact ⟨_, Heap.get?_update_self _ e1 (Obj.isFreed_of_fields (Obj.data_mapFields e3 _)), (Obj.cls_mapFields ..).trans e2, by rw [Obj.data_mapFields e3]; simp [rawInt]⟩
theorem nextOf_tupEnd {it t : Addr} {i : Nat} {its : Array Value} {Q : Value → Shared → Prop} (hh : A.handled = none) (hit : s.heap.IsTupleIter it t i) (ht : s.heap.IsTuple t its) (hx : its[i]? = none)
    (q : ∀ h' e, Heap.ExtBut it s.heap h' → (∃ o, h'.get? e = some o ∧ o.cls = .type "StopIteration") → E (.ref e) { s with heap := h' }) : wpAny (model prog w) A (Builtin.SmallTypes.nextOf (.ref it)) Q E s := by
  obtain ⟨o, e1, e2, e3⟩ := id hit; obtain ⟨u, e4, _, k, e5⟩ := ht; unfold Builtin.SmallTypes.nextOf
  refine wpAny_bind (wpAny_callSpecial?_slot (name := Str.ofString "__next__") hit.typeIs F.slot_tuple_iterator_next (wpAny_call_entry F.slot_tuple_iterator_next hit.typeIs F.entry_tuple_iterator_next ?_ (F.args_tuple_iterator_next_1 _)))
  show wpAny _ _ (field (.ref it) 0 >>= _) _ _ s; refine wpAny_bind (wpAny_field e1 e3 (x := .ref t) rfl ?_)
  show wpAny _ _ (if (Value.ref t == Value.none) = true then _ else _) _ _ s; rw [if_neg (show ¬ ((Value.ref t == Value.none) = true) from Bool.false_ne_true)]
  show wpAny _ _ (field (.ref it) 1 >>= _) _ _ s; refine wpAny_bind (wpAny_field e1 e3 (x := .int i 0) rfl ?_)
  show wpAny _ _ (seqItems? (.ref t) >>= _) _ _ s; refine wpAny_bind (wpAny_seqItems e4 e5 ?_)
  simp only [Int.toNat_natCast, hx]; refine wpAny_bind (wpAny_rule (wpAny_bind (wpAny_setField e1 e3 (by simp) ?_)))
  show wpAny _ _ (newExc (.type "StopIteration") [] >>= _) _ _ _; refine wpAny_bind ?_; simp only [newExc, newTuple]
  refine wpAny_bind (wpAny_newObj_type ?_ (by size_fits)); refine wpAny_bind (m := firstArgMember _ _) (wpAny_of_eq (a := Value.none) (by first | rfl | (simp only [firstArgMember]; rfl)) ?_); refine wpAny_newObj_type ?_ (by size_fits)
  simp only [raiseNew]; refine wpAny_bind (wpAny_handled ?_); first | rw [show A.in1.handled = none from hh] | rw [hh]
  refine wpAny_bind (wpAny_pure (wpAny_throw ?_)); exact q _ _ (((Heap.SameBut.update ..).extBut.push _).push _) ⟨_, Heap.get?_push_size _ rfl, rfl⟩
end
/-- a list or a tuple, and its iterator -/
def SqK (h : Heap) (l : Addr) (its : Array Value) : Bool → Prop
  | true => h.IsList l its
  | false => h.IsTuple l its
def ItK (h : Heap) (it l : Addr) (i : Nat) : Bool → Prop
  | true => h.IsListIter it l i
  | false => h.IsTupleIter it l i
theorem ItK.at {h h' : Heap} {it l : Addr} {i : Nat} : ∀ {b : Bool}, ItK h it l i b → (∀ o, h.get? it = some o → h'.get? it = some o) → ItK h' it l i b
  | true, q, k => Heap.IsListIter.at q k
  | false, q, k => Heap.IsTupleIter.at q k
theorem SqK.lt {h : Heap} {l : Addr} {its : Array Value} : ∀ {b : Bool}, SqK h l its b → l < h.objs.size
  | true, ⟨_, e, _⟩ => Heap.lt_size e
  | false, ⟨_, e, _⟩ => Heap.lt_size e
theorem ItK.some {h : Heap} {it l : Addr} {i : Nat} : ∀ {b : Bool}, ItK h it l i b → ∃ o, h.get? it = some o ∧ ∀ v, o.data ≠ .cell v
  | true, ⟨o, e, _, d⟩ => ⟨o, e, fun v z => by rw [d] at z; cases z⟩
  | false, ⟨o, e, _, d⟩ => ⟨o, e, fun v z => by rw [d] at z; cases z⟩
theorem drawsK {prog : Program} {w : World} {A : Around} (hh : A.handled = none) (it l : Addr) (hne : l ≠ it) (its : Array Value) : ∀ b : Bool,
    Draws prog w A it [it, l] its.size (fun i v => its[i]? = some v) (fun i h => ItK h it l i b ∧ SqK h l its b)
  | true => Draws.list hh it l hne its
  | false => {
    live := fun _ _ st => let ⟨o, ho, _⟩ := st.1; ⟨o, ho⟩
    frame := fun _ _ _ st hk => ⟨Heap.IsTupleIter.at st.1 fun o e => hk it (by simp) o e, Heap.IsTuple.at st.2 fun o e => hk l (by simp) o e⟩
    item := fun i s Q E hi st q => nextOf_tup st.1 st.2 (x := its[i]) (by simp [hi]) fun h' it' same => q _ h' s.toks (by simp [hi]) ⟨it', Heap.IsTuple.extBut st.2 same.extBut hne⟩ same
    done := fun s Q E st q => nextOf_tupEnd hh st.1 st.2 (by simp) q }
end L2

namespace L2
open PySem PySem.Spec PyProof.Rows
section
variable {prog : Program} {w : World} {A : Around} {E : Value → Shared → Prop} {s : Shared}
variable {z TI TO i1 i2 l1 l2 : Addr} {k : Nat} {xs ys : Array Value} {a b : Value} {c1 c2 : Bool}
end
end L2

namespace L2
open PySem PySem.Spec PyProof.Rows
section
variable {prog : Program} {w : World} {A : Around} {E : Value → Shared → Prop} {s : Shared}
end
/-- records of ours have turned -/
theorem Inv.turnedL {X : Cx} {pins : List (Addr × Obj)} {σ : St} {H : Hp} {s : Shared} {h' : Heap} {t' : Nat} {ch : List Addr} (I : Inv X pins σ H s) (hf : ∀ b ∈ ch, FpOk X pins H b) (k : ∀ b u, b ∉ ch → s.heap.get? b = some u → h'.get? b = some u) :
    Inv X pins σ H { s with heap := h', toks := t' } := by
  refine I.step (g' := s.gens) (d' := s.drawn) (ch := ch) (fun b hb => ?_) (fun b o _ _ hc e _ => k b o hc e) (fun b o _ _ hc e _ => ⟨o.slots, k b o hc e⟩) (fun _ _ _ _ n => n)
    (fun b o hc e => ⟨o, k b o hc e⟩) (fun _ _ e => e) (fun _ _ _ e => e) (fun b ps e => ⟨#[], by rw [e]; simp⟩) (fun m hm => ?_) (fun b u e => ?_) I.bare
  · obtain ⟨f0, f1, f2, f3, f4, f5⟩ := hf b hb
    exact ⟨f3, f1, f4, f5⟩
  · obtain ⟨o, es, ep, ho, r⟩ := hm
    exact ⟨o, es, ep, k _ o (fun z => (hf _ z).2.1 rfl) ho, r⟩
  · refine (I.hok b u e).stay (fun c v hc q => k c v (fun z => ?_) q) (fun _ q => q) fun _ _ q => q
    have hcn := (hf c z).1
    rcases hc with rfl | hc
    · rw [e] at hcn; cases hcn
    · rw [hc] at hcn; cases hcn
/-! the rule -/
def SqC (K : PySem.W.Frag) (H : Hp) (a : Addr) (xs : List V) : Bool → Prop
  | true => SqL K H a xs
  | false => SqT K H a xs
theorem Inv.seqC {X : Cx} {pins : List (Addr × Obj)} {σ : St} {H : Hp} {s : Shared} {a : Addr} {xs : List V} (I : Inv X pins σ H s) : ∀ {c : Bool}, SqC X.K H a xs c → ∃ its : List Value, Vals xs its ∧ SqK s.heap a its.toArray c
  | true, q => let ⟨its, rv, p, _⟩ := I.list q; ⟨its, rv, p.isList⟩
  | false, q => let ⟨its, rv, p, _⟩ := I.tuple q; ⟨its, rv, p⟩
theorem Inv.seqC_inj {X : Cx} {pins : List (Addr × Obj)} {σ : St} {H : Hp} {s : Shared} {a : Addr} {xs ys : List V} (I : Inv X pins σ H s) : ∀ {c : Bool}, SqC X.K H a xs c → SqC X.K H a ys c → xs = ys
  | true, p, q => I.list_inj p q
  | false, p, q => I.tuple_inj p q
end L2

namespace L2
open PySem PySem.Spec PyProof.Rows
/-! ### isinstance(x, (list, tuple)) -/
def isSeqB : PyData → Bool
  | .list _ => true
  | .tuple _ => true
  | _ => false
theorem kitAny_seq {K : PySem.W.Frag} (d : PyData) : PySem.W.kitAny K (.type (tyN d)) [.type "list", .type "tuple"] = some (isSeqB d) := by
  unfold PySem.W.kitAny PySem.W.kitAny PySem.W.kitAny
  rw [kit_list, kit_tuple]
  cases d <;> rfl
def rIsiT (K : PySem.W.Frag) : List V → Hp → VK → Prop := fun xs H Q => ∃ (x : V) (p : Addr) (d : PyData) (E : Addr → Prop), xs = [x, .ref p] ∧ IsD E H x d ∧ SqT K H p [.ty "list", .ty "tuple"] ∧ Q (.bl (isSeqB d)) H
section
variable {X : Cx} {K : PySem.W.Frag}
theorem call_isinstT : CallR X (.builtin "isinstance") (rIsiT X.K) := by
  intro pins s σ H xs us Q I r h
  obtain ⟨x, p, d, E, rfl, hx, hp, q⟩ := h
  obtain ⟨u, c, rfl, ru, rc⟩ := r.two
  obtain rfl : c = Value.ref p := rc
  obtain ⟨its, rv, ⟨o, e1, e2, n, e3⟩, _⟩ := I.tuple hp
  obtain ⟨u1, u2, rfl, r1, r2⟩ := rv.two
  obtain rfl : u1 = Value.type "list" := r1
  obtain rfl : u2 = Value.type "tuple" := r2
  have q' : ∀ tk, EP X pins σ Q (.bool (isSeqB d)) { s with toks := tk } := fun tk => ⟨.bl _, H, I.tok tk, rfl, q⟩
  obtain ⟨oc, od, odt, osl⟩ := o
  dsimp only at e2 e3
  subst e2 e3
  cases hx with
  | non => cases (show u = Value.none from ru); exact PySem.W.kia_tup PySem.W.kitx_none I.kIn True.intro e1 (kitAny_seq .none) (fun z => nomatch z) q'
  | bl y => cases (show u = Value.bool y from ru); exact PySem.W.kia_tup PySem.W.kitx_bool I.kIn True.intro e1 (kitAny_seq (.bool y)) (fun z => nomatch z) q'
  | int i => obtain ⟨t, w⟩ := (show ∃ t, u = Value.int i t from ru); cases w; exact PySem.W.kia_tup PySem.W.kitx_int I.kIn True.intro e1 (kitAny_seq (.int i)) (fun z => nomatch z) q'
  | str y => obtain ⟨t, w⟩ := (show ∃ t, u = Value.str y t from ru); cases w; exact PySem.W.kia_tup PySem.W.kitx_str I.kIn True.intro e1 (kitAny_seq (.str y)) (fun z => nomatch z) q'
  | @lst a xs ds ea _ _ =>
    cases (show u = Value.ref a from ru)
    obtain ⟨_, _, m, _, h1⟩ := (show ObjOk X.prog X.w H s.heap a (.lst xs) from I.hok a _ ea)
    exact PySem.W.kia_tup PySem.W.kitx_list I.kIn ⟨_, h1, rfl⟩ e1 (kitAny_seq (.list ds)) (fun z => nomatch z) q'
  | @tup a xs ds ea _ =>
    cases (show u = Value.ref a from ru)
    obtain ⟨_, _, _, p, _⟩ := (show ObjOk X.prog X.w H s.heap a (.tup xs) from I.hok a _ ea)
    obtain ⟨o, h1, h2, _⟩ := p
    exact PySem.W.kia_tup PySem.W.kitx_tuple I.kIn ⟨o, h1, h2⟩ e1 (kitAny_seq (.tuple ds)) (fun z => nomatch z) q'
theorem isinstT_k (e : X.K = K := by rfl) : CallR X (.builtin "isinstance") (rIsiT K) := by subst e; exact call_isinstT
/-! ### x is True -/
end
/-! ### sizes -/
def Sz (m : Nat) (i : Int) : Prop := i.natAbs < 2 ^ m
theorem Sz.mono {m n : Nat} {i : Int} (h : Sz m i) (k : m ≤ n) : Sz n i := Nat.lt_of_lt_of_le h (Nat.pow_le_pow_right (by decide) k)
theorem Sz.le {m : Nat} {i j : Int} (h : Sz m j) (k : i.natAbs ≤ j.natAbs) : Sz m i := Nat.lt_of_le_of_lt k h
theorem Sz.log {m : Nat} {i : Int} (h : Sz m i) (h0 : i ≠ 0) : i.natAbs.log2 < m := (Nat.log2_lt (by omega)).mpr h
section
variable {X : Cx}
end
/-! ### for over a zip -/
end L2

namespace L2
open PySem PySem.Spec PyProof.Rows
theorem same_lst {H H' : Hp} {D : Addr} {o : HO} (hD : H D = none) (k : Same H H') : Same H (upd H' D o) := fun b u e => by
  rw [upd_ne (ne_of_none e hD)]; exact k b u e
theorem SameE.weak {E : Addr → Prop} {b : Addr} {H H' : Hp} (hE : E b) (s : SameE (Eb b) H H') : SameE E H H' := ⟨fun a o n h => s.old a o (fun z => n (by rw [z]; exact hE)) h, s.tup⟩
theorem SameE.free {b p : Addr} {H H9 : Hp} {t9 : Int} (s : SameE (Eb b) H H9) (B : Bx H9 b t9) (h : H9 p = none) : H p = none := by
  cases e : H p with
  | none => rfl
  | some o =>
    by_cases hb : p = b
    · obtain ⟨c, x, eb, _⟩ := B
      rw [← hb, h] at eb; cases eb
    · rw [s.old p o hb e] at h; cases h
mutual
theorem IsD.narrow {E F : Addr → Prop} {H : Hp} (k : ∀ a, F a → E a) : ∀ {v : V} {d : PyData}, IsD E H v d → IsD F H v d
  | _, _, .non => .non
  | _, _, .bl b => .bl b
  | _, _, .int i => .int i
  | _, _, .str x => .str x
  | _, _, .lst h ne r => .lst h (fun z => ne (k _ z)) (IsAll.narrow k r)
  | _, _, .tup h r => .tup h (IsAll.narrow k r)
theorem IsAll.narrow {E F : Addr → Prop} {H : Hp} (k : ∀ a, F a → E a) : ∀ {vs : List V} {ds : List PyData}, IsAll E H vs ds → IsAll F H vs ds
  | _, _, .nil => .nil
  | _, _, .cons h r => .cons (IsD.narrow k h) (IsAll.narrow k r)
end
theorem all_rep (n : Nat) : (List.replicate n true).all id = true := by
  induction n with
  | zero => rfl
  | succ n ih => rw [List.replicate_succ, List.all_cons, ih]; rfl
end L2

namespace L2
open PySem PySem.Spec PyProof.Rows
/-! ### fractions as they lie, and the promises of what reckons with them -/
abbrev fr (z : Int × Int) : HO := .tup [.int z.1, .int z.2]
/-- a reduced fraction of at most b bits -/
structure Fb (b : Nat) (n d : Int) : Prop where
  sn : Sz b n
  sd : Sz b d
  pos : 1 ≤ d
  co : Int.gcd n d = 1
theorem Fb.low {b : Nat} {n d : Int} (h1 : Sz b n) (h2 : Sz b d) (hd : d ≠ 0) : Fb b (KM.low n d).1 (KM.low n d).2 := by
  obtain ⟨a, _, c, e, f⟩ := KM.low_spec n d hd
  exact ⟨h1.le e, h2.le f, a, c⟩
end L2

namespace L2
open PySem PySem.Spec PyProof.Rows
/-! ### the same rules, the heap behind a new object a letter -/
/-- something new lies at p, nothing else has changed -/
structure Nw (H : Hp) (p : Addr) (o : HO) (H' : Hp) : Prop where
  fr : H p = none
  sm : Same H H'
  at' : H' p = some o
theorem Nw.mk' {H : Hp} {p : Addr} {o : HO} (h : H p = none) : Nw H p o (upd H p o) := ⟨h, Same.new h, upd_same⟩
section
variable {X : Cx} {es : List Expr} {t : TA} {pos : Pos} {K : PySem.W.Frag}
def tTupA (t : TA) : TE := fun σ H Q => t σ H fun xs H1 => xs.length ≤ 10000 ∧ ∀ p H', Nw H1 p (.tup xs) H' → Q (.ref p) H'
def tLstA (t : TA) : TE := fun σ H Q => t σ H fun xs H1 => xs.length ≤ 10000 ∧ ∀ p H', Nw H1 p (.lst xs) H' → Q (.ref p) H'
theorem sz_of {n : Nat} (h : n ≤ 10000) : n ≤ sizeLine := by rw [sizeLine_eq]; omega
theorem pe_tupA {x1} (h : PA X es t) : PE X (.Tuple es x1 pos) (tTupA t) := by
  intro pins s σ H Q I hq
  refine wpAny_Tuple_spliced (thn (h pos pins s σ H _ I hq) fun us s1 ⟨xs, H1, I1, r, z', q⟩ => ⟨by rw [← r.length]; exact sz_of z', ?_⟩)
  have z := sz_of z'
  have hf : H1 s1.heap.objs.size = none := I1.hok.fresh (Nat.le_refl _)
  refine ⟨.ref s1.heap.objs.size, upd H1 s1.heap.objs.size (.tup xs), I1.laid (t' := s1.toks) (fun b u e => Heap.get?_push_of_some _ e) (Nat.le_refl _) ?_, rfl, q _ _ (.mk' hf)⟩
  exact ⟨z, us, r, ⟨_, Heap.get?_push_size _ rfl, rfl, _, rfl⟩, _, Heap.get?_push_size _ rfl, rfl⟩
theorem pe_lstA (h : PA X es t) : PE X (.List es pos) (tLstA t) := by
  intro pins s σ H Q I hq
  refine wpAny_List_spliced (thn (h pos pins s σ H _ I hq) fun us s1 ⟨xs, H1, I1, r, z', q⟩ => ⟨by rw [← r.length]; exact sz_of z', ?_⟩)
  have z := sz_of z'
  have hf : H1 s1.heap.objs.size = none := I1.hok.fresh (Nat.le_refl _)
  refine ⟨.ref s1.heap.objs.size, upd H1 s1.heap.objs.size (.lst xs), I1.laid (t' := s1.toks) (fun b u e => Heap.get?_push_of_some _ e) (Nat.le_refl _) ?_, rfl, q _ _ (.mk' hf)⟩
  exact ⟨z, us, 0, r, Heap.get?_push_size _ rfl⟩
def rCatA : R2 := fun x y H Q => ∃ l b xs zs, x = .ref l ∧ y = .ref b ∧ H l = some (.lst xs) ∧ H b = some (.lst zs) ∧ xs.length + zs.length ≤ 10000 ∧ ∀ p H', Nw H p (.lst (xs ++ zs)) H' → Q (.ref p) H'
theorem op_catA : OpR X (binaryOp .Add) rCatA := fun pins s σ H x y v u Q I rx ry ⟨l, b, xs, zs, e1, e2, h1, h2, hz, q⟩ =>
  op_cat pins s σ H x y v u Q I rx ry ⟨l, b, xs, zs, e1, e2, h1, h2, sz_of hz, fun p hp => q p _ (.mk' hp)⟩
def rSlA (K : PySem.W.Frag) : V → Option Int → Option Int → Hp → VK → Prop := fun x lo hi H Q => ∃ a xs, x = .ref a ∧ SqL K H a xs ∧ ∀ p H', Nw H p (.lst (cutV xs lo hi)) H' → Q (.ref p) H'
theorem sl_listA (e : X.K = K := by rfl) : SlR X (rSlA K) := by
  subst e
  exact fun pins s σ H x v vl vu lo hi sl Q I rx hs pl pu ⟨a, xs, e, h, q⟩ => sl_list pins s σ H x v vl vu lo hi sl Q I rx hs pl pu ⟨a, xs, e, h, fun p hp => q p _ (.mk' hp)⟩
def rRepA : R2 := fun x y H Q => ∃ l k xs, x = .ref l ∧ y = .int k ∧ H l = some (.lst xs) ∧ -(2 ^ 63) ≤ k ∧ k < 2 ^ 63 ∧ xs.length * k.toNat ≤ 10000 ∧ ∀ p H', Nw H p (.lst (List.replicate k.toNat xs).flatten) H' → Q (.ref p) H'
theorem op_repA : OpR X (binaryOp .Mult) rRepA := fun pins s σ H x y v u Q I rx ry ⟨l, k, xs, e1, e2, h1, h2, h3, hz, q⟩ =>
  op_rep pins s σ H x y v u Q I rx ry ⟨l, k, xs, e1, e2, h1, h2, h3, sz_of hz, fun p hp => q p _ (.mk' hp)⟩
def rListA (K : PySem.W.Frag) : List V → Hp → VK → Prop := fun xs H Q => ∃ p ys, xs = [.ref p] ∧ (SqL K H p ys ∨ SqT K H p ys) ∧ ∀ l H', Nw H l (.lst ys) H' → Q (.ref l) H'
theorem call_list_ofA (e : X.K = K := by rfl) : CallR X (.type "list") (rListA K) := by
  subst e
  exact fun pins s σ H xs us Q I r ⟨p, ys, e, h, q⟩ => call_list_of pins s σ H xs us Q I r ⟨p, ys, e, h, fun l hl => q l _ (.mk' hl)⟩
def rTupleA (K : PySem.W.Frag) : List V → Hp → VK → Prop := fun xs H Q => ∃ p ys, xs = [.ref p] ∧ SqL K H p ys ∧ ∀ l H', Nw H l (.tup ys) H' → Q (.ref l) H'
theorem call_tuple_ofA (e : X.K = K := by rfl) : CallR X (.type "tuple") (rTupleA K) := by
  subst e
  exact fun pins s σ H xs us Q I r ⟨p, ys, e, h, q⟩ => call_tuple_of pins s σ H xs us Q I r ⟨p, ys, e, .inl ⟨h, fun l hl => q l _ (.mk' hl)⟩⟩
end
/-- a list's record is another one, nothing else has changed -/
structure Ch (H : Hp) (p : Addr) (xs : List V) (H' : Hp) : Prop where
  at' : H' p = some (.lst xs)
  ol : ∀ a o, a ≠ p → H a = some o → H' a = some o
  fre : ∀ a, a ≠ p → H a = none → H' a = none
theorem Ch.mk' {H : Hp} {p : Addr} {xs : List V} : Ch H p xs (upd H p (.lst xs)) := ⟨upd_same, fun a o n h => by rw [upd_ne n]; exact h, fun a n h => by rw [upd_ne n]; exact h⟩
theorem Ch.tup {H H' : Hp} {p a : Addr} {xs ys zs : List V} (c : Ch H p xs H') (h : H a = some (.tup ys)) (hp : H p = some (.lst zs)) : H' a = some (.tup ys) := c.ol a _ (ne_of h hp (by intro z; cases z)) h
section
variable {X : Cx}
def rSetA : V → V → V → Hp → (Hp → Prop) → Prop := fun o i v H Q => ∃ p xs k j, o = .ref p ∧ i = .int k ∧ H p = some (.lst xs) ∧ ixN xs.length k = some j ∧ ∀ H', Ch H p (xs.set j v) H' → Q H'
theorem set_listA : PSet X rSetA := fun pins s σ H o i v ov iv u Q I ro ri rv ⟨p, xs, k, j, e1, e2, h, hj, q⟩ => set_list pins s σ H o i v ov iv u Q I ro ri rv ⟨p, xs, k, j, e1, e2, h, hj, q _ .mk'⟩
def rAppA : V → List V → Hp → VK → Prop := fun x vs H Q => ∃ l xs y, x = .ref l ∧ vs = [y] ∧ H l = some (.lst xs) ∧ xs.length ≤ 10000 ∧ ∀ H', Ch H l (xs ++ [y]) H' → Q .non H'
theorem mt_appendA : MtM X "list.append" rAppA := fun pins s σ H x vs v us Q I rx rv ⟨l, xs, y, e1, e2, h, hz, q⟩ => mt_append pins s σ H x vs v us Q I rx rv ⟨l, xs, y, e1, e2, h, (by rw [sizeLine_eq]; omega), q _ .mk'⟩
end
/-! ### promises with the heap a letter -/
def spLowA : Sp := fun vs H Q _ => ∃ n d : Int, vs = [.int n, .int d] ∧ d ≠ 0 ∧ Sz 9000 d ∧ ∀ p H', Nw H p (fr (KM.low n d)) H' → Q (.ref p) H'
end L2

namespace L2
open PySem PySem.Spec PyProof.Rows
/-- both ways of an if come to one rest -/
theorem ifJ {b : Bool} {t : TS} {D : Ends} {σ : St} {H : Hp} (I : St → Hp → Prop) (rest : ∀ σ' H', I σ' H' → D.nx σ' H') (h1 : b = true → (∀ σ' H', I σ' H' → D.nx σ' H') → t D σ H) (h2 : b = false → I σ H) :
    if b = true then t D σ H else tNext D σ H := by
  cases b with
  | true => exact iteT (h1 rfl rest)
  | false => exact iteF (rest _ _ (h2 rfl))
theorem Fb.small {b : Nat} {n d : Int} (h1 : n.natAbs < 2 ^ b) (h2 : d.natAbs < 2 ^ b) (h3 : 1 ≤ d) (h4 : Int.gcd n d = 1) : Fb b n d := ⟨h1, h2, h3, h4⟩
theorem Bx.ch {H H' : Hp} {b p : Addr} {t : Int} {xs : List V} (h : Bx H b t) (k : Ch H p xs H') (ne : b ≠ p) : Bx H' b t := by
  obtain ⟨c, x, e, q⟩ := h
  exact ⟨c, x, k.ol b _ ne e, q⟩
theorem Bx.ne {H : Hp} {b p : Addr} {t : Int} (h : Bx H b t) (hp : H p = none) : b ≠ p := fun z => by
  obtain ⟨c, x, e, _⟩ := h
  rw [z, hp] at e; cases e
end L2

namespace L2
open PySem PySem.Spec PyProof.Rows
section
variable {X : Cx} {e : Expr} {te : TE} {st : Expr} {ts : TO} {p2 pos : Pos} {K : PySem.W.Frag}
/-! ### xs[::-1] -/
theorem Vals.rev : ∀ {xs : List V} {us : List Value}, Vals xs us → Vals xs.reverse us.reverse
  | [], [], .nil => .nil
  | _ :: _, _ :: _, .cons h r => by rw [List.reverse_cons, List.reverse_cons]; exact (Vals.rev r).append (.cons h .nil)
def tRevA (K : PySem.W.Frag) (te : TE) (ts : TO) : TE := fun σ H Q => te σ H fun x H1 => ts σ H1 fun k H2 => k = some (-1) ∧ ∃ a xs, x = .ref a ∧ SqL K H2 a xs ∧ ∀ p H', Nw H2 p (.lst xs.reverse) H' → Q (.ref p) H'
theorem pe_revA (he : PE X e te) (hst : PO X (some st) ts) (ek : X.K = K := by rfl) : PE X (.Subscript e (.Slice none none (some st) p2) pos) (tRevA K te ts) := by
  subst ek
  intro pins s σ H Q I h
  refine Subscript_ (thn (he pins s σ H _ I h) fun v s1 ⟨x, H1, I1, r1, q1⟩ => ?_)
  refine wpAny_Slice ?_
  rw [evalPart_none]
  refine wpAny_pure (wpAny_pure (thn (hst pins s1 σ H1 _ I1 q1) fun vs s3 ⟨k, H3, I3, pk, q3⟩ => ?_))
  obtain ⟨rfl, a, xs, rfl, hx, q⟩ := q3
  cases r1
  have I4 : Inv X pins σ H3 { s3 with heap := s3.heap.push { cls := .type "slice", data := .fields #[.none, .none, vs] } } := I3.kept (t' := s3.toks) fun b ob q => Heap.get?_push_of_some _ q
  obtain ⟨its, r, ht, hz⟩ := I4.list hx
  have hlen := r.length
  show wpAny (model X.prog X.w) X.A (subscriptTail e (.Slice none none (some st) p2) (.ref a) (.ref s3.heap.objs.size)) (EP X pins σ Q) X.xe { s3 with heap := s3.heap.push { cls := .type "slice", data := .fields #[.none, .none, vs] } }
  refine tail_any (ops := [.ref a, .ref s3.heap.objs.size]) ht.isList.typeIs slot_list_getitem.lookup ?_ (by with_unfolding_all rfl)
  refine wpAny_getItem_list_slice ht.isList (Heap.IsSliceOf.new ..) .none .none pk (by decide) ?_ (by rw [List.size_toArray] <;> omega)
  rw [PySem.W.krv_pick]
  refine ⟨.ref (s3.heap.push { cls := .type "slice", data := .fields #[.none, .none, vs] }).objs.size, _, I4.laid (t' := s3.toks) (o := .lst xs.reverse) (fun b ob q => Heap.get?_push_of_some _ q) (Nat.le_refl _) ?_, rfl, q _ _ (.mk' (I4.hok.fresh (Nat.le_refl _)))⟩
  exact ⟨by rw [List.length_reverse]; exact hz, _, 0, r.rev, Heap.get?_push_size _ rfl⟩
/-! ### xs.insert(k, y) -/
/-! ### == of two lists of the very same things -/
end
end L2

namespace L2
open PySem PySem.Spec PyProof.Rows
end L2

namespace L2
open PySem PySem.Spec PyProof.Rows
/-! ### texts by their codes -/
def S (l : List Nat) : Str := ⟨l.toArray⟩
theorem S_inj {a b : List Nat} (h : S a = S b) : a = b := by
  have : a.toArray = b.toArray := by injection h
  simpa using this
theorem S_app (a b : List Nat) : S a ++ S b = S (a ++ b) := by
  show (⟨a.toArray ++ b.toArray⟩ : Str) = ⟨(a ++ b).toArray⟩
  simp
theorem S_len (a : List Nat) : (S a).length = a.length := by
  show a.toArray.size = _
  simp
theorem S_list (a : List Nat) : (S a).cps.toList = a := rfl
theorem foldl_app (k : Nat) (l : List Nat) : ∀ acc : List Nat, (List.replicate k l.toArray).foldl (· ++ ·) acc.toArray = (acc ++ (List.replicate k l).flatten).toArray := by
  induction k with
  | zero => intro acc; simp
  | succ k ih =>
    intro acc
    rw [List.replicate_succ, List.foldl_cons, List.replicate_succ, List.flatten_cons]
    have : acc.toArray ++ l.toArray = (acc ++ l).toArray := by simp
    rw [this, ih, List.append_assoc]
theorem join_flat : ∀ ls : List (List Nat), Str.join (S []) (ls.map S) = S ls.flatten
  | [] => rfl
  | [a] => by
    show S a = S (a ++ [])
    rw [List.append_nil]
  | a :: b :: r => by
    have e : Str.join (S []) ((a :: b :: r).map S) = S a ++ S [] ++ Str.join (S []) ((b :: r).map S) := rfl
    rw [e, join_flat (b :: r), S_app, S_app, List.append_nil]
    rfl
section
variable {X : Cx} {K : PySem.W.Frag}
def rMulS : R2 := fun x y H Q => ∃ l n, x = .str (S l) ∧ y = .int n ∧ 1 ≤ n ∧ n ≤ 1000 ∧ l.length ≤ 100 ∧ Q (.str (S (List.replicate n.toNat l).flatten)) H
theorem op_mulS : OpR X (binaryOp .Mult) rMulS := by
  intro pins s σ H x y v u Q I rx ry h
  obtain ⟨l, n, rfl, rfl, h1, h2, h3, q⟩ := h
  obtain ⟨t, rfl⟩ := rx
  obtain ⟨t', rfl⟩ := ry
  have hlen : (S l).length = l.length := S_len l
  have hmul : l.length * n.toNat ≤ 100 * 1000 := Nat.mul_le_mul h3 (by omega)
  refine PySem.P.mul_str ?_ ?_ ?_ ?_
  · rw [decide_eq_false (by omega), decide_eq_false (by omega)]; rfl
  · intro _ _
    rw [hlen]
    have : (100 : Int) < (2 ^ 63 - 1) / n := by
      have : (100 + 1) * n ≤ 2 ^ 63 - 1 := by omega
      have := (Int.le_ediv_iff_mul_le (by omega : 0 < n)).mpr this
      omega
    omega
  · intro _ _
    rw [hlen]
    unfold Builtin.Str.tooLong
    rw [decide_eq_false]
    rw [sizeLine_eq]
    omega
  · rw [if_neg (by omega)]
    by_cases hn : (n == 1 || (S l).length == 0) = true
    · rw [if_pos hn]
      refine ⟨.str (S l), H, I, ⟨t, rfl⟩, ?_⟩
      have e : (List.replicate n.toNat l).flatten = l := by
        rw [hlen] at hn
        have hn' : n = 1 ∨ l.length = 0 := by simpa using hn
        rcases hn' with rfl | hn'
        · simp
        · have : l = [] := List.eq_nil_of_length_eq_zero hn'
          subst this
          simp
      rw [e] at q
      exact q
    · rw [if_neg hn]
      have e : (⟨(List.replicate n.toNat (S l).cps).foldl (· ++ ·) #[]⟩ : Str) = S (List.replicate n.toNat l).flatten := by
        have e := foldl_app n.toNat l []
        rw [List.nil_append] at e
        exact congrArg Str.mk e
      rw [e]
      refine ⟨?_, .str (S (List.replicate n.toNat l).flatten), H, I.tok _, ⟨_, rfl⟩, q⟩
      rw [S_len, len_rep, sizeLine_eq, Nat.mul_comm]
      omega
def rJoin (K : PySem.W.Frag) : V → List V → Hp → VK → Prop := fun x vs H Q => ∃ a ls, x = .str (S []) ∧ vs = [.ref a] ∧ SqL K H a ((ls : List (List Nat)).map fun l => V.str (S l)) ∧ (ls.map (·.length)).sum ≤ 10000 ∧ Q (.str (S ls.flatten)) H
theorem vals_strs : ∀ {ls : List (List Nat)} {us : List Value}, Vals (ls.map fun l => V.str (S l)) us → StrsAre us (ls.map S)
  | [], [], .nil => .nil
  | l :: r, u :: us, .cons h t => by
    obtain ⟨tk, rfl⟩ := h
    exact .cons _ _ (vals_strs t)
theorem mt_join (ek : X.K = K := by rfl) : MtR X "str.join" (rJoin K) := by
  subst ek
  intro pins s σ H x vs v us Q I rx rv h
  obtain ⟨a, ls, rfl, rfl, hS, hz, q⟩ := h
  obtain ⟨t, rfl⟩ := rx
  obtain ⟨u, rfl, ru⟩ := rv.one
  obtain rfl : u = Value.ref a := ru
  obtain ⟨its, r, ht, _⟩ := I.list hS
  have e1 : ((ls.map S).map (·.length)).sum = (ls.map (·.length)).sum := by
    rw [List.map_map]
    congr 1
  refine join_list (ys := ls.map S) ht.isList (by simpa using vals_strs r) ?_ fun t' k => ?_
  · rw [e1, show (S []).length = 0 from rfl]
    omega
  · have := join_plain_closes (S []) (ls.map S)
    rw [eq_of_beq this, join_flat]
    exact ⟨.str (S ls.flatten), H, I.tok k, ⟨_, rfl⟩, q⟩
def rAddS : R2 := fun x y H Q => ∃ a b, x = .str (S a) ∧ y = .str (S b) ∧ a.length + b.length ≤ 10000 ∧ Q (.str (S (a ++ b))) H
theorem op_addS : OpR X (binaryOp .Add) rAddS := fun pins s σ H x y v u Q I rx ry ⟨a, b, e1, e2, hz, q⟩ =>
  op_add_str pins s σ H x y v u Q I rx ry ⟨S a, S b, e1, e2, by rw [S_len, S_len]; exact sz_of hz, by rw [S_app]; exact q⟩
end
/-! ### the letters -/
theorem letters_eq : Str.ofString "abcdefghijklmnopqrstuvwxyz" = S ((List.range 26).map (97 + ·)) := by decide +kernel
theorem empty_eq : Str.ofString "" = S [] := by decide +kernel
theorem letter_at {i : Int} (h0 : -26 ≤ i) (h1 : i < 26) : atI ((Str.ofString "abcdefghijklmnopqrstuvwxyz").cps.toList) i = some (97 + (i % 26).toNat) := by
  rw [letters_eq, S_list]
  have : ∀ k : Fin 52, atI ((List.range 26).map (97 + ·)) ((k.val : Int) - 26) = some (97 + (((k.val : Int) - 26) % 26).toNat) := by decide +kernel
  have e := this ⟨(i + 26).toNat, by omega⟩
  simp only at e
  rw [show (((i + 26).toNat : Nat) : Int) - 26 = i by omega] at e
  exact e
/-! ### 11 k mod 26 are unlike -/
theorem step11 {f : Int} {j k : Nat} (hj : j < 26) (hk : k < 26) (h : (f + 11 * (j : Int)) % 26 = (f + 11 * (k : Int)) % 26) : j = k := by omega
end L2

namespace L2
open PySem PySem.Spec PyProof.Rows
/-! ### names -/
structure NameC (l : List Nat) : Prop where
  lo : 1 ≤ l.length
  hi : l.length ≤ 8
  az : ∀ c ∈ l, 97 ≤ c ∧ c ≤ 122
abbrev strV (l : List Nat) : V := .str (S l)
def nm (c k : Nat) : List Nat := List.replicate (1 + k) c
theorem rep1 (n c : Nat) : (List.replicate n [c]).flatten = List.replicate n c := by
  induction n with
  | zero => rfl
  | succ n ih => rw [List.replicate_succ, List.flatten_cons, ih, List.replicate_succ]; rfl
theorem nm_ok {c k : Nat} (hk : k < 8) (h1 : 97 ≤ c) (h2 : c ≤ 122) : NameC (nm c k) := ⟨by simp [nm], by simp [nm]; omega, fun d hd => by
  have := List.eq_of_mem_replicate hd
  omega⟩
theorem nm_inj {c d j k : Nat} (h : nm c j = nm d k) : c = d ∧ j = k := by
  have h1 := congrArg List.length h
  simp [nm] at h1
  subst h1
  have h2 := congrArg List.head? h
  simp [nm, List.replicate_succ, Nat.add_comm 1] at h2
  exact ⟨h2, rfl⟩
theorem rows_nodup {c d : Nat} (h : c ≠ d) : ((List.range 8).map (nm c) ++ (List.range 8).map (nm d)).Nodup := by
  rw [List.nodup_append]
  refine ⟨?_, ?_, ?_⟩
  · exact List.Pairwise.map _ (fun a b hab e => hab (nm_inj e).2) List.nodup_range
  · exact List.Pairwise.map _ (fun a b hab e => hab (nm_inj e).2) List.nodup_range
  · intro a ha b hb e
    obtain ⟨j, _, rfl⟩ := List.mem_map.mp ha
    obtain ⟨k, _, rfl⟩ := List.mem_map.mp hb
    exact h (nm_inj e).1
theorem cutV_take {xs : List V} {m : Int} (h : 0 ≤ m) : cutV xs none (some m) = xs.take m.toNat := by
  unfold cutV
  have e : m = ((m.toNat : Nat) : Int) := by omega
  rw [HT.sIx_none, e, HT.sIx_nat]
  simp only [Int.toNat_natCast, List.drop_zero, Nat.sub_zero]
  by_cases hm : m.toNat ≤ xs.length
  · rw [Nat.min_eq_left hm]
  · rw [Nat.min_eq_right (by omega), List.take_of_length_le (Nat.le_refl _), List.take_of_length_le (by omega)]
theorem heads_nodup {ls : List (List Nat)} {f : Int} (hl : ls.length ≤ 26) (h : ∀ (j : Nat) (l : List Nat), ls[j]? = some l → l.head? = some (97 + ((f + 11 * (j : Int)) % 26).toNat)) : ls.Nodup := by
  rw [List.nodup_iff_pairwise_ne, List.pairwise_iff_getElem]
  intro i j hi hj hij e
  have h1 := h i ls[i] (List.getElem?_eq_getElem hi)
  have h2 := h j ls[j] (List.getElem?_eq_getElem hj)
  rw [e, h2] at h1
  injection h1 with h1
  have a1 := Int.emod_nonneg (f + 11 * (i : Int)) (by decide : (26 : Int) ≠ 0)
  have a2 := Int.emod_nonneg (f + 11 * (j : Int)) (by decide : (26 : Int) ≠ 0)
  have := step11 (f := f) (j := i) (k := j) (by omega) (by omega) (by omega)
  omega
def spNames : Sp := fun vs H Q _ => ∃ (b : Addr) (many t : Int), vs = [.ref b, .int many] ∧ Bx H b t ∧ 0 ≤ t ∧ t ≤ 900000 ∧ 1 ≤ many ∧ many ≤ 11 ∧
  ∀ D (ls : List (List Nat)) t' H', H D = none → SameE (Eb b) H H' → H' D = some (.lst (ls.map strV)) → ls.length = many.toNat → ls.Nodup → (∀ l ∈ ls, NameC l) → Bx H' b t' → t ≤ t' → t' ≤ t + 130 → Q (.ref D) H'
theorem SameE.ch {b D : Addr} {H H1 H2 : Hp} {xs : List V} (s : SameE (Eb b) H H1) (c : Ch H1 D xs H2) (hD : H D = none) : SameE (Eb b) H H2 :=
  ⟨fun a u ne h => c.ol a u (ne_of_none h hD) (s.old a u ne h), fun a us h => c.ol a _ (ne_of_none h hD) (s.tup a us h)⟩
theorem SameE.up {b D : Addr} {H H1 : Hp} {o : HO} (s : SameE (Eb b) H H1) (hD : H D = none) : SameE (Eb b) H (upd H1 D o) :=
  ⟨fun a u ne h => by rw [upd_ne (ne_of_none h hD)]; exact s.old a u ne h, fun a us h => by rw [upd_ne (ne_of_none h hD)]; exact s.tup a us h⟩
end L2

namespace L2
open PySem PySem.Spec PyProof.Rows
/-! ### data of weight n, at most k deep -/
def strT (x : Str) : Prop := x.length ≤ 300 ∧ ∀ c ∈ x.cps.toList, c < 128
mutual
inductive Wt : PyData → Nat → Nat → Prop
  | non {k : Nat} : Wt .none 1 k
  | bl (b : Bool) {k : Nat} : Wt (.bool b) 1 k
  | int {i : Int} (h : Sz 1900 i) {k : Nat} : Wt (.int i) 1 k
  | str {x : Str} (h : strT x) {k : Nat} : Wt (.str x) 1 k
  | list {xs : List PyData} {n k : Nat} (h : WtL xs n k) : Wt (.list xs) (n + 1) (k + 1)
  | tuple {xs : List PyData} {n k : Nat} (h : WtL xs n k) : Wt (.tuple xs) (n + 1) (k + 1)
inductive WtL : List PyData → Nat → Nat → Prop
  | nil {k : Nat} : WtL [] 0 k
  | cons {x : PyData} {xs : List PyData} {m n k : Nat} (h : Wt x m k) (r : WtL xs n k) : WtL (x :: xs) (m + n) k
end
mutual
theorem Wt.deep : ∀ {d : PyData} {n k : Nat}, Wt d n k → ∀ {l : Nat}, k ≤ l → Wt d n l
  | _, _, _, .non, _, _ => .non
  | _, _, _, .bl b, _, _ => .bl b
  | _, _, _, .int h, _, _ => .int h
  | _, _, _, .str h, _, _ => .str h
  | _, _, _, .list h, l, hl => by
    obtain ⟨m, rfl⟩ : ∃ m, l = m + 1 := ⟨l - 1, by omega⟩
    exact .list (WtL.deep h (by omega))
  | _, _, _, .tuple h, l, hl => by
    obtain ⟨m, rfl⟩ : ∃ m, l = m + 1 := ⟨l - 1, by omega⟩
    exact .tuple (WtL.deep h (by omega))
theorem WtL.deep : ∀ {ds : List PyData} {n k : Nat}, WtL ds n k → ∀ {l : Nat}, k ≤ l → WtL ds n l
  | _, _, _, .nil, _, _ => .nil
  | _, _, _, .cons h r, _, hl => .cons (Wt.deep h hl) (WtL.deep r hl)
end
theorem Wt.pos {d : PyData} {n k : Nat} (h : Wt d n k) : 1 ≤ n := by cases h <;> omega
mutual
theorem Wt.dep : ∀ {d : PyData} {n k : Nat}, Wt d n k → d.depth ≤ k
  | _, _, _, .non => by simp [PyData.depth]
  | _, _, _, .bl b => by simp [PyData.depth]
  | _, _, _, .int h => by simp [PyData.depth]
  | _, _, _, .str h => by simp [PyData.depth]
  | _, _, _, .list h => by simp only [PyData.depth]; exact Nat.succ_le_succ (WtL.dep h)
  | _, _, _, .tuple h => by simp only [PyData.depth]; exact Nat.succ_le_succ (WtL.dep h)
theorem WtL.dep : ∀ {ds : List PyData} {n k : Nat}, WtL ds n k → PyData.depthAll ds ≤ k
  | _, _, _, .nil => by simp [PyData.depthAll]
  | _, _, _, .cons h r => by simp only [PyData.depthAll]; exact Nat.max_le.mpr ⟨Wt.dep h, WtL.dep r⟩
end
mutual
theorem Wt.sho : ∀ {d : PyData} {n k : Nat}, Wt d n k → d.showable = true
  | _, _, _, .non => by simp [PyData.showable]
  | _, _, _, .bl b => by simp [PyData.showable]
  | _, _, _, .int (i := i) h => by
    simp only [PyData.showable, decide_eq_true_iff]
    by_cases h0 : i = 0
    · subst h0; decide
    · exact Nat.lt_trans (h.log h0) (by decide)
  | _, _, _, .str h => by simp [PyData.showable]
  | _, _, _, .list h => by simp only [PyData.showable]; exact WtL.sho h
  | _, _, _, .tuple h => by simp only [PyData.showable]; exact WtL.sho h
theorem WtL.sho : ∀ {ds : List PyData} {n k : Nat}, WtL ds n k → PyData.showableAll ds = true
  | _, _, _, .nil => by simp [PyData.showableAll]
  | _, _, _, .cons h r => by simp only [PyData.showableAll, Bool.and_eq_true]; exact ⟨Wt.sho h, WtL.sho r⟩
end
mutual
theorem Wt.nod : ∀ {d : PyData} {n k : Nat}, Wt d n k → d.hasDict = false
  | _, _, _, .non => by simp [PyData.hasDict]
  | _, _, _, .bl b => by simp [PyData.hasDict]
  | _, _, _, .int h => by simp [PyData.hasDict]
  | _, _, _, .str h => by simp [PyData.hasDict]
  | _, _, _, .list h => by simp only [PyData.hasDict]; exact WtL.nod h
  | _, _, _, .tuple h => by simp only [PyData.hasDict]; exact WtL.nod h
theorem WtL.nod : ∀ {ds : List PyData} {n k : Nat}, WtL ds n k → PyData.hasDictAll ds = false
  | _, _, _, .nil => by simp [PyData.hasDictAll]
  | _, _, _, .cons h r => by simp only [PyData.hasDictAll, Bool.or_eq_false_iff]; exact ⟨Wt.nod h, WtL.nod r⟩
end
mutual
theorem Wt.len : ∀ {d : PyData} {n k : Nat}, Wt d n k → d.shown.length + 2 ≤ 3010 * n
  | _, _, _, .non => by
    rw [PyData.shown]
    decide +kernel
  | _, _, _, .bl b => by
    rw [PyData.shown]
    cases b <;> decide +kernel
  | _, _, _, .int (i := i) h => by
    rw [PyData.shown]
    have hl : i.natAbs.log2 < 1920 := by
      by_cases h0 : i = 0
      · subst h0; decide
      · exact Nat.lt_trans (h.log h0) (by decide)
    have := int_text_len_1921 hl
    omega
  | _, _, _, .str (x := x) h => by
    rw [PyData.shown]
    have := PySem.StrLaws.reprText_len x (fun c hc => Nat.lt_trans (h.2 c hc) (by decide))
    have := h.1
    omega
  | _, _, _, .list (xs := xs) (n := n) h => by
    rw [PyData.shown]
    have h1 := listText_len_le (PyData.shownAll xs)
    have h2 := WtL.len h
    omega
  | _, _, _, .tuple (xs := xs) (n := n) h => by
    rw [PyData.shown]
    have h1 := tupleText_len_le (PyData.shownAll xs)
    have h2 := WtL.len h
    omega
theorem WtL.len : ∀ {ds : List PyData} {n k : Nat}, WtL ds n k → ((PyData.shownAll ds).map (·.length)).sum + 2 * (PyData.shownAll ds).length ≤ 3010 * n
  | _, _, _, .nil => by simp [PyData.shownAll]
  | _, _, _, .cons (x := x) (xs := xs) (m := m) (n := n) h r => by
    rw [PyData.shownAll, List.map_cons, List.sum_cons, List.length_cons]
    have h1 := Wt.len h
    have h2 := WtL.len r
    have h3 := h.pos
    omega
end
end L2

namespace L2
open PySem PySem.Spec PyProof.Rows
mutual
theorem Wt.can : ∀ {d : PyData} {n k : Nat}, Wt d n k → d.canLay0 = true
  | _, _, _, .non => by simp [PyData.canLay0]
  | _, _, _, .bl b => by simp [PyData.canLay0]
  | _, _, _, .int h => by simp [PyData.canLay0]
  | _, _, _, .str (x := x) h => by
    simp only [PyData.canLay0]
    unfold PySem.PyData.strOk
    rw [Array.all_eq_true]
    intro i hi
    have := h.2 x.cps[i] (by simp)
    simp
    omega
  | _, _, _, .list h => by simp only [PyData.canLay0]; exact WtL.can h
  | _, _, _, .tuple h => by simp only [PyData.canLay0]; exact WtL.can h
theorem WtL.can : ∀ {ds : List PyData} {n k : Nat}, WtL ds n k → PyData.canLayAll0 ds = true
  | _, _, _, .nil => by simp [PyData.canLayAll0]
  | _, _, _, .cons h r => by simp only [PyData.canLayAll0, Bool.and_eq_true]; exact ⟨Wt.can h, WtL.can r⟩
end
section
variable {X : Cx}
def rEqD (ne : Bool) : R2 := fun x y H Q => ∃ (d e : PyData) (E F : Addr → Prop) (m n k l : Nat), IsD E H x d ∧ IsD F H y e ∧ Wt d m k ∧ Wt e n l ∧ k ≤ 60 ∧ Q (.bl (if ne then !PyData.eqv d e else PyData.eqv d e)) H
theorem op_eqD (hu : X.A.units + 64 < cLine) : OpR X (compareOp .Eq) (rEqD false) := by
  intro pins s σ H x y v u Q I rx ry h
  obtain ⟨d, e, E, F, m, n, k, l, hd, he, wd, we, hk, q⟩ := h
  obtain ⟨as, ra⟩ := hd.reads I.hok rx
  obtain ⟨bs, rb⟩ := he.reads I.hok ry
  exact PySem.SeqAt.compareEq_reads ra rb wd.can we.can (by have := wd.dep; omega) ⟨.bl _, H, I, rfl, q⟩
theorem op_neD (hu : X.A.units + 64 < cLine) : OpR X (compareOp .NotEq) (rEqD true) := by
  intro pins s σ H x y v u Q I rx ry h
  obtain ⟨d, e, E, F, m, n, k, l, hd, he, wd, we, hk, q⟩ := h
  obtain ⟨as, ra⟩ := hd.reads I.hok rx
  obtain ⟨bs, rb⟩ := he.reads I.hok ry
  exact PySem.SeqAt.compareNe_reads ra rb wd.can we.can (by have := wd.dep; omega) ⟨.bl _, H, I, rfl, q⟩
/-- str of data by its weight -/
def rStrW : List V → Hp → VK → Prop := fun xs H Q => ∃ (a : Addr) (d : PyData) (E : Addr → Prop) (n k : Nat), xs = [.ref a] ∧ IsD E H (.ref a) d ∧ Wt d n k ∧ n ≤ 5500 ∧ k ≤ 50 ∧ Q (.str d.shown) H
theorem call_strW {k : Nat} (hr : Room k X.A) : CallR X (.type "str") rStrW := fun pins s σ H xs us Q I r ⟨a, d, E, n, k, e, hd, w, hn, hk, q⟩ =>
  call_str_data hr pins s σ H xs us Q I r ⟨a, d, E, e, hd, w.sho, w.nod, by have := w.dep; omega, by have := w.len; rw [sizeLine_eq]; omega, q⟩
end
/-! ### nets as data: tuples and texts alone -/
abbrev ED : Addr → Prop := fun _ => True
abbrev frD (p : KM.Fra) : PyData := .tuple [.int p.1, .int p.2]
structure TieD where
  bg : List Nat
  en : List Nat
  most : KM.Fra
  gain : KM.Fra
  price : KM.Fra
abbrev tieD (t : TieD) : PyData := .tuple [.str (S t.bg), .str (S t.en), frD t.most, frD t.gain, frD t.price]
abbrev netD (ls : List (List Nat)) (ts : List TieD) : PyData := .tuple [.tuple (ls.map fun l => .str (S l)), .tuple (ts.map tieD)]
structure TieC (ls : List (List Nat)) (t : TieD) : Prop where
  b : t.bg ∈ ls
  e : t.en ∈ ls
  ne : t.bg ≠ t.en
  fm : Fb 24 t.most.1 t.most.2
  fg : Fb 6 t.gain.1 t.gain.2
  fp : Fb 40 t.price.1 t.price.2
  m0 : 0 ≤ t.most.1
  g1 : 1 ≤ t.gain.1
  p0 : 0 ≤ t.price.1
theorem isF {H : Hp} {o : Addr} {p : KM.Fra} (h : H o = some (.tup [.int p.1, .int p.2])) : IsD ED H (.ref o) (frD p) := .tup h (.cons (.int _) (.cons (.int _) .nil))
theorem isF_inv {E : Addr → Prop} {H : Hp} {v : V} {p : KM.Fra} (h : IsD E H v (frD p)) : ∃ o, v = .ref o ∧ H o = some (.tup [.int p.1, .int p.2]) := by
  cases h with
  | @tup a xs _ h r =>
    cases r with
    | cons h1 r =>
    cases r with
    | cons h2 r =>
    cases r
    cases h1
    cases h2
    exact ⟨a, rfl, h⟩
theorem IsD.tupS {E F : Addr → Prop} {H H' : Hp} {v : V} {d : PyData} (h : IsD ED H v d) (k : SameE E H H') : IsD ED H' v d := h.mono ⟨fun _ _ n _ => absurd trivial n, k.tup⟩
theorem IsAll.tupS {E : Addr → Prop} {H H' : Hp} {v : List V} {d : List PyData} (h : IsAll ED H v d) (k : SameE E H H') : IsAll ED H' v d := h.mono ⟨fun _ _ n _ => absurd trivial n, k.tup⟩
theorem IsD.tupC {H H' : Hp} {v : V} {d : PyData} {p : Addr} {xs ys : List V} (h : IsD ED H v d) (k : Ch H p xs H') (hp : H p = some (.lst ys)) : IsD ED H' v d := h.mono ⟨fun _ _ n _ => absurd trivial n, fun _ _ e => k.tup e hp⟩
theorem IsD.sm {E : Addr → Prop} {H H' : Hp} {v : V} {d : PyData} (h : IsD E H v d) (k : Same H H') : IsD E H' v d := h.mono k.toE
theorem IsD.any {E : Addr → Prop} {H : Hp} {v : V} {d : PyData} (h : IsD ED H v d) : IsD E H v d := h.narrow fun _ _ => trivial
theorem isStrs {H : Hp} : ∀ ls : List (List Nat), IsAll ED H (ls.map strV) (ls.map fun l => .str (S l))
  | [] => .nil
  | _ :: r => .cons (.str _) (isStrs r)
/-! weights -/
theorem strT_name {l : List Nat} (h : NameC l) : strT (S l) := ⟨by rw [S_len]; have := h.hi; omega, fun c hc => by have := h.az c hc; omega⟩
theorem wt_fr {p : KM.Fra} {b : Nat} (h : Fb b p.1 p.2) (hb : b ≤ 1900) : Wt (frD p) 3 1 := .tuple (.cons (.int (h.sn.mono hb)) (.cons (.int (h.sd.mono hb)) .nil))
theorem wt_tie {ls : List (List Nat)} {t : TieD} (hl : ∀ l ∈ ls, NameC l) (h : TieC ls t) : Wt (tieD t) 12 2 :=
  .tuple (.cons (.str (strT_name (hl _ h.b))) (.cons (.str (strT_name (hl _ h.e))) (.cons (wt_fr h.fm (by decide)) (.cons (wt_fr h.fg (by decide)) (.cons (wt_fr h.fp (by decide)) .nil)))))
theorem wtL_map {α : Type} {f : α → PyData} {m k : Nat} : ∀ {xs : List α}, (∀ x ∈ xs, Wt (f x) m k) → WtL (xs.map f) (m * xs.length) k
  | [], _ => .nil
  | x :: r, h => by
    have e : m * (x :: r).length = m + m * r.length := by rw [List.length_cons, Nat.mul_succ, Nat.add_comm]
    rw [e]
    exact .cons (h x (by simp)) (wtL_map fun y hy => h y (List.mem_cons_of_mem _ hy))
theorem wt_net {ls : List (List Nat)} {ts : List TieD} (hl : ∀ l ∈ ls, NameC l) (ht : ∀ t ∈ ts, TieC ls t) : Wt (netD ls ts) (1 * ls.length + 1 + (12 * ts.length + 1 + 0) + 1) 4 :=
  .tuple (.cons (.deep (.tuple (wtL_map (m := 1) (k := 0) fun l h => .str (strT_name (hl l h)))) (by decide)) (.cons (.tuple (wtL_map fun t h => wt_tie hl (ht t h))) .nil))
end L2

namespace L2
open PySem PySem.Spec PyProof.Rows
/-- a drawn fraction, its upper number at least lo -/
def spFrB (c : Nat) (lo : Int) : Sp := fun vs H Q _ => ∃ (b : Addr) (t : Int), vs = [.ref b] ∧ Bx H b t ∧ 0 ≤ t ∧ t ≤ 900000 ∧ ∀ o n d t' H', SameE (Eb b) H H' → H' o = some (.tup [.int n, .int d]) → Fb c n d → lo ≤ n → Bx H' b t' → t ≤ t' → t' ≤ t + 6 → Q (.ref o) H'
abbrev spFrD (lo : Int) : Sp := spFrB 40 lo
theorem low_fb {n d : Int} (hn : 1 ≤ n) (hn2 : n ≤ 1000000000) (hd : 1 ≤ d) (hd2 : d ≤ 1000000000) : Fb 40 (KM.low n d).1 (KM.low n d).2 ∧ 1 ≤ (KM.low n d).1 := by
  have a : Sz 40 n := by show n.natAbs < 1099511627776; omega
  have b : Sz 40 d := by show d.natAbs < 1099511627776; omega
  refine ⟨Fb.low a b (by omega), ?_⟩
  have := (KM.low_sgn (n := n) (d := d) (by omega)).1.mpr (by omega)
  omega
theorem low_fb6 {n d : Int} (hn : 1 ≤ n) (hn2 : n ≤ 60) (hd : 1 ≤ d) (hd2 : d ≤ 60) : Fb 6 (KM.low n d).1 (KM.low n d).2 ∧ 1 ≤ (KM.low n d).1 := by
  have a : Sz 6 n := by show n.natAbs < 64; omega
  have b : Sz 6 d := by show d.natAbs < 64; omega
  refine ⟨Fb.low a b (by omega), ?_⟩
  have := (KM.low_sgn (n := n) (d := d) (by omega)).1.mpr (by omega)
  omega
theorem low_fb24 {n d : Int} (hn : 1 ≤ n) (hn2 : n ≤ 10000000) (hd : 1 ≤ d) (hd2 : d ≤ 10000000) : Fb 24 (KM.low n d).1 (KM.low n d).2 ∧ 1 ≤ (KM.low n d).1 := by
  have a : Sz 24 n := by show n.natAbs < 16777216; omega
  have b : Sz 24 d := by show d.natAbs < 16777216; omega
  refine ⟨Fb.low a b (by omega), ?_⟩
  have := (KM.low_sgn (n := n) (d := d) (by omega)).1.mpr (by omega)
  omega
theorem fb_one24 {n : Int} (h0 : 0 ≤ n) (h : n ≤ 10000000) : Fb 24 n 1 := ⟨by show n.natAbs < 16777216; omega, by show (1 : Int).natAbs < _; decide, by decide, Int.gcd_one_right _⟩
theorem fb_one {n : Int} (h0 : 0 ≤ n) (h : n ≤ 1000000000) : Fb 40 n 1 := ⟨by show n.natAbs < 1099511627776; omega, by show (1 : Int).natAbs < _; decide, by decide, Int.gcd_one_right _⟩
theorem ifC {c : Bool} {a b : Int} {σ : St} {H : Hp} {Q : VK} (h : Q (.int (if c = true then a else b)) H) : if c = true then tC (.int a) σ H Q else tC (.int b) σ H Q := by
  cases c with
  | true => exact iteT h
  | false => exact iteF h
theorem log9 {m : Int} (h0 : 0 < m) (h1 : m < 1099511627776) : m.natAbs.log2 < 9000 := by
  have a : Sz 40 m := by show m.natAbs < 1099511627776; omega
  exact Nat.lt_trans (a.log (by omega)) (by decide)
/-- a drawn tie -/
def spTie : Sp := fun vs H Q _ => ∃ (b pl hd : Addr) (t : Int) (ls : List (List Nat)) (hs : List Int), vs = [.ref b, .ref pl, .ref hd] ∧ Bx H b t ∧ 0 ≤ t ∧ t ≤ 800000 ∧ pl ≠ b ∧ hd ≠ b ∧ H pl = some (.lst (ls.map strV)) ∧ H hd = some (.lst (hs.map V.int)) ∧
  2 ≤ ls.length ∧ ls.length ≤ 11 ∧ ls.Nodup ∧ (hs = [] ∨ hs.length = ls.length) ∧ (∀ h ∈ hs, 1 ≤ h ∧ h ≤ 7) ∧
  ∀ v td t' H', SameE (Eb b) H H' → IsD ED H' v (tieD td) → TieC ls td → Bx H' b t' → t ≤ t' → t' ≤ t + 30 → Q v H'
def spNet : Sp := fun vs H Q _ => ∃ (b : Addr) (t : Int), vs = [.ref b, .int 10, .int 24] ∧ Bx H b t ∧ 0 ≤ t ∧ t ≤ 500000 ∧
  ∀ v ls ts t' H', SameE (Eb b) H H' → IsD ED H' v (netD ls ts) → ls.length ≤ 10 → 2 ≤ ls.length → ts.length ≤ 24 → ls.Nodup → (∀ l ∈ ls, NameC l) → (∀ x ∈ ts, TieC ls x) → Bx H' b t' → t ≤ t' → t' ≤ t + 2000 → Q v H'
end L2
namespace L2
open PySem PySem.Spec PyProof.Rows
theorem step_on {n f r : Int} (h0 : 0 ≤ f) (h1 : f < n) (r0 : 0 ≤ r) (r1 : r < n - 1) : 0 ≤ (f + 1 + r) % n ∧ (f + 1 + r) % n < n ∧ (f + 1 + r) % n ≠ f := by
  have hn : 0 < n := by omega
  refine ⟨Int.emod_nonneg _ (by omega), Int.emod_lt_of_pos _ hn, ?_⟩
  by_cases h : f + 1 + r < n
  · rw [Int.emod_eq_of_lt (by omega) h]; omega
  · have e : (f + 1 + r) % n = f + 1 + r - n := by
      have h2 : (f + 1 + r) % n = (f + 1 + r - n) % n := by rw [Int.sub_emod_right]
      rw [h2, Int.emod_eq_of_lt (by omega) (by omega)]
    rw [e]; omega
theorem isInts {E : Addr → Prop} {H : Hp} : ∀ hs : List Int, IsAll E H (hs.map V.int) (hs.map PyData.int)
  | [] => .nil
  | _ :: r => .cons (.int _) (isInts r)
theorem eqv_nil (xs : List PyData) : PyData.eqv (.list xs) (.list []) = xs.isEmpty := by cases xs <;> simp [PyData.eqv, PyData.eqvAll]
theorem wt_ints {hs : List Int} (h : ∀ x ∈ hs, 1 ≤ x ∧ x ≤ 7) : Wt (.list (hs.map PyData.int)) (1 * hs.length + 1) 1 :=
  .list (wtL_map (m := 1) (k := 0) fun x hx => .int (by have := h x hx; show x.natAbs < 2 ^ 1900; exact Nat.lt_of_lt_of_le (show x.natAbs < 2 ^ 3 by omega) (Nat.pow_le_pow_right (by decide) (by decide))))
theorem atI_map {α : Type} {xs : List α} {k : Int} {f : α → V} (h0 : 0 ≤ k) (h : k.toNat < xs.length) : atI (xs.map f) k = some (f xs[k.toNat]) := by
  have q := atI_nat (xs := xs.map f) (j := k.toNat) (v := f xs[k.toNat]) (by rw [List.getElem?_map]; simp [h])
  rwa [Int.toNat_of_nonneg h0] at q
end L2
namespace L2
theorem nodup_inj {α : Type} {ls : List α} (h : ls.Nodup) {i j : Nat} (hi : i < ls.length) (hj : j < ls.length) (e : ls[i] = ls[j]) : i = j := by
  have p := List.pairwise_iff_getElem.mp h
  rcases Nat.lt_trichotomy i j with q | q | q
  · exact absurd e (p i j hi hj q)
  · exact q
  · exact absurd e.symm (p j i hj hi q)
end L2
namespace L2
open PySem PySem.Spec PyProof.Rows
/-- both ways of a conditional expression come to one rest -/
theorem ifE {c : Bool} {ta tb : TE} {σ : St} {H : Hp} {Q : VK} (I : V → Hp → Prop) (rest : ∀ v H', I v H' → Q v H') (h1 : c = true → (∀ v H', I v H' → Q v H') → ta σ H Q) (h2 : c = false → (∀ v H', I v H' → Q v H') → tb σ H Q) :
    if c = true then ta σ H Q else tb σ H Q := by
  cases c with
  | true => exact iteT (h1 rfl rest)
  | false => exact iteF (h2 rfl rest)
end L2
namespace L2
theorem joinE {t : TE} {σ : St} {H : Hp} {Q : VK} (I : V → Hp → Prop) (rest : ∀ v H', I v H' → Q v H') (h : (∀ v H', I v H' → Q v H') → t σ H Q) : t σ H Q := h rest
end L2
namespace L2
open PySem PySem.Spec PyProof.Rows
theorem IsAll.take {E : Addr → Prop} {H : Hp} : ∀ {xs : List V} {ds : List PyData} (n : Nat), IsAll E H xs ds → IsAll E H (xs.take n) (ds.take n)
  | _, _, 0, _ => by simp; exact .nil
  | _, _, _ + 1, .nil => by simp; exact .nil
  | _, _, n + 1, .cons h r => by simp; exact .cons h (IsAll.take n r)
end L2

namespace L2
open PySem PySem.Spec PyProof.Rows
open AutoSeq1 (wpAny_loadPart')
/-! ### enumerate of a list or a tuple -/
set_option maxHeartbeats 4000000 in
theorem enumNewT (l : Addr) (its : Array Value) (n : Nat) (dct : Option Addr) (sl : Array (Option Value)) :
    Meets (Builtin.«enumerate.__new__» ⟨[.type "enumerate", .ref l], []⟩) (fun _ R s => s.heap.get? l = some { cls := .type "tuple", dict := dct, data := .seq its n, slots := sl } ∧
      R (.ok (.ret (.ref (s.heap.push { cls := .type "tuple_iterator", data := .fields #[.ref l, .int 0 0] }).objs.size))) { s with heap := (s.heap.push { cls := .type "tuple_iterator", data := .fields #[.ref l, .int 0 0] }).push { cls := .type "enumerate", data := .fields #[.none, .bool false, .ref s.heap.objs.size, rawInt 0, .none, .none] } }) :=
  .of_wp fun prog w A R s h => by
    obtain ⟨hp, g, d, tk, os⟩ := s; obtain ⟨hl, h⟩ := h; have hsub := sub_enumerate
    have hT : Heap.IsTuple (Shared.heap ⟨hp, g, d, tk, os⟩) l its := ⟨_, hl, rfl, n, rfl⟩
    wp_walk using wpAny_loadPart' hl
    refine wpAny_stack_any fun st => wpAny_pure ?_; split
    · rename_i c _ _ _ _ _; cases (c == Value.type "enumerate")
      · wp_walk using wpAny_loadPart' hl, wpAny_pyIter_tuple hT
        exact ⟨_, rfl, h⟩
      · wp_walk using wpAny_loadPart' hl, wpAny_pyIter_tuple hT
        exact ⟨_, rfl, h⟩
    · wp_walk using wpAny_loadPart' hl, wpAny_pyIter_tuple hT
      exact ⟨_, rfl, h⟩
section
variable {prog : Program} {w : World} {A : Around} {E : Value → Shared → Prop} {s : Shared}
theorem call_enumK {l : Addr} {its : Array Value} {Q : Value → Shared → Prop} : ∀ {c : Bool}, SqK s.heap l its c →
    (∀ h', IsEnum h' (s.heap.objs.size + 1) s.heap.objs.size 0 .none → ItK h' s.heap.objs.size l 0 c → (∀ b o, s.heap.get? b = some o → h'.get? b = some o) → Q (.ref (s.heap.objs.size + 1)) { s with heap := h' }) →
    wpAny (model prog w) A (call (.type "enumerate") [.ref l]) Q E s
  | true, q, h => call_enumerate_list q fun h' a b _ k => h h' a b k
  | false, q, h => by
    obtain ⟨⟨c, dct, dt, sl⟩, hl, hc, n, hd⟩ := q
    dsimp only at hc hd
    subst hc hd
    refine callType_new F.called_enumerate (by decide) (F.typeCall_enumerate_1 _) (F.newCall_enumerate_1 _) (fun obj => F.args_object_init_2 obj _) F.entry_enumerate_new (enumNewT l its n dct sl) ⟨hl, ?_⟩
    have hz : (s.heap.push { cls := .type "tuple_iterator", data := .fields #[.ref l, .int 0 0] }).objs.size = s.heap.objs.size + 1 := Heap.size_push ..
    show _ ∧ _
    rw [hz]
    have he : IsEnum ((s.heap.push { cls := .type "tuple_iterator", data := .fields #[.ref l, .int 0 0] }).push { cls := .type "enumerate", data := .fields #[.none, .bool false, .ref s.heap.objs.size, rawInt 0, .none, .none] }) (s.heap.objs.size + 1) s.heap.objs.size 0 .none := by
      rw [← hz]; exact Heap.get?_push_size _ rfl
    exact ⟨⟨_, he, rfl⟩, h _ he ⟨_, Heap.get?_push_of_some _ (Heap.get?_push_size _ rfl), rfl, rfl⟩ fun b o e => Heap.get?_push_of_some _ (Heap.get?_push_of_some _ e)⟩
end
def IteK (K : PySem.W.Frag) (a : Addr) (c : Bool) : It :=
  ⟨fun i H => ∃ xs x, SqC K H a xs c ∧ xs[i]? = some x, fun i H v H' => ∃ T x, H T = none ∧ v = .ref T ∧ H' = upd H T (.tup [.int (i : Int), x]) ∧ ∀ xs, SqC K H a xs c → xs[i]? = some x, fun i H => ∃ xs, SqC K H a xs c ∧ xs.length = i⟩
theorem turn_enumK {P : Program} {w : World} {K : PySem.W.Frag} {es : List Expr} {kk : Nat} {pos : Pos} (a e it : Addr) (c : Bool) (hne : e ≠ it) (hae : a ≠ e) (hai : a ≠ it) :
    Turn P w K (.Tuple es kk pos) (IteK K a c) [e, it] e (fun i h => (∃ old, IsEnum h e it i old) ∧ ItK h it a i c) where
  mem := by simp
  obj := fun i h st b hb => by
    obtain ⟨⟨old, he⟩, hi⟩ := st
    have hb' : b = e ∨ b = it := by simpa using hb
    rcases hb' with rfl | rfl
    · exact ⟨_, he, fun v z => by have z' : Data.fields _ = Data.cell v := z; cases z'⟩
    · exact hi.some
  keep := fun i h h' st k => by
    obtain ⟨⟨old, he⟩, hi⟩ := st
    exact ⟨⟨old, k e (by simp) _ he⟩, hi.at fun o q => k it (by simp) o q⟩
  item := by
    intro X hP hw hK hc i pins s σ H E I hf st hg
    subst hP hw hK
    obtain ⟨⟨old, he⟩, hit⟩ := st
    obtain ⟨xs, x, hq, hx⟩ := hg
    obtain ⟨its, rv, p⟩ := I.seqC hq
    obtain ⟨u, hu, ru⟩ := rv.get hx
    have hnT : H s.heap.objs.size = none := I.fresh
    have hiu : i < its.length := (List.getElem?_eq_some_iff.mp hu).1
    have D := drawsK (prog := X.prog) (w := X.w) (A := X.A.in1) (I.ok.hd hc) it a hai its.toArray c
    refine wpAny_pyNext_enum_itemD D he ⟨hit, p⟩ (by simpa using hiu) hne (by simp; exact ⟨hne, Ne.symm hae⟩) fun u' h' tk hP ho st' hT hsz hk => ?_
    have eu : u = u' := by
      have : its.toArray[i]? = some u' := hP
      rw [List.getElem?_toArray, hu] at this
      exact Option.some.inj this
    subst eu
    refine ⟨_, rfl, wpAny_letOwnedTupleGo_enum (s := { s with heap := h', toks := tk + 1 }) ho fun h'' he'' hs'' => ?_⟩
    have helt : e < s.heap.objs.size := Heap.lt_size he
    have hilt : it < s.heap.objs.size := let ⟨_, y, _⟩ := hit.some; Heap.lt_size y
    have hT'' : h''.get? s.heap.objs.size = some { cls := .type "tuple", data := .seq #[.int i tk, u] } := (hs''.2 _ (Nat.ne_of_gt helt)).trans hT
    refine ⟨.ref s.heap.objs.size, upd H s.heap.objs.size (.tup [.int (i : Int), x]), I.turnedNew (ch := [e, it]) (t' := tk + 1) hf (fun b o hb q => ?_) (Nat.le_refl _) ?_, rfl, ⟨_, x, hnT, rfl, rfl, fun ys hy => by rw [I.seqC_inj hy hq]; exact hx⟩, ⟨⟨u, ?_⟩, st'.1.at fun o q => (hs''.2 _ (Ne.symm hne)).trans q⟩, fun b hb => ?_⟩
    · have h1 : b ≠ e := fun z => hb (by simp [z])
      have h2 : b ≠ it := fun z => hb (by simp [z])
      exact (hs''.2 b h1).trans (hk b o h1 h2 q)
    · exact ⟨by show 2 ≤ sizeLine; decide, [.int i tk, u], .cons ⟨_, rfl⟩ (.cons ru .nil), ⟨_, hT'', rfl, _, rfl⟩, _, hT'', rfl⟩
    · simpa using he''
    · have hb' : b = e ∨ b = it := by simpa using hb
      have hlt : b < s.heap.objs.size := by rcases hb' with rfl | rfl <;> assumption
      rw [upd_ne (Nat.ne_of_lt hlt)]
      exact (hf b hb).1
  done := by
    intro X hP hw hK hc i pins s σ H E I hf st hg
    subst hP hw hK
    obtain ⟨⟨old, he⟩, hit⟩ := st
    obtain ⟨xs, hq, hx⟩ := hg
    obtain ⟨its, rv, p⟩ := I.seqC hq
    have hl := rv.length
    have D := drawsK (prog := X.prog) (w := X.w) (A := X.A.in1) (I.ok.hd hc) it a hai its.toArray c
    have ei : i = its.toArray.size := by simp; omega
    refine wpAny_pyNext_enum_endD D he (by rw [ei] at hit; exact ⟨hit, p⟩) fun h' eb => ⟨rfl, I.turnedL (ch := [e, it]) (t' := s.toks) hf fun b o hb q => eb b o (fun z => hb (by simp [z])) q⟩
  self := fun _ _ _ _ _ st h => by
    obtain ⟨⟨old, he⟩, _⟩ := st
    exact wpAny_pyIter_enum he h
def iEnumK (K : PySem.W.Frag) (ta : TA) : TI := fun σ H R => ta σ H fun vs H1 => ∃ a c, vs = [.ref a] ∧ (∃ xs, SqC K H1 a xs c) ∧ R (IteK K a c) H1
theorem pi_enumK {X : Cx} {K : PySem.W.Frag} {es : List Expr} {kk : Nat} {tp : Pos} {a : Expr} {ta : TA} {p pos : Pos} (hg : Gl X "enumerate") (hm : X.mg "enumerate" = none) (ha : PA X [a] ta) (hs : starEach [a] X.env = [(false, eval a X.env)] := by rfl) (ek : X.K = K := by rfl) :
    PI X (.Tuple es kk tp) (.Call (.Name "enumerate" p) [a] [] pos) (iEnumK K ta) := by
  subst ek
  intro pins s σ H R I h
  refine Call_ (ld_blt I hg hm boot_enumerate (PyProof.Rows.callWith_type1 (thn (ha pos pins s σ H _ I h) fun us s1 ⟨vs, H1, I1, r1, q1⟩ => ?_) hs rfl))
  obtain ⟨a, c, rfl, ⟨xs, hq⟩, q⟩ := q1
  obtain ⟨u, rfl, ru⟩ := r1.one
  obtain rfl : u = .ref a := ru
  obtain ⟨its, rv, p⟩ := I1.seqC hq
  have d1 := p.lt
  refine call_enumK p fun h' hE hI hk => wpAny_pyIter_enum hE ?_
  have I2 : Inv X pins σ H1 { s1 with heap := h', toks := s1.toks } := I1.kept hk
  refine ⟨s1.heap.objs.size + 1, [s1.heap.objs.size + 1, s1.heap.objs.size], _, _, H1, rfl, I2, turn_enumK a (s1.heap.objs.size + 1) s1.heap.objs.size c (Nat.succ_ne_self _) (Nat.ne_of_lt (Nat.lt_succ_of_lt d1)) (Nat.ne_of_lt d1), ⟨⟨_, hE⟩, hI⟩, fun b hb => ?_, q⟩
  have hb' : b = s1.heap.objs.size + 1 ∨ b = s1.heap.objs.size := by simpa using hb
  have hle : s1.heap.objs.size ≤ b := by rcases hb' with rfl | rfl <;> omega
  exact I1.fpOk hle (I1.hok.fresh hle)
/-! ### int or bool -/
def nOf : V → Option Int
  | .int i => some i
  | .bl b => some (if b = true then 1 else 0)
  | _ => none
section
variable {X : Cx}
def rX (g : Int → Int → Int) : R2 := fun x y H Q => ∃ i j, nOf x = some i ∧ y = .int j ∧ Q (.int (g i j)) H
theorem op_addX : OpR X (binaryOp .Add) (rX (· + ·)) := by
  intro pins s σ H x y v u Q I rx ry h
  obtain ⟨i, j, hx, rfl, q⟩ := h
  obtain ⟨t', rfl⟩ := ry
  cases x <;> simp [nOf] at hx
  · rename_i b
    subst hx
    cases (show v = Value.bool b from rx)
    exact PySem.IntBool.add_bool_int ⟨.int _, H, I.tok _, ⟨_, rfl⟩, q⟩
  · subst hx
    obtain ⟨t, rfl⟩ := rx
    exact add_int ⟨.int _, H, I.tok _, ⟨_, rfl⟩, q⟩
theorem op_subX : OpR X (binaryOp .Sub) (rX (· - ·)) := by
  intro pins s σ H x y v u Q I rx ry h
  obtain ⟨i, j, hx, rfl, q⟩ := h
  obtain ⟨t', rfl⟩ := ry
  cases x <;> simp [nOf] at hx
  · rename_i b
    subst hx
    cases (show v = Value.bool b from rx)
    exact PySem.IntBool.sub_bool_int ⟨.int _, H, I.tok _, ⟨_, rfl⟩, q⟩
  · subst hx
    obtain ⟨t, rfl⟩ := rx
    exact sub_int ⟨.int _, H, I.tok _, ⟨_, rfl⟩, q⟩
def rXm : R2 := fun x y H Q => ∃ i j, x = .int i ∧ nOf y = some j ∧ -(2 ^ 64) < i ∧ i < 2 ^ 64 ∧ Q (.int (i * j)) H
theorem op_mulX : OpR X (binaryOp .Mult) rXm := by
  intro pins s σ H x y v u Q I rx ry h
  obtain ⟨i, j, rfl, hy, h0, h1, q⟩ := h
  obtain ⟨t', rfl⟩ := rx
  cases y <;> simp [nOf] at hy
  · rename_i b
    subst hy
    cases (show u = Value.bool b from ry)
    exact PySem.IntBool.mul_int_bool ⟨.int _, H, I.tok _, ⟨_, rfl⟩, q⟩
  · subst hy
    obtain ⟨t, rfl⟩ := ry
    exact mul_int ⟨.int _, H, I.tok _, ⟨_, rfl⟩, q⟩ (CMul.ok (.inl ⟨h0, h1⟩))
theorem gives_neg_bool (a : Bool) : Gives (Builtin.«int.__neg__» ⟨[.bool a], []⟩) (.int (-(if a = true then (1 : Int) else 0))) :=
  .of_wp fun M A E s Q h => by obtain ⟨hp, g, d, tk, os⟩ := s; wp_walk; exact ⟨_, rfl, h⟩
def rXn : V → Hp → VK → Prop := fun x H Q => ∃ i, nOf x = some i ∧ Q (.int (-i)) H
theorem un_negX : UnR X (unaryOp .USub) rXn := by
  intro pins s σ H x v Q I rx h
  obtain ⟨i, hx, q⟩ := h
  cases x <;> simp [nOf] at hx
  · rename_i b
    subst hx
    cases (show v = Value.bool b from rx)
    exact PySem.unaryOp_gives (op := .USub) (T := "bool") rfl rfl F.slot_bool_neg F.entry_int_neg (F.args_int_neg_1 _) (gives_neg_bool b) ⟨.int _, H, I.tok _, ⟨_, rfl⟩, q⟩
  · subst hx
    obtain ⟨t, rfl⟩ := rx
    exact neg_int ⟨.int _, H, I.tok _, ⟨_, rfl⟩, q⟩
end
end L2

namespace L2
open PySem PySem.Spec PyProof.Rows
/-! ### a slice of a text: its signs are of the text -/
def rSlS : V → Option Int → Option Int → Hp → VK → Prop := fun x lo hi H Q => ∃ z, x = .str z ∧ z.length ≤ 10000 ∧ ∀ y, y.length ≤ z.length → (∀ c ∈ y.cps.toList, c ∈ z.cps.toList) → Q (.str y) H
theorem part_of {v : Value} {o : Option Int} (h : IsPart v o) : ∃ p : Option (Int × Tok), v = partValue p := by
  cases h with
  | none => exact ⟨none, rfl⟩
  | int i t => exact ⟨some (i, t), rfl⟩
theorem sl_str {X : Cx} : SlR X rSlS := by
  intro pins s σ H x v vl vu lo hi sl Q I rx hs pl pu h
  obtain ⟨z, rfl, hz, q⟩ := h
  obtain ⟨t, rfl⟩ := rx
  obtain ⟨l, rfl⟩ := part_of pl
  obtain ⟨u, rfl⟩ := part_of pu
  refine ⟨"str", _, F.slot_str_getitem.lookup, typeIs_str _ _ _, ?_⟩
  refine wpAny_getItem_str_slice (l := l) (u := u) (st := none) hs rfl ?_
  unfold sliceMade
  by_cases hc : ((Option.map (fun x : Int × Tok => x.fst) none).getD 1 == 1 && (slicePicked z l u none).length == z.length) = true
  · rw [if_pos hc]
    exact ⟨.str z, H, I, ⟨_, rfl⟩, q z (Nat.le_refl _) fun c hc => hc⟩
  · rw [if_neg hc]
    have hl : ((slicePicked z l u none).filterMap (fun x => z.cps[x]?)).length ≤ z.length := Nat.le_trans (List.length_filterMap_le _ _) (sliceIndices_le _ _ _)
    have hl' : (⟨((slicePicked z l u none).filterMap (fun x => z.cps[x]?)).toArray⟩ : Str).length ≤ z.length := by
      show ((slicePicked z l u none).filterMap (fun x => z.cps[x]?)).toArray.size ≤ _
      rw [List.size_toArray]; exact hl
    refine ⟨?_, .str ⟨_⟩, H, I.tok _, ⟨_, rfl⟩, q _ hl' fun c hc => ?_⟩
    · exact Nat.le_trans hl' (sz_of hz)
    · have hc' : c ∈ (slicePicked z l u none).filterMap (fun x => z.cps[x]?) := by simpa using hc
      obtain ⟨i, _, e⟩ := List.mem_filterMap.mp hc'
      obtain ⟨hi, e2⟩ := Array.getElem?_eq_some_iff.mp e
      rw [← e2]
      simp
end L2

namespace L2
open PySem PySem.Spec PyProof.Rows
/-! ### data with bounds: z how often bent, at most n parts, at most k deep -/
mutual
inductive Wg (z : Nat) : PyData → Nat → Nat → Prop
  | non {n k : Nat} (hn : 1 ≤ n) : Wg z .none n k
  | bl (b : Bool) {n k : Nat} (hn : 1 ≤ n) : Wg z (.bool b) n k
  | int {i : Int} (h : Sz (200 + z) i) {n k : Nat} (hn : 1 ≤ n) : Wg z (.int i) n k
  | str {x : Str} (h : x.length + 1 ≤ 4 ^ z) (hc : ∀ c ∈ x.cps.toList, c < 128) {n k : Nat} (hn : 1 ≤ n) : Wg z (.str x) n k
  | list {xs : List PyData} {m l n k : Nat} (h : WgL z xs m l) (hn : m + 1 ≤ n) (hk : l + 1 ≤ k) : Wg z (.list xs) n k
  | tuple {xs : List PyData} {m l n k : Nat} (h : WgL z xs m l) (hn : m + 1 ≤ n) (hk : l + 1 ≤ k) : Wg z (.tuple xs) n k
inductive WgL (z : Nat) : List PyData → Nat → Nat → Prop
  | nil {n k : Nat} : WgL z [] n k
  | cons {x : PyData} {xs : List PyData} {m l n k : Nat} (h : Wg z x m k) (r : WgL z xs l k) (hn : m + l ≤ n) : WgL z (x :: xs) n k
end
theorem Wg.up {z : Nat} {d : PyData} {n k n' k' : Nat} (h : Wg z d n k) (hn : n ≤ n') (hk : k ≤ k') : Wg z d n' k' := by
  cases h with
  | non h => exact .non (by omega)
  | bl b h => exact .bl b (by omega)
  | int h hn' => exact .int h (by omega)
  | str h hc hn' => exact .str h hc (by omega)
  | list h h1 h2 => exact .list h (by omega) (by omega)
  | tuple h h1 h2 => exact .tuple h (by omega) (by omega)
theorem WgL.up {z : Nat} : ∀ {xs : List PyData} {n k n' k' : Nat}, WgL z xs n k → n ≤ n' → k ≤ k' → WgL z xs n' k'
  | _, _, _, _, _, .nil, _, _ => .nil
  | _, _, _, _, _, .cons h r hn, h1, h2 => .cons (h.up (Nat.le_refl _) h2) (r.up (Nat.le_refl _) h2) (by omega)
theorem WgL.append {z : Nat} : ∀ {xs ys : List PyData} {n m k : Nat}, WgL z xs n k → WgL z ys m k → WgL z (xs ++ ys) (n + m) k
  | _, _, _, _, _, .nil, s => s.up (by omega) (Nat.le_refl _)
  | _, _, _, _, _, .cons h r hn, s => .cons h (r.append s) (by omega)
theorem WgL.one {z : Nat} {d : PyData} {n k : Nat} (h : Wg z d n k) : WgL z [d] n k := .cons (l := 0) h .nil (by omega)
theorem WgL.take {z : Nat} : ∀ {xs : List PyData} {n k : Nat} (i : Nat), WgL z xs n k → WgL z (xs.take i) n k
  | _, _, _, 0, _ => by simp; exact .nil
  | _, _, _, _ + 1, .nil => by simp; exact .nil
  | _, _, _, i + 1, .cons h r hn => by simp; exact .cons h (r.take i) hn
theorem WgL.drop {z : Nat} : ∀ {xs : List PyData} {n k : Nat} (i : Nat), WgL z xs n k → WgL z (xs.drop i) n k
  | _, _, _, 0, h => by simpa using h
  | _, _, _, _ + 1, .nil => by simp; exact .nil
  | _, _, _, i + 1, .cons h r hn => by simp; exact (r.drop i).up (by omega) (Nat.le_refl _)
theorem WgL.reverse {z : Nat} : ∀ {xs : List PyData} {n k : Nat}, WgL z xs n k → WgL z xs.reverse n k
  | _, _, _, .nil => by simp; exact .nil
  | _, _, _, .cons h r hn => by rw [List.reverse_cons]; exact (r.reverse.append (.one h)).up (by omega) (Nat.le_refl _)
theorem WgL.get {z : Nat} : ∀ {xs : List PyData} {n k i : Nat} {d : PyData}, WgL z xs n k → xs[i]? = some d → Wg z d n k
  | _, _, _, _, _, .nil, e => by simp at e
  | _, _, _, 0, _, .cons h r hn, e => by
    simp at e; subst e; exact h.up (by omega) (Nat.le_refl _)
  | _, _, _, i + 1, _, .cons h r hn, e => (r.get (i := i) (by simpa using e)).up (by omega) (Nat.le_refl _)
theorem pow4_le {z y : Nat} (h : z ≤ y) : 4 ^ z ≤ 4 ^ y := Nat.pow_le_pow_right (by decide) h
mutual
theorem Wg.more {z y : Nat} (hz : z ≤ y) : ∀ {d : PyData} {n k : Nat}, Wg z d n k → Wg y d n k
  | _, _, _, .non h => .non h
  | _, _, _, .bl b h => .bl b h
  | _, _, _, .int h hn => .int (h.mono (by omega)) hn
  | _, _, _, .str h hc hn => .str (Nat.le_trans h (pow4_le hz)) hc hn
  | _, _, _, .list h hn hk => .list (WgL.more hz h) hn hk
  | _, _, _, .tuple h hn hk => .tuple (WgL.more hz h) hn hk
theorem WgL.more {z y : Nat} (hz : z ≤ y) : ∀ {ds : List PyData} {n k : Nat}, WgL z ds n k → WgL y ds n k
  | _, _, _, .nil => .nil
  | _, _, _, .cons h r hn => .cons (Wg.more hz h) (WgL.more hz r) hn
end
mutual
theorem Wg.wt {z : Nat} (hz : z ≤ 4) : ∀ {d : PyData} {n k : Nat}, Wg z d n k → ∃ m, m ≤ n ∧ Wt d m k
  | _, _, _, .non h => ⟨1, h, .non⟩
  | _, _, _, .bl b h => ⟨1, h, .bl b⟩
  | _, _, _, .int h hn => ⟨1, hn, .int (h.mono (by omega))⟩
  | _, _, _, .str h hc hn => ⟨1, hn, .str ⟨by have := pow4_le hz; simp at this; omega, hc⟩⟩
  | _, _, _, .list h hn hk => by
    obtain ⟨m, h1, h2⟩ := WgL.wt hz h
    exact ⟨m + 1, by omega, Wt.deep (.list h2) hk⟩
  | _, _, _, .tuple h hn hk => by
    obtain ⟨m, h1, h2⟩ := WgL.wt hz h
    exact ⟨m + 1, by omega, Wt.deep (.tuple h2) hk⟩
theorem WgL.wt {z : Nat} (hz : z ≤ 4) : ∀ {ds : List PyData} {n k : Nat}, WgL z ds n k → ∃ m, m ≤ n ∧ WtL ds m k
  | _, _, _, .nil => ⟨0, Nat.zero_le _, .nil⟩
  | _, _, _, .cons h r hn => by
    obtain ⟨m, h1, h2⟩ := Wg.wt hz h
    obtain ⟨l, h3, h4⟩ := WgL.wt hz r
    exact ⟨m + l, by omega, .cons h2 h4⟩
end
/-! ### with its data kept a secret -/
def Dt (z : Nat) (E : Addr → Prop) (H : Hp) (v : V) (n k : Nat) : Prop := ∃ d, IsD E H v d ∧ Wg z d n k
def Ds (z : Nat) (E : Addr → Prop) (H : Hp) (vs : List V) (n k : Nat) : Prop := ∃ ds, IsAll E H vs ds ∧ WgL z ds n k
theorem IsAll.drop {E : Addr → Prop} {H : Hp} : ∀ {xs : List V} {ds : List PyData} (n : Nat), IsAll E H xs ds → IsAll E H (xs.drop n) (ds.drop n)
  | _, _, 0, h => by simpa using h
  | _, _, _ + 1, .nil => by simp; exact .nil
  | _, _, n + 1, .cons h r => by simp; exact IsAll.drop n r
theorem IsAll.reverse {E : Addr → Prop} {H : Hp} : ∀ {xs : List V} {ds : List PyData}, IsAll E H xs ds → IsAll E H xs.reverse ds.reverse
  | _, _, .nil => by simp; exact .nil
  | _, _, .cons h r => by rw [List.reverse_cons, List.reverse_cons]; exact r.reverse.append (.cons h .nil)
theorem IsAll.set {E : Addr → Prop} {H : Hp} {y : V} {d : PyData} (hy : IsD E H y d) : ∀ {xs : List V} {ds : List PyData} (i : Nat), IsAll E H xs ds → IsAll E H (xs.set i y) (ds.set i d)
  | _, _, _, .nil => by simp; exact .nil
  | _, _, 0, .cons h r => by simp; exact .cons hy r
  | _, _, i + 1, .cons h r => by simp; exact .cons h (IsAll.set hy i r)
section
variable {z : Nat} {E : Addr → Prop} {H H' : Hp} {n m k : Nat} {v : V} {xs ys : List V}
theorem Ds.sE (h : Ds z E H xs n k) (s : SameE E H H') : Ds z E H' xs n k := by obtain ⟨d, a, b⟩ := h; exact ⟨d, a.mono s, b⟩
theorem Dt.sE (h : Dt z E H v n k) (s : SameE E H H') : Dt z E H' v n k := by obtain ⟨d, a, b⟩ := h; exact ⟨d, a.mono s, b⟩
theorem Ds.sm (h : Ds z E H xs n k) (s : Same H H') : Ds z E H' xs n k := h.sE s.toE
theorem Dt.sm (h : Dt z E H v n k) (s : Same H H') : Dt z E H' v n k := h.sE s.toE
theorem Ds.nil : Ds z E H [] n k := ⟨[], .nil, .nil⟩
theorem Ds.one (h : Dt z E H v n k) : Ds z E H [v] n k := by obtain ⟨d, a, b⟩ := h; exact ⟨[d], .cons a .nil, .one b⟩
theorem Ds.append (h : Ds z E H xs n k) (g : Ds z E H ys m k) : Ds z E H (xs ++ ys) (n + m) k := by
  obtain ⟨d, a, b⟩ := h; obtain ⟨e, a', b'⟩ := g; exact ⟨d ++ e, a.append a', b.append b'⟩
theorem Ds.cons (h : Dt z E H v m k) (g : Ds z E H xs n k) : Ds z E H (v :: xs) (m + n) k := (Ds.one h).append g
theorem Ds.take (h : Ds z E H xs n k) (i : Nat) : Ds z E H (xs.take i) n k := by obtain ⟨d, a, b⟩ := h; exact ⟨_, a.take i, b.take i⟩
theorem Ds.drop (h : Ds z E H xs n k) (i : Nat) : Ds z E H (xs.drop i) n k := by obtain ⟨d, a, b⟩ := h; exact ⟨_, a.drop i, b.drop i⟩
theorem Ds.reverse (h : Ds z E H xs n k) : Ds z E H xs.reverse n k := by obtain ⟨d, a, b⟩ := h; exact ⟨_, a.reverse, b.reverse⟩
theorem Ds.up {n' k' : Nat} (h : Ds z E H xs n k) (hn : n ≤ n') (hk : k ≤ k') : Ds z E H xs n' k' := by obtain ⟨d, a, b⟩ := h; exact ⟨d, a, b.up hn hk⟩
theorem Dt.up {n' k' : Nat} (h : Dt z E H v n k) (hn : n ≤ n') (hk : k ≤ k') : Dt z E H v n' k' := by obtain ⟨d, a, b⟩ := h; exact ⟨d, a, b.up hn hk⟩
theorem Dt.more {y : Nat} (h : Dt z E H v n k) (hz : z ≤ y) : Dt y E H v n k := by obtain ⟨d, a, b⟩ := h; exact ⟨d, a, b.more hz⟩
theorem Dt.lst {a : Addr} (h : H a = some (.lst xs)) (ne : ¬ E a) (g : Ds z E H xs n k) : Dt z E H (.ref a) (n + 1) (k + 1) := by
  obtain ⟨d, p, q⟩ := g; exact ⟨.list d, .lst h ne p, .list q (Nat.le_refl _) (Nat.le_refl _)⟩
theorem Dt.tup {a : Addr} (h : H a = some (.tup xs)) (g : Ds z E H xs n k) : Dt z E H (.ref a) (n + 1) (k + 1) := by
  obtain ⟨d, p, q⟩ := g; exact ⟨.tuple d, .tup h p, .tuple q (Nat.le_refl _) (Nat.le_refl _)⟩
theorem Dt.non : Dt z E H .non (n + 1) k := ⟨.none, .non, .non (by omega)⟩
theorem Dt.bl (b : Bool) : Dt z E H (.bl b) (n + 1) k := ⟨.bool b, .bl b, .bl b (by omega)⟩
theorem Dt.int {i : Int} (h : Sz (200 + z) i) : Dt z E H (.int i) (n + 1) k := ⟨.int i, .int i, .int h (by omega)⟩
theorem Dt.str {x : Str} (h : x.length + 1 ≤ 4 ^ z) (hc : ∀ c ∈ x.cps.toList, c < 128) : Dt z E H (.str x) (n + 1) k := ⟨.str x, .str x, .str h hc (by omega)⟩
theorem Dt.narrow {F : Addr → Prop} (h : Dt z E H v n k) (hF : ∀ a, F a → E a) : Dt z F H v n k := by obtain ⟨d, a, b⟩ := h; exact ⟨d, a.narrow hF, b⟩
theorem Ds.cut (h : Ds z E H xs n k) (lo hi : Option Int) : Ds z E H (cutV xs lo hi) n k := (h.drop _).take _
theorem Wg.pos {d : PyData} (h : Wg z d n k) : 1 ≤ n := by cases h <;> omega
theorem WgL.len : ∀ {ds : List PyData} {n k : Nat}, WgL z ds n k → ds.length ≤ n
  | _, _, _, .nil => Nat.zero_le _
  | _, _, _, .cons h r hn => by have := h.pos; have := WgL.len r; simp; omega
theorem Ds.len (h : Ds z E H xs n k) : xs.length ≤ n := by obtain ⟨d, a, b⟩ := h; rw [a.length]; exact b.len
theorem cutV_drop1 : cutV xs (some 1) none = xs.drop 1 := by
  unfold cutV
  rw [HT.sIx_none, show (1 : Int) = ((1 : Nat) : Int) from rfl, HT.sIx_nat]
  cases xs with
  | nil => simp
  | cons x r => simp
end
mutual
theorem IsD.plus {E : Addr → Prop} {H : Hp} {D : Addr} (hD : H D = none) : ∀ {v : V} {d : PyData}, IsD E H v d → IsD (fun a => E a ∨ a = D) H v d
  | _, _, .non => .non
  | _, _, .bl b => .bl b
  | _, _, .int i => .int i
  | _, _, .str x => .str x
  | _, _, .lst h ne r => .lst h (fun z => z.elim ne fun e => by rw [e, hD] at h; cases h) (IsAll.plus hD r)
  | _, _, .tup h r => .tup h (IsAll.plus hD r)
theorem IsAll.plus {E : Addr → Prop} {H : Hp} {D : Addr} (hD : H D = none) : ∀ {vs : List V} {ds : List PyData}, IsAll E H vs ds → IsAll (fun a => E a ∨ a = D) H vs ds
  | _, _, .nil => .nil
  | _, _, .cons h r => .cons (IsD.plus hD h) (IsAll.plus hD r)
end
/-- what is kept out lies there already -/
def Al (E : Addr → Prop) (H : Hp) : Prop := ∀ a, E a → H a ≠ none
theorem Al.sm {E : Addr → Prop} {H H' : Hp} (h : Al E H) (s : Same H H') : Al E H' := fun a e z => by
  cases q : H a with
  | none => exact h a e q
  | some o => rw [s a o q] at z; cases z
theorem Al.sE {E : Addr → Prop} {H H' : Hp} {b : Addr} {t : Int} (h : Al E H) (s : SameE (Eb b) H H') (B : Bx H' b t) : Al E H' := fun a e z => by
  by_cases q : a = b
  · subst q; exact B.ne z rfl
  · cases p : H a with
    | none => exact h a e p
    | some o => rw [s.old a o q p] at z; cases z
theorem Al.ne {E : Addr → Prop} {H : Hp} (h : Al E H) {p : Addr} (hp : H p = none) : ¬ E p := fun e => h p e hp
/-! ### texts put together -/
theorem S_self (x : Str) : S x.cps.toList = x := by cases x; simp [S]
section
variable {X : Cx}
def txt (m : Nat) (x : Str) : Prop := x.length ≤ m ∧ ∀ c ∈ x.cps.toList, c < 128
def rAddT : R2 := fun x y H Q => ∃ a b m n, x = .str a ∧ y = .str b ∧ txt m a ∧ txt n b ∧ m + n ≤ 10000 ∧ ∀ c, txt (m + n) c → Q (.str c) H
theorem op_addT : OpR X (binaryOp .Add) rAddT := fun pins s σ H x y v u Q I rx ry ⟨a, b, m, n, e1, e2, ta, tb, hz, q⟩ =>
  op_addS pins s σ H x y v u Q I rx ry ⟨a.cps.toList, b.cps.toList, by rw [S_self]; exact e1, by rw [S_self]; exact e2, by
    have h1 : a.cps.toList.length ≤ m := ta.1
    have h2 : b.cps.toList.length ≤ n := tb.1
    omega, q _ ⟨by
      rw [S_len, List.length_append]
      have h1 : a.cps.toList.length ≤ m := ta.1
      have h2 : b.cps.toList.length ≤ n := tb.1
      omega, fun c hc => by
      rw [S_list] at hc
      rcases List.mem_append.mp hc with h | h
      · exact ta.2 c h
      · exact tb.2 c h⟩⟩
def rMulT : R2 := fun x y H Q => ∃ a m, x = .str a ∧ y = .int 2 ∧ txt m a ∧ m ≤ 100 ∧ ∀ c, txt (2 * m) c → Q (.str c) H
theorem op_mulT : OpR X (binaryOp .Mult) rMulT := fun pins s σ H x y v u Q I rx ry ⟨a, m, e1, e2, ta, hm, q⟩ =>
  op_mulS pins s σ H x y v u Q I rx ry ⟨a.cps.toList, 2, by rw [S_self]; exact e1, e2, by decide, by decide, by
    have h1 : a.cps.toList.length ≤ m := ta.1
    omega, q _ ⟨by
      have h1 : a.cps.toList.length ≤ m := ta.1
      rw [S_len]
      show (List.replicate 2 a.cps.toList).flatten.length ≤ _
      simp [List.replicate]
      simp at h1
      omega, fun c hc => by
      rw [S_list] at hc
      obtain ⟨l, hl, hc⟩ := List.mem_flatten.mp hc
      rw [List.eq_of_mem_replicate hl] at hc
      exact ta.2 c hc⟩⟩
end
end L2

namespace HT
open PySem PySem.Spec PyProof.Rows
section
variable {prog : Program} {w : World} {A : Around} {E : Value → Shared → Prop} {s : Shared}
theorem getItem_tuple_whole {t sl : Addr} {items : Array Value} {vl vu : Value} {lo hi : Option Int} {Q : Value → Shared → Prop} (ht : IsTup s.heap t items) (hs : s.heap.IsSliceOf sl vl vu .none) (pl : IsPart vl lo) (pu : IsPart vu hi)
    (h1 : sIx items.size 0 lo = 0) (h2 : sIx items.size items.size hi = items.size) (h : Q (.ref t) s) : wpAny (model prog w) A (getItem (.ref t) (.ref sl)) Q E s := by
  obtain ⟨os, hos, hcs, hds⟩ := id hs
  have hTs : s.TypeIs (.ref sl) "slice" := ⟨os, hos, hcs⟩
  unfold getItem
  try with_reducible refine wpAny_holding ?_
  first | refine wpAny_bind (wpAny_pure ?_) | skip
  refine wpAny_bind (wpAny_sequenceKey ht.typeIs (by decide) ?_)
  refine wpAny_bind (wpAny_callSpecial?_slot (name := Str.ofString "__getitem__") ht.typeIs PyProof.Rows.slot_tuple_getitem
    (wpAny_call_entry PyProof.Rows.slot_tuple_getitem ht.typeIs entry_tuple_getitem ?_ (args_tuple_getitem _ _)))
  show wpAny _ _ (Builtin.Tuple.tupleItemsOf (.ref t) >>= _) _ _ s
  refine wpAny_bind (tupleItemsOf_ ht ?_)
  refine wpAny_bind (wpAny_typeOf hTs ?_)
  rw [if_pos (by decide)]
  refine wpAny_bind (sliceApplied_gen hs pl pu ?_)
  have hyes : ((((sIx items.size 0 lo : Nat) : Int) == 0 && (1 : Int) == 1 && (sIx items.size items.size hi - sIx items.size 0 lo) == items.size) = true) := by
    rw [h1, h2]; simp
  show wpAny _ _ (if (((sIx items.size 0 lo : Nat) : Int) == 0 && (1 : Int) == 1 && (sIx items.size items.size hi - sIx items.size 0 lo) == items.size) = true then _ else _) _ _ s
  rw [if_pos hyes]
  refine wpAny_bind (m := Builtin.Tuple.tupleIsExact _) (wpAny_bind (wpAny_typeOf ht.typeIs (wpAny_pure ?_)))
  rw [if_pos (by decide)]
  exact wpAny_bind (wpAny_rule (wpAny_pure ⟨_, rfl, wpAny_pure h⟩))
end
end HT
namespace L2
open PySem PySem.Spec PyProof.Rows
section
variable {X : Cx} {K : PySem.W.Frag}
/-- x is not True -/
def rNotB : R2 := fun x y H Q => ∃ b c : Bool, x = .bl b ∧ y = .bl c ∧ Q (.bl (!(b == c))) H
theorem op_notB : OpR X (compareOp .IsNot) rNotB := by
  intro pins s σ H x y v u Q I rx ry h
  obtain ⟨b, c, rfl, rfl, q⟩ := h
  cases (show v = Value.bool b from rx)
  cases (show u = Value.bool c from ry)
  refine wpAny_isNot_plain rfl (fin_bl I q ?_)
  cases b <;> cases c <;> rfl
/-- t[lo:hi] of a tuple, the whole of it too -/
def rSlTA (K : PySem.W.Frag) : V → Option Int → Option Int → Hp → VK → Prop := fun x lo hi H Q => ∃ a xs, x = .ref a ∧ SqT K H a xs ∧ H a = some (.tup xs) ∧ ∀ p H', Same H H' → H' p = some (.tup (cutV xs lo hi)) → Q (.ref p) H'
theorem sl_tupA (e : X.K = K := by rfl) : SlR X (rSlTA K) := by
  subst e
  intro pins s σ H x v vl vu lo hi sl Q I rx hs pl pu h
  obtain ⟨a, xs, rfl, hx, ha, q⟩ := h
  by_cases hw : HT.sIx xs.length 0 lo = 0 ∧ HT.sIx xs.length xs.length hi = xs.length
  · cases rx
    obtain ⟨its, r, ht, hz⟩ := I.tuple hx
    have hlen : its.toArray.size = xs.length := by rw [List.size_toArray]; exact r.length.symm
    refine ⟨"tuple", _, PyProof.Rows.slot_tuple_getitem.lookup, ht.typeIs, ?_⟩
    refine HT.getItem_tuple_whole ht hs pl pu (by rw [hlen]; exact hw.1) (by rw [hlen]; exact hw.2) ⟨.ref a, H, I, rfl, q a H (Same.refl _) ?_⟩
    have : cutV xs lo hi = xs := by
      unfold cutV
      rw [hw.1, hw.2, List.drop_zero, Nat.sub_zero, List.take_length]
    rw [this]; exact ha
  · exact sl_tup pins s σ H _ v vl vu lo hi sl Q I rx hs pl pu ⟨a, xs, rfl, hx, hw, fun p hp => q p _ (Same.new hp) upd_same⟩
end
end L2

namespace L2
open PySem PySem.Spec PyProof.Rows
/-! ### len(set(xs)) of a list or tuple of ints and texts -/
theorem snocInd {α : Type} {p : List α → Prop} (h0 : p []) (h1 : ∀ l a, p l → p (l ++ [a])) (l : List α) : p l := by
  have : ∀ r : List α, p r.reverse := fun r => by
    induction r with
    | nil => exact h0
    | cons a r ih => rw [List.reverse_cons]; exact h1 _ _ ih
  have h := this l.reverse
  rwa [List.reverse_reverse] at h
/-- the keys, each once, in the order of their first coming -/
def once (ks : List Key) : List Key := ks.foldl (fun σ k => if σ.any (fun x => decide (x = k)) then σ else σ ++ [k]) []
theorem once_snoc (ks : List Key) (k : Key) : once (ks ++ [k]) = if (once ks).any (fun x => decide (x = k)) then once ks else once ks ++ [k] := by
  unfold once
  rw [List.foldl_append]
  rfl
theorem once_len : ∀ (ks : List Key), (once ks).length ≤ ks.length := by
  intro ks
  induction ks using snocInd with
  | h0 => exact Nat.le_refl _
  | h1 ks k ih =>
    rw [once_snoc, List.length_append]
    split
    · simp; omega
    · rw [List.length_append]; simp; omega
theorem once_mem (ks : List Key) : ∀ j, j ∈ once ks ↔ j ∈ ks := by
  induction ks using snocInd with
  | h0 => exact fun j => Iff.rfl
  | h1 ks k ih =>
    intro j
    rw [once_snoc, List.mem_append, List.mem_singleton]
    split
    · rename_i h
      rw [ih]
      constructor
      · exact .inl
      · rintro (z | z)
        · exact z
        · obtain ⟨x, hx, e⟩ := List.any_eq_true.mp h
          rw [z, ← ih, ← of_decide_eq_true e]; exact hx
    · rw [List.mem_append, List.mem_singleton, ih]
theorem once_nodup (ks : List Key) : (once ks).length = ks.length ↔ ks.Nodup := by
  induction ks using snocInd with
  | h0 => exact ⟨fun _ => List.nodup_nil, fun _ => rfl⟩
  | h1 ks k ih =>
    rw [once_snoc, List.length_append, List.nodup_append]
    have ol := once_len ks
    by_cases h : (once ks).any (fun x => decide (x = k)) = true
    · rw [if_pos h]
      obtain ⟨x, hx, e⟩ := List.any_eq_true.mp h
      have hk : k ∈ ks := by rw [← of_decide_eq_true e]; exact (once_mem ks x).mp hx
      constructor
      · intro z; simp at z; omega
      · intro z; exact absurd rfl (z.2.2 k hk k (by simp))
    · rw [if_neg h, List.length_append]
      have hk : k ∉ ks := fun z => h (List.any_eq_true.mpr ⟨k, (once_mem ks k).mpr z, by simp⟩)
      constructor
      · intro z
        refine ⟨ih.mp (by simpa using z), by simp, fun a ha b hb e => ?_⟩
        rw [List.mem_singleton] at hb
        rw [← hb, ← e] at hk
        exact hk ha
      · intro z
        rw [ih.mpr z.1]
/-- a key as a value of ours -/
def keyV : Key → V
  | .inl i => .int i
  | .inr x => .str x
theorem keyV_is {k : Key} {u : Value} (h : RelV (keyV k) u) : keyIs k u = true ∧ u.scannable = true := by
  cases k with
  | inl i => obtain ⟨t, rfl⟩ := h; exact ⟨keyIs_int i t, rfl⟩
  | inr x => obtain ⟨t, rfl⟩ := h; exact ⟨keyIs_str x t, rfl⟩
section
variable {prog : Program} {w : World} {A : Around} {R : Result → Shared → Prop} {it : Addr} {fp wr : List Addr} {G : Array GenState → Array GenState → Prop} {P : Nat → Value → Prop} {St : Nat → Shared → Prop}
abbrev IsSetK (prog : Program) (w : World) (h : Heap) (a : Addr) (ks : List Key) : Prop := h.SetOf (mixKind prog w) a (fun j => (once ks).any (fun x => decide (x = j))) (once ks).length
theorem isSetK_but {h h' : Heap} {a : Addr} {ks : List Key} (H : IsSetK prog w h a ks) (k : ∀ o, h.get? a = some o → h'.get? a = some o) : IsSetK prog w h' a ks :=
  let ⟨o, es, ep, t, ho, r⟩ := H
  ⟨o, es, ep, t, k o ho, r⟩
theorem setK_eq {h : Heap} {a : Addr} {f g : Key → Bool} {n m : Nat} (H : h.SetOf (mixKind prog w) a f n) (e : ∀ k, f k = g k) (en : n = m) : h.SetOf (mixKind prog w) a g m := by
  cases en
  cases (funext e : f = g)
  exact H
/-- the loop that fills the set -/
theorem fill_set {ks : List Key} (W : WalksS prog w A.in1 it fp wr G ks.length P St) {a : Addr} (ha : a ∉ fp) (hv : ∀ i v, P i v → ∀ k, ks[i]? = some k → keyIs k v = true ∧ v.scannable = true) (hb : ks.length + 1 < scanBound) :
    ∀ (r i : Nat) (s : Shared), ks.length - i = r → i ≤ ks.length → St i s → IsSetK prog w s.heap a (ks.take i) →
      (∀ s', Moved (a :: wr) G s s' → IsSetK prog w s'.heap a ks → R (.ok (.ret .none)) s') → codeAny (model prog w) A (.builtin "set.update.loop" ⟨[.ref a, .ref it], []⟩) R s := by
  have nw : a ∉ wr := fun z => ha (W.sub _ z)
  have up : ∀ b ∈ wr, b ∈ a :: wr := fun b z => List.mem_cons_of_mem _ z
  intro r
  induction r with
  | zero =>
    intro i s hr hi st hS hR
    have e : i = ks.length := by omega
    rw [e] at st hS
    rw [List.take_length] at hS
    refine codeAny_builtin F.entry_set_update_loop ?_
    rw [A.under_plainId F.plain_set_update_loop]
    show wpAny _ _ (pyNext (Value.ref it) >>= _) _ _ _
    refine wpAny_bind (W.done s _ _ st fun s' m => ?_)
    show wpAny _ _ (ret .none) _ _ _
    exact wpAny_pure (hR s' (m.mono up) (isSetK_but hS fun o ho => m.heap a o nw ho))
  | succ r ih =>
    intro i s hr hi st hS hR
    have lt : i < ks.length := by omega
    refine codeAny_builtin F.entry_set_update_loop ?_
    rw [A.under_plainId F.plain_set_update_loop]
    show wpAny _ _ (pyNext (Value.ref it) >>= _) _ _ _
    refine wpAny_bind (W.item i s _ _ lt st fun v s' pv st' m => ?_)
    obtain ⟨kv, sv⟩ := hv i v pv ks[i] (List.getElem?_eq_getElem lt)
    have hS' : IsSetK prog w s'.heap a (ks.take i) := isSetK_but hS fun o ho => m.heap a o nw ho
    have l1 : (once (ks.take i)).length + 1 < scanBound := by
      have := once_len (ks.take i)
      rw [List.length_take] at this
      omega
    show wpAny _ _ (holding [v] (setAdd a v) >>= _) _ _ _
    refine wpAny_bind (wpAny_holding ?_)
    unfold setAdd
    refine wpAny_holding (wpAny_bind ((mixKind prog w).pyHash (k := ks[i]) kv (wpAny_setAddHashed_of (knd := mixKind prog w) (s := { s' with toks := s'.toks + 1 }) kv sv hS' l1 fun h2 sb hS2 => ?_)))
    have nx : IsSetK prog w h2 a (ks.take (i + 1)) := by
      rw [List.take_succ_eq_append_getElem lt]
      refine setK_eq hS2 (fun j => ?_) ?_
      · rw [once_snoc]
        split
        · rename_i z
          by_cases q : j = ks[i]
          · subst q; rw [z]; rfl
          · rw [decide_eq_false q, Bool.or_false]
        · rw [List.any_append]
          congr 1
          rw [List.any_cons, List.any_nil, Bool.or_false]
          by_cases q : j = ks[i]
          · rw [decide_eq_true q, decide_eq_true q.symm]
          · rw [decide_eq_false q, decide_eq_false (Ne.symm q)]
      · rw [once_snoc]
        split
        · rfl
        · rw [List.length_append]; rfl
    refine wpAny_pure ⟨plainId_quiet F.plain_set_update_loop _, ih (i + 1) _ (by omega) lt (W.frame _ s' _ _ st' (Nat.le_succ _) fun b z o e => ?_) nx fun s2 m2 hS3 => ?_⟩
    · rw [sb.2 b (fun q => ha (q ▸ z))]; exact e
    · refine hR s2 (.trans W.gtrans ((m.mono up).then_heap (Nat.le_succ _) fun b o z e => ?_) m2) hS3
      rw [sb.2 b (fun q => z (q ▸ List.mem_cons_self))]; exact e
end
theorem sub_tup_set : isSubtype (.type "tuple") (.type "set") = pure false := by
  rw [isSubtype_type]
  kernel_rfl
theorem sub_tup_fset : isSubtype (.type "tuple") (.type "frozenset") = pure false := by
  rw [isSubtype_type]
  kernel_rfl
section
variable {prog : Program} {w : World} {A : Around} {E : Value → Shared → Prop} {s : Shared}
/-- an empty set, as it is made -/
abbrev set0 (led : Bool) : Obj := { cls := .type "set", dict := none, data := .set #[] 0 (.fresh 0 0 led) }
theorem isSetK_0 {h : Heap} {a : Addr} {led : Bool} (e : h.get? a = some (set0 led)) : IsSetK prog w h a [] :=
  ⟨_, #[], 0, _, e, ⟨rfl, rfl, rfl⟩, rfl, fun x hx => (by simp at hx), fun k => (by simp [once]), by decide, by rfl, rfl⟩
set_option maxHeartbeats 4000000 in
/-- the update of a new set by a list or a tuple -/
theorem init_setK {l : Addr} {vs : List Value} {ks : List Key} {led : Bool} {c : Bool} (hh : A.handled = none) (hl : if c = true then s.heap.IsList l vs.toArray else s.heap.IsTuple l vs.toArray) (hn : vs.length = ks.length)
    (hk : ∀ (i : Nat) v, vs[i]? = some v → ∀ k, ks[i]? = some k → keyIs k v = true ∧ v.scannable = true) (hb : ks.length + 1 < scanBound) {R : Fin → Shared → Prop}
    (h : ∀ h' tk, IsSetK prog w h' s.heap.objs.size ks → (∀ b o, b < s.heap.objs.size → s.heap.get? b = some o → h'.get? b = some o) → R (.done (.ret .none)) { s with heap := h', toks := tk }) :
    wpAny (model prog w) A (Builtin.«set.__init__» ⟨[.ref s.heap.objs.size, .ref l], []⟩) R E { s with heap := s.heap.push (set0 led) } := by
  have hS : (s.heap.push (set0 led)).get? s.heap.objs.size = some (set0 led) := Heap.get?_push_size _ rfl
  have hT : Shared.TypeIs { s with heap := s.heap.push (set0 led) } (.ref s.heap.objs.size) "set" := ⟨_, hS, rfl⟩
  have vget : ∀ (i : Nat) v, vs.toArray[i]? = some v → ∀ k, ks[i]? = some k → keyIs k v = true ∧ v.scannable = true := fun i v e => hk i v (by simpa using e)
  have sz : vs.toArray.size = ks.length := by rw [List.size_toArray]; exact hn
  have hS2 : ∀ o : Obj, ((s.heap.push (set0 led)).push o).get? s.heap.objs.size = some (set0 led) := fun o => Heap.get?_push_of_some _ hS
  have lS : ∀ {x : Obj}, s.heap.get? l = some x → l < s.heap.objs.size := fun e => Heap.lt_size e
  have neI : s.heap.objs.size ≠ (s.heap.push (set0 led)).objs.size := by rw [Heap.size_push]; omega
  have fin : ∀ (s' : Shared) (o : Obj), Moved (s.heap.objs.size :: [(s.heap.push (set0 led)).objs.size]) (fun a b => b = a) { s with heap := (s.heap.push (set0 led)).push o } s' → IsSetK prog w s'.heap s.heap.objs.size ks → R (.done (.ret .none)) s' := fun s' o m q => by
    obtain ⟨h', g', d', tk', os'⟩ := s'
    cases (show g' = s.gens from m.gens)
    cases (show d' = s.drawn from m.drawn)
    cases (show os' = s.os from m.os)
    refine h h' tk' q fun b o hb e => m.heap b o (fun z => ?_) (Heap.get?_push_of_some _ (Heap.get?_push_of_some _ e))
    rw [Heap.size_push] at z
    have z' : b = s.heap.objs.size ∨ b = s.heap.objs.size + 1 := by simpa using z
    have hb' : (b : Nat) < s.heap.objs.size := hb
    rcases z' with z' | z'
    · exact absurd z' (Nat.ne_of_lt hb')
    · exact absurd z' (Nat.ne_of_lt (Nat.lt_succ_of_lt hb'))
  cases c with
  | true =>
    have hl' : s.heap.IsList l vs.toArray := hl
    obtain ⟨⟨oc, od, oo, os⟩, e1, rfl, n, rfl⟩ := hl'
    have e2 : (s.heap.push (set0 led)).get? l = some ⟨.type "list", od, .seq vs.toArray n, os⟩ := Heap.get?_push_of_some _ e1
    have q1 := PySem.F.sub_list_set
    have q2 := PySem.F.sub_list_frozenset
    have q3 : (Value.type "list" == Value.type "dict") = false := by decide
    have l1 : (s.heap.push (set0 led)).IsList l vs.toArray := ⟨_, e2, rfl, n, rfl⟩
    unfold Builtin.«set.__init__» noKeywords Builtin.Frozenset.updateFrom
    generalize hPI : pyIter = PI
    wp_walk
    subst hPI
    have ll := lS e1
    refine wpAny_pyIter_list l1 (wpAny_bind (wpAny_runValue ?_))
    have ne1 : l ≠ (s.heap.push (set0 led)).objs.size := by rw [Heap.size_push]; exact Nat.ne_of_lt (Nat.lt_succ_of_lt ll)
    refine fill_set (a := s.heap.objs.size) (ks := ks) (sz ▸ (Walks.list (by simpa using hh) _ l ne1 vs.toArray).toS) ?_ vget hb (ks.length - 0) 0 _ rfl (Nat.zero_le _) ⟨⟨_, Heap.get?_push_size _ rfl, rfl, rfl⟩, l1.push _⟩ (isSetK_0 (hS2 _)) fun s' m q => ?_
    · intro z
      have z' : s.heap.objs.size = (s.heap.push (set0 led)).objs.size ∨ s.heap.objs.size = l := by simpa using z
      rcases z' with z' | z'
      · exact neI z'
      · exact absurd z' (Nat.ne_of_gt ll)
    · exact wpAny_pure (wpAny_pure (fin s' _ m q))
  | false =>
    have hl' : s.heap.IsTuple l vs.toArray := hl
    obtain ⟨⟨oc, od, oo, os⟩, e1, rfl, n, rfl⟩ := hl'
    have e2 : (s.heap.push (set0 led)).get? l = some ⟨.type "tuple", od, .seq vs.toArray n, os⟩ := Heap.get?_push_of_some _ e1
    have q1 := sub_tup_set
    have q2 := sub_tup_fset
    have q3 : (Value.type "tuple" == Value.type "dict") = false := by decide
    have l1 : (s.heap.push (set0 led)).IsTuple l vs.toArray := ⟨_, e2, rfl, n, rfl⟩
    unfold Builtin.«set.__init__» noKeywords Builtin.Frozenset.updateFrom
    generalize hPI : pyIter = PI
    wp_walk
    subst hPI
    have ll := lS e1
    refine wpAny_pyIter_tuple l1 (wpAny_bind (wpAny_runValue ?_))
    have ne1 : l ≠ (s.heap.push (set0 led)).objs.size := by rw [Heap.size_push]; exact Nat.ne_of_lt (Nat.lt_succ_of_lt ll)
    refine fill_set (a := s.heap.objs.size) (ks := ks) (sz ▸ (Walks.tuple (by simpa using hh) _ l ne1 vs.toArray).toS) ?_ vget hb (ks.length - 0) 0 _ rfl (Nat.zero_le _) ⟨⟨_, Heap.get?_push_size _ rfl, rfl, rfl⟩, l1.at fun o e => Heap.get?_push_of_some _ e⟩ (isSetK_0 (hS2 _)) fun s' m q => ?_
    · intro z
      have z' : s.heap.objs.size = (s.heap.push (set0 led)).objs.size ∨ s.heap.objs.size = l := by simpa using z
      rcases z' with z' | z'
      · exact neI z'
      · exact absurd z' (Nat.ne_of_gt ll)
    · exact wpAny_pure (wpAny_pure (fin s' _ m q))
set_option maxHeartbeats 4000000 in
theorem call_setK {l : Addr} {vs : List Value} {ks : List Key} {c : Bool} {Q : Value → Shared → Prop} (hh : A.handled = none) (hl : if c = true then s.heap.IsList l vs.toArray else s.heap.IsTuple l vs.toArray) (hn : vs.length = ks.length)
    (hk : ∀ (i : Nat) v, vs[i]? = some v → ∀ k, ks[i]? = some k → keyIs k v = true ∧ v.scannable = true) (hb : ks.length + 1 < scanBound)
    (h : ∀ h' tk, IsSetK prog w h' s.heap.objs.size ks → (∀ b o, b < s.heap.objs.size → s.heap.get? b = some o → h'.get? b = some o) → Q (.ref s.heap.objs.size) { s with heap := h', toks := tk }) :
    wpAny (model prog w) A (call (.type "set") [.ref l]) Q E s := by
  have T := PySem.F.called_set
  obtain ⟨_, _, t0⟩ := T.mro
  have t1 := T.notType
  have t2 := T.canCreate
  have t3 := T.made
  have t4 := T.sub
  have t5 := PySem.F.typeCall_set_1 (.ref l)
  refine wpAny_call (codeAny_of_tree ?_)
  show wpAny _ _ (callAny (Value.type "set") _) _ _ s
  refine wpAny_pure ⟨Code.quiet_builtin _ (by decide +kernel), codeAny_builtin PySem.F.entry_type_call ?_⟩
  rw [A.under_plain (weight_type_call_type "set" [Value.ref l] []) rfl]
  repeat (any_goals first | assumption | wp_step)
  refine codeAny_mono (code_set_new_1 (.ref l) (E := E) (Q₁ := fun v s1 => ∃ led, v = .ref s.heap.objs.size ∧ s1 = { s with heap := s.heap.push (set0 led) }) fun led => ⟨led, rfl, rfl⟩) fun r s1 hr => ?_
  cases r with
  | error e => exact hr
  | ok f =>
    cases f with
    | ret v =>
      obtain ⟨led, rfl, rfl⟩ := hr
      have hT : Shared.TypeIs { s with heap := s.heap.push (set0 led) } (.ref s.heap.objs.size) "set" := ⟨_, Heap.get?_push_size _ rfl, rfl⟩
      have t6 := T.init.lookup
      have t7 := T.init.bind (.ref s.heap.objs.size)
      repeat (any_goals first | assumption | wp_step)
      refine codeAny_mono (codeAny_call_builtin (R := wants (fun v s2 => v = .none ∧ ∃ h' tk, s2 = { s with heap := h', toks := tk } ∧ IsSetK prog w h' s.heap.objs.size ks ∧ ∀ b o, b < s.heap.objs.size → s.heap.get? b = some o → h'.get? b = some o) E) T.init.plain PySem.F.entry_set_init (check_set_init_1 hT ?_)) fun r2 s2 hr2 => ?_
      · exact init_setK (by simpa using hh) hl hn hk hb fun h' tk q kp => ⟨rfl, h', tk, rfl, q, kp⟩
      · cases r2 with
        | error e => exact hr2
        | ok f =>
          cases f with
          | ret v =>
            obtain ⟨rfl, h', tk, rfl, q, kp⟩ := hr2
            repeat (any_goals first | assumption | wp_step)
            exact h _ _ q kp
          | _ => exact hr2.elim
    | _ => exact hr.elim
end
/-! ### in the layer -/
theorem boot_ty_set : bootBuiltins "set" = some (.type "set") := by decide +kernel
def rSetLen (K : PySem.W.Frag) (x : V) (H : Hp) (Q : VK) : Prop := ∃ a ks, x = .ref a ∧ (SqL K H a (ks.map keyV) ∨ SqT K H a (ks.map keyV)) ∧ ks.length ≤ 4000 ∧ Q (.int ((once ks).length : Nat)) H
def tSetLen (K : PySem.W.Frag) (te : TE) : TE := fun σ H Q => te σ H fun x H1 => rSetLen K x H1 Q
section
variable {X : Cx} {K : PySem.W.Frag} {e : Expr} {te : TE} {p1 p2 p3 p4 : Pos}
theorem vals_keys : ∀ {ks : List Key} {us : List Value}, Vals (ks.map keyV) us → us.length = ks.length ∧ ∀ (i : Nat) v, us[i]? = some v → ∀ k, ks[i]? = some k → keyIs k v = true ∧ v.scannable = true
  | [], _, .nil => ⟨rfl, fun i v e => by simp at e⟩
  | k :: r, _, .cons h t => by
    obtain ⟨a, b⟩ := vals_keys (ks := r) t
    refine ⟨by simp [a], fun i v e j f => ?_⟩
    cases i with
    | zero =>
      simp at e f
      subst e f
      exact keyV_is h
    | succ i => exact b i v (by simpa using e) j (by simpa using f)
theorem len_setK {A : Around} {E : Value → Shared → Prop} {s : Shared} {prog : Program} {w : World} {a : Addr} {ks : List Key} {Q : Value → Shared → Prop} (H : IsSetK prog w s.heap a ks) (hb : ks.length ≤ 4000) (h : Q (.int ((once ks).length : Nat) (s.toks + 1)) { s with toks := s.toks + 1 + 1 }) :
    wpAny (model prog w) A (call (.builtin "len") [.ref a]) Q E s := by
  obtain ⟨o, es, ep, t, ho, hx, hd, _, _, hlt, hf, hn⟩ := H
  have := once_len ks
  refine PySem.call_len_set ho hx hd hf (by omega) ?_
  rw [hn]; exact h
theorem pe_setLen (he : PE X e te) (hc : X.calm = true) (hg1 : Gl X "len") (hm1 : X.mg "len" = none) (hg2 : Gl X "set") (hm2 : X.mg "set" = none) (ek : X.K = K := by rfl) (hs : notStar e = true := by rfl) :
    PE X (.Call (.Name "len" p1) [.Call (.Name "set" p2) [e] [] p3] [] p4) (tSetLen K te) := by
  subst ek
  intro pins s σ H Q I h
  refine wpAny_Call_Name_kw (ld_blt I hg1 hm1 boot_b_len ?_ (by decide) (by decide))
  refine PyProof.Rows.callWith_builtin1 ?_ (star_cons rfl) rfl
  refine Calls.spliced_cons ?_
  refine wpAny_Call_Name_kw (ld_blt I hg2 hm2 boot_ty_set ?_ (by decide) (by decide))
  refine PyProof.Rows.callWith_type1 ?_ (star_cons hs) rfl
  refine thn (pa_c he pa_nil hs p3 pins s σ H (fun xs H1 => match xs with | [x] => rSetLen X.K x H1 Q | _ => False) I h) fun us s1 ⟨vs, H1, I1, r1, q1⟩ => ?_
  match vs, r1, q1 with
  | [x], r1, q1 =>
  obtain ⟨u, rfl, ru⟩ := vals1 r1
  obtain ⟨a, ks, rfl, hq, hz, q⟩ := q1
  cases ru
  have go : ∀ (its : List Value) (c : Bool), Vals (ks.map keyV) its → (if c = true then s1.heap.IsList a its.toArray else s1.heap.IsTuple a its.toArray) → wpAny (model X.prog X.w) X.A (call (.type "set") [.ref a]) (fun v s2 => wpAny (model X.prog X.w) X.A (call (.builtin "len") [v]) (EP X pins σ Q) X.xe s2) X.xe s1 := fun its c rv hl => by
    obtain ⟨z1, z2⟩ := vals_keys rv
    refine call_setK (I1.ok.hd hc) hl z1 z2 (by show ks.length + 1 < 4096; omega) fun h' tk S kp => ?_
    have I2 : Inv X pins σ H1 { s1 with heap := h', toks := tk } := I1.kept fun b o e => kp b o (Heap.lt_size e) e
    exact len_setK (s := { s1 with heap := h', toks := tk }) S hz ⟨.int _, H1, I2.tok _, ⟨_, rfl⟩, q⟩
  have fin := fun (v : Value) (s2 : Shared) (z : wpAny (model X.prog X.w) X.A (call (.builtin "len") [v]) (EP X pins σ Q) X.xe s2) => (Calls.spliced_nil z : wpAny (model X.prog X.w) X.A (spliced []) (fun vs s3 => wpAny (model X.prog X.w) X.A (call (.builtin "len") (v :: vs)) (EP X pins σ Q) X.xe s3) X.xe s2)
  rcases hq with hq | hq
  · obtain ⟨its, rv, p, _⟩ := I1.list hq
    exact thn (go its true rv p.isList) fun v s2 z => fin v s2 z
  · obtain ⟨its, rv, p, _⟩ := I1.tuple hq
    exact thn (go its false rv p) fun v s2 z => fin v s2 z
end
end L2

namespace L2
open PySem PySem.Spec PyProof.Rows
/-! ### the same rules with K named: the readings stay small -/
section
variable {X : Cx} {K : PySem.W.Frag} {o e : Expr} {es : List Expr} {to : TE} {t : TA} {name : Str} {apos cpos : Pos} {T id : String} {r : V → List V → Hp → VK → Prop}
theorem pe_bm_k (pa : PlainAttrs T) (slot : Slot T name id) (hty : typeOf (.builtin id) = pure (.type "method_descriptor")) (hm : MtR X id r) (ho : PE X o to) (ha : PA X (e :: es) t) (ek : X.K = K := by rfl)
    (h1 : attributeBase o name X.env (eval o X.env) = eval o X.env := by rfl)
    (h2 : ((backTo cpos (starEach (e :: es) X.env)).all (fun x => !x.1) && (backToKw cpos (keywordEach [] X.env)).all (fun x => x.1.isSome) && decide ((e :: es).length + ([] : List Keyword).length + (if ([] : List Keyword).isEmpty then 0 else 1) < 30)) = true := by rfl)
    (h3 : (apos.endLine == cpos.line) = true := by rfl) (h4 : starEach (e :: es) X.env = (false, eval e X.env) :: starEach es X.env := by rfl) (h5 : (backTo cpos (starEach es X.env)).any (·.1) = false := by rfl) :
    PE X (.Call (.Attribute o name apos) (e :: es) [] cpos) (tBM K T r to t) := by
  subst ek
  exact pe_bm pa slot hty hm ho ha h1 h2 h3 h4 h5
end
end L2
namespace L2
/-! ### what comes behind a statement, hidden: the proofs stay small -/
theorem seqH {t u : TS} {D : Ends} {σ : St} {H : Hp} (h : ∀ D' : Ends, (∀ σ' H', u D σ' H' → D'.nx σ' H') → t D' σ H) : tSeq t u D σ H := h { D with nx := u D } fun _ _ z => z
theorem bodyH {t : TS} {D : Ends} {σ : St} {H : Hp} (h : ∀ D' : Ends, (∀ σ' H', D.nx σ' H' → D'.nx σ' H') → t D' σ H) : t D σ H := h D fun _ _ z => z
end L2

namespace L2
open PySem PySem.Spec PyProof.Rows
/-! ### in, not in, count, by data -/
def seqOf : PyData → Option (List PyData)
  | .list xs => some xs
  | .tuple xs => some xs
  | _ => none
theorem wtL_of {e : PyData} {xs : List PyData} {n l : Nat} (h : Wt e n l) (s : seqOf e = some xs) : ∃ m k, WtL xs m k ∧ k + 1 = l := by
  cases h <;> simp [seqOf] at s
  all_goals
    rename_i w
    subst s
    exact ⟨_, _, w, rfl⟩
section
variable {X : Cx}
def rInD (ng : Bool) : R2 := fun x y H Q => ∃ (d e : PyData) (E F : Addr → Prop) (m n k l : Nat) (xs : List PyData), IsD E H x d ∧ IsD F H y e ∧ Wt d m k ∧ Wt e n l ∧ l ≤ 60 ∧ seqOf e = some xs ∧ Q (.bl (if ng then !xs.any (fun z => PyData.eqv z d) else xs.any (fun z => PyData.eqv z d))) H
theorem op_notInD (hu : X.A.units + 64 < cLine) : OpR X (compareOp .NotIn) (rInD true) := by
  intro pins s σ H x y v u Q I rx ry h
  obtain ⟨d, e, E, F, m, n, k, l, xs, hd, he, wd, we, hl, hs, q⟩ := h
  obtain ⟨as, ra⟩ := hd.reads I.hok rx
  obtain ⟨bs, rb⟩ := he.reads I.hok ry
  obtain ⟨m', k', wl, ek⟩ := wtL_of we hs
  have dl := wl.dep
  cases e <;> simp [seqOf] at hs
  · subst hs
    exact PySem.SeqAt.notIn_list_reads rb ra wl.can wd.can (by omega) ⟨.bl _, H, I, rfl, q⟩
  · subst hs
    exact PySem.SeqAt.notIn_tuple_reads rb ra wl.can wd.can (by omega) ⟨.bl _, H, I, rfl, q⟩
def rCount : V → List V → Hp → VK → Prop := fun x vs H Q => ∃ (y : V) (d e : PyData) (E F : Addr → Prop) (m n k l : Nat) (xs : List PyData), vs = [y] ∧ IsD E H y d ∧ IsD F H x e ∧ Wt d m k ∧ Wt e n l ∧ l ≤ 60 ∧ seqOf e = some xs ∧ Q (.int ((xs.countP fun z => PyData.eqv z d) : Nat)) H
theorem count_by {h : Heap} {vs : Array Value} {xs : List PyData} {as : List Addr} {d : PyData} (rs : ReadsAll h vs.toList xs as) (hc : PyData.canLayAll0 xs = true) : vs.toList.countP (fun y => PyData.eqv (PySem.SeqAt.readOf h y) d) = xs.countP fun z => PyData.eqv z d := by
  rw [← PySem.SeqAt.readsAll_map xs _ _ hc rs, List.countP_map]
  rfl
theorem mt_countT (hu : X.A.units + 64 < cLine) : MtR X "tuple.count" (fun x vs H Q => (∃ a zs, x = .ref a ∧ H a = some (.tup zs)) ∧ rCount x vs H Q) := by
  intro pins s σ H x vs v us Q I rx rv h
  obtain ⟨⟨a, zs, rfl, ha⟩, y, d, e, E, F, m, n, k, l, xs, rfl, hd, he, wd, we, hl, hs, q⟩ := h
  obtain ⟨u, rfl, ru⟩ := rv.one
  obtain ⟨as, ra⟩ := hd.reads I.hok ru
  obtain ⟨bs, rb⟩ := he.reads I.hok rx
  obtain ⟨m', k', wl, ek⟩ := wtL_of we hs
  have dl := wl.dep
  cases he with
  | tup h1 h2 =>
    simp [seqOf] at hs
    subst hs
    cases rb with
    | @tuple _ o vs n' _ _ g1 g2 g3 g4 =>
      obtain ⟨oc, od, oo, os⟩ := o
      simp only at g2 g3
      subst g2 g3
      refine PySem.call_meets PySem.F.slot_tuple_count ⟨_, g1, rfl⟩ PySem.F.entry_tuple_count (PySem.F.args_tuple_count_2 _ _) (PySem.SeqAt.tuple_countAt _ vs n' od os u _) ⟨g1, PySem.SeqAt.items_eqAt g4 ra wl.can wd.can ?_, ?_⟩
      · omega
      · rw [count_by g4 wl.can]
        exact ⟨.int _, H, I.tok _, ⟨_, rfl⟩, q⟩
  | lst h1 h2 h3 => rw [ha] at h1; cases h1
end
end L2

namespace L2
open PySem PySem.Spec PyProof.Rows
/-! ### comprehensions that change nothing old: a list of what f tells of each number -/
section
variable {K : PySem.W.Frag} {a a1 a2 D : Addr} {H1 : Hp} {σc : St} {g : TG} {te : TE} {tt : TT} {Q : VK} {xs ys : List V}
theorem map_range_snoc {α : Type} (f : Nat → α) (i : Nat) : (List.range i).map f ++ [f i] = (List.range (i + 1)).map f := by
  rw [List.range_succ, List.map_append]; rfl
theorem map_range_get {α β : Type} (f : Nat → β) (h : α → β) (l : List α) (e : ∀ (i : Nat) (x : α), l[i]? = some x → f i = h x) : (List.range l.length).map f = l.map h := by
  apply List.ext_getElem?
  intro i
  rw [List.getElem?_map, List.getElem?_map]
  by_cases hi : i < l.length
  · rw [List.getElem?_range hi, List.getElem?_eq_getElem hi]
    show some (f i) = some (h l[i])
    rw [e i l[i] (List.getElem?_eq_getElem hi)]
  · rw [List.getElem?_eq_none (by simp; omega), List.getElem?_eq_none (by omega)]; rfl
/-- any iterator J of n turns over things that stay -/
theorem comp_mapJ {J : It} {n : Nat} (f : Nat → V) (hz : n ≤ 10000) (hD : H1 D = none) (hgo : ∀ i H', i < n → Same H1 H' → J.go i H') (hst : ∀ H', Same H1 H' → J.stop n H')
    (hs : ∀ i x H' H'' (R : VK), i < n → Same H1 H' → J.yld i H' x H'' → (∀ H4, Same H' H4 → R (f i) H4) → g x σc H'' fun σ2 H2 => Back σc σ2 ∧ te σ2 H2 R)
    (hd : ∀ H', Same H1 H' → H' D = some (.lst ((List.range n).map f)) → Q (.ref D) H') : CompW J σc g tT te D H1 Q := by
  refine comp_each (n := n) (fun i H' zs => zs = (List.range i).map f ∧ H' D = some (.lst zs) ∧ Same H1 H') (sz_of hz) ⟨rfl, upd_same, same_lst hD (Same.refl _)⟩ ?_ ?_ ?_ ?_ ?_
  · rintro i H' zs ⟨rfl, q, _⟩
    exact ⟨q, by simp⟩
  · rintro i H' zs hi ⟨_, _, sm⟩
    exact hgo i H' hi sm
  · rintro H' zs ⟨_, _, sm⟩
    exact hst H' sm
  · rintro i H' zs x H'' hi ⟨rfl, q, sm⟩ y
    exact hs i x H' H'' _ hi sm y fun H4 s4 => ⟨s4 _ _ q, map_range_snoc f i, upd_same, same_lst hD (sm.trans s4)⟩
  · rintro H' zs ⟨rfl, q, sm⟩
    exact hd H' sm q
theorem comp_mapL (f : Nat → V) (hz : xs.length ≤ 10000) (hD : H1 D = none) (ha : H1 a = some (.lst xs))
    (hs : ∀ i x H' (R : VK), xs[i]? = some x → Same H1 H' → (∀ H4, Same H' H4 → R (f i) H4) → g x σc H' fun σ2 H2 => Back σc σ2 ∧ te σ2 H2 R)
    (hd : ∀ H', Same H1 H' → H' D = some (.lst ((List.range xs.length).map f)) → Q (.ref D) H') : CompW (Itl K a) σc g tT te D H1 Q := by
  refine comp_mapJ (n := xs.length) f hz hD (fun i H' hi sm => ⟨xs, xs[i], SqL.of (sm _ _ ha), by simp [hi]⟩) (fun H' sm => ⟨xs, SqL.of (sm _ _ ha), Nat.le_refl _⟩) ?_ hd
  rintro i x H' H'' R hi sm ⟨rfl, ex⟩ k
  exact hs i x H'' R (ex _ (SqL.of (sm _ _ ha))) sm k
theorem comp_mapT (f : Nat → V) (hz : xs.length ≤ 10000) (hD : H1 D = none) (ha : H1 a = some (.tup xs))
    (hs : ∀ i x H' (R : VK), xs[i]? = some x → Same H1 H' → (∀ H4, Same H' H4 → R (f i) H4) → g x σc H' fun σ2 H2 => Back σc σ2 ∧ te σ2 H2 R)
    (hd : ∀ H', Same H1 H' → H' D = some (.lst ((List.range xs.length).map f)) → Q (.ref D) H') : CompW (Itt K a) σc g tT te D H1 Q := by
  refine comp_mapJ (n := xs.length) f hz hD (fun i H' hi sm => ⟨xs, xs[i], SqT.of (sm _ _ ha), by simp [hi]⟩) (fun H' sm => ⟨xs, SqT.of (sm _ _ ha), Nat.le_refl _⟩) ?_ hd
  rintro i x H' H'' R hi sm ⟨rfl, ex⟩ k
  exact hs i x H'' R (ex _ (SqT.of (sm _ _ ha))) sm k
end
end L2
namespace L2
/-! ### a test gone through once, whatever stands behind it -/
end L2

namespace L2
open PySem PySem.Spec PyProof.Rows
/-! ### the signs of a text, one by one -/
def Itst (x : Str) : It := ⟨fun i _ => i < x.cps.size, fun i H v H' => H' = H ∧ ∃ c, x.cps[i]? = some c ∧ v = .str ⟨#[c]⟩, fun i _ => i = x.cps.size⟩
theorem turn_strW {P : Program} {w : World} {K : PySem.W.Frag} {tg : Expr} {x : Str} {t : Tok} {T : String} (it : Addr) (hT : ["enumerate", "zip", "dict_itemiterator", "dict_reverseitemiterator", "odict_iterator", "itertools.zip_longest", "itertools.pairwise"].contains T = false)
    (W : ∀ A : Around, A.handled = none → Walks P w A it [it] [it] x.cps.size (SignAt x) (fun i h => h.IsStrIter it T x t i)) (S : ∀ (A : Around) (i : Nat) (s : Shared) (Q : Value → Shared → Prop) (E : Value → Shared → Prop), s.heap.IsStrIter it T x t i → Q (.ref it) s → wpAny (model P w) A (pyIter (.ref it)) Q E s) : Turn P w K tg (Itst x) [it] it (fun i h => h.IsStrIter it T x t i) where
  mem := by simp
  obj := fun i h st b hb => by
    obtain rfl : b = it := by simpa using hb
    obtain ⟨o, e, c, d⟩ := st
    exact ⟨o, e, fun v z => by rw [d] at z; cases z⟩
  keep := fun i h h' st k => by
    obtain ⟨o, e, r⟩ := st
    exact ⟨o, k it (by simp) o e, r⟩
  item := by
    intro X hP hw hK hc i pins s σ H E I hf st hg
    subst hP hw hK
    obtain ⟨f0, f1, f2, f3, f4, f5⟩ := hf it (by simp)
    refine (W X.A (I.ok.hd hc)).item i s _ E hg st fun v h' tk pv st' kp => ?_
    obtain ⟨c, u, hcx, rfl⟩ := pv
    have I1 : Inv X pins σ H { s with heap := h', toks := tk } := I.turned (t' := tk) (fun b o hb e => kp b o (by simpa using hb) e) f0 f1 f3 f4 f5
    obtain ⟨o, e, cl, d⟩ := id st'
    exact ⟨_, rfl, go_of (s := { s with heap := h', toks := tk }) e cl d hT ⟨.str ⟨#[c]⟩, H, I1, ⟨_, rfl⟩, ⟨rfl, c, hcx, rfl⟩, st', fun b hb => (hf b hb).1⟩⟩
  done := by
    intro X hP hw hK hc i pins s σ H E I hf st hg
    subst hP hw hK
    obtain ⟨f0, f1, f2, f3, f4, f5⟩ := hf it (by simp)
    have hg' : i = x.cps.size := hg
    subst hg'
    exact (W X.A (I.ok.hd hc)).done s _ E st fun h' tk kp => ⟨rfl, I.turned (t' := tk) (fun b o hb e => kp b o (by simpa using hb) e) f0 f1 f3 f4 f5⟩
  self := fun A i s Q E st h => S A i s Q E st h
section
variable {X : Cx} {tg : Expr}
def iStr (tl : TE) : TI := fun σ H R => tl σ H fun v H1 => ∃ x, v = .str x ∧ R (Itst x) H1
theorem pi_str {l : Expr} {tl : TE} (hl : PE X l tl) : PI X tg l (iStr tl) := by
  intro pins s σ H R I h
  refine thn (hl pins s σ H _ I h) fun v s1 ⟨y, H1, I1, r1, q1⟩ => ?_
  obtain ⟨x, rfl, q⟩ := q1
  obtain ⟨t, rfl⟩ := r1
  have fp : ∀ b ∈ [s1.heap.objs.size], FpOk X pins H1 b := fun b hb => by
    obtain rfl : b = s1.heap.objs.size := by simpa using hb
    exact I1.fpOk (Nat.le_refl _) (I1.hok.fresh (Nat.le_refl _))
  cases ha : x.cps.all (· < 128)
  · refine wpAny_pyIter_wide ha ⟨s1.heap.objs.size, [s1.heap.objs.size], _, _, H1, rfl, I1.kept (t' := s1.toks) fun b o e => Heap.get?_push_of_some _ e, turn_strW (T := "str_iterator") (x := x) (t := t) _ (by decide) (fun A' hA => Walks.strWide hA _ x t) (fun A i s Q E st h => wpAny_pyIter_striter_wide st h), ⟨_, Heap.get?_push_size _ rfl, rfl, rfl⟩, fp, q⟩
  · refine wpAny_pyIter_ascii ha ⟨s1.heap.objs.size, [s1.heap.objs.size], _, _, H1, rfl, I1.kept (t' := s1.toks) fun b o e => Heap.get?_push_of_some _ e, turn_strW (T := "str_ascii_iterator") (x := x) (t := t) _ (by decide) (fun A' hA => Walks.strAscii hA _ x t) (fun A i s Q E st h => wpAny_pyIter_striter_ascii st h), ⟨_, Heap.get?_push_size _ rfl, rfl, rfl⟩, fp, q⟩
/-- a list of what f tells of each sign -/
theorem comp_mapS {D : Addr} {H1 : Hp} {σc : St} {g : TG} {te : TE} {Q : VK} {l : List Nat} (f : Nat → V) (hz : l.length ≤ 10000) (hD : H1 D = none)
    (hs : ∀ (i c : Nat) (H' : Hp) (R : VK), l[i]? = some c → Same H1 H' → (∀ H4, Same H' H4 → R (f i) H4) → g (strV [c]) σc H' fun σ2 H2 => Back σc σ2 ∧ te σ2 H2 R)
    (hd : ∀ H', Same H1 H' → H' D = some (.lst ((List.range l.length).map f)) → Q (.ref D) H') : CompW (Itst (S l)) σc g tT te D H1 Q := by
  refine comp_mapJ (n := l.length) f hz hD (fun i H' hi sm => (by show i < (S l).cps.size; exact hi)) (fun H' sm => (by show l.length = (S l).cps.size; rfl)) ?_ hd
  rintro i x H' H'' R hi sm ⟨rfl, c, ec, rfl⟩ k
  exact hs i c H'' R (by simpa [S] using ec) sm k
/-! ### texts held against one another -/
def rLeS : R2 := fun x y H Q => ∃ a b : Str, x = .str a ∧ y = .str b ∧ Q (.bl (!decide (b.cps.toList < a.cps.toList))) H
theorem op_leS : OpR X (compareOp .LtE) rLeS := by
  intro pins s σ H x y v u Q I rx ry h
  obtain ⟨a, b, rfl, rfl, q⟩ := h
  obtain ⟨t, rfl⟩ := rx
  obtain ⟨t', rfl⟩ := ry
  exact PySem.P.le_str ⟨.bl _, H, I, rfl, q⟩
def rInS : R2 := fun x y H Q => ∃ a b : Str, x = .str b ∧ y = .str a ∧ Q (.bl (!(Builtin.Str.occurrences a b 0 a.length 1).isEmpty)) H
theorem op_inS : OpR X (compareOp .In) rInS := by
  intro pins s σ H x y v u Q I rx ry h
  obtain ⟨a, b, rfl, rfl, q⟩ := h
  obtain ⟨t, rfl⟩ := rx
  obtain ⟨t', rfl⟩ := ry
  exact PySem.P.in_str ⟨.bl _, H, I, rfl, q⟩
def rLenS : List V → Hp → VK → Prop := fun xs H Q => ∃ x : Str, xs = [.str x] ∧ x.length ≤ 10000 ∧ Q (.int x.length) H
theorem call_lenS : CallR X (.builtin "len") rLenS := by
  intro pins s σ H xs us Q I r h
  obtain ⟨x, rfl, hz, q⟩ := h
  obtain ⟨u, rfl, t, rfl⟩ := vals1 r
  exact PySem.P.len_str (by omega) ⟨.int _, H, I.tok _, ⟨_, rfl⟩, q⟩
/-! ### str of any data -/
def strOf : PyData → Str
  | .str x => x
  | .int i => toString i
  | .bool b => if b then "True" else "False"
  | .none => "None"
  | d => d.shown
def rStrD : List V → Hp → VK → Prop := fun xs H Q => ∃ (x : V) (d : PyData) (E : Addr → Prop) (n k : Nat), xs = [x] ∧ IsD E H x d ∧ Wt d n k ∧ n ≤ 5500 ∧ k ≤ 50 ∧ Q (.str (strOf d)) H
theorem call_strD {k : Nat} (hr : Room k X.A) : CallR X (.type "str") rStrD := by
  intro pins s σ H xs us Q I r h
  obtain ⟨x, d, E, n, kk, rfl, hd, wd, hn, hk, q⟩ := h
  cases hd with
  | non =>
    obtain ⟨u, rfl, ru⟩ := r.one
    cases ru
    exact PySem.P.str_of_none ⟨.str _, H, I.tok _, ⟨_, rfl⟩, q⟩
  | bl b =>
    obtain ⟨u, rfl, ru⟩ := r.one
    cases ru
    refine PySem.P.str_of_bool ⟨.str (strOf (.bool b)), H, I.tok _, ?_, q⟩
    cases b
    · exact ⟨_, rfl⟩
    · exact ⟨_, rfl⟩
  | int i =>
    obtain ⟨u, rfl, t, rfl⟩ := vals1 r
    refine PySem.P.str_of_int ?_ ⟨.str _, H, I.tok _, ⟨_, rfl⟩, q⟩
    cases wd with
    | int h =>
      by_cases h0 : i = 0
      · subst h0; decide
      · exact Nat.lt_of_lt_of_le (h.log h0) (by decide)
  | str y =>
    obtain ⟨u, rfl, t, rfl⟩ := vals1 r
    exact PySem.P.str_of_str ⟨.str _, H, I, ⟨_, rfl⟩, q⟩
  | @lst a xs ds h ne rr => exact call_strW hr pins s σ H _ us Q I r ⟨a, .list ds, E, n, kk, rfl, .lst h ne rr, wd, hn, hk, q⟩
  | @tup a xs ds h rr => exact call_strW hr pins s σ H _ us Q I r ⟨a, .tuple ds, E, n, kk, rfl, .tup h rr, wd, hn, hk, q⟩
/-! ### t + u of tuples, t not empty -/
def rCatTA (K : PySem.W.Frag) : R2 := fun x y H Q => ∃ a b xs ys, x = .ref a ∧ y = .ref b ∧ SqT K H a xs ∧ H a = some (.tup xs) ∧ SqT K H b ys ∧ xs ≠ [] ∧ xs.length + ys.length ≤ 10000 ∧ ∀ p H', Same H H' → H' p = some (.tup (xs ++ ys)) → Q (.ref p) H'
theorem op_catTA {K : PySem.W.Frag} (e : X.K = K := by rfl) : OpR X (binaryOp .Add) (rCatTA K) := by
  subst e
  intro pins s σ H x y v u Q I rx ry h
  obtain ⟨a, b, xs, ys, e1, e2, ha, ha', hb, hx, hz, q⟩ := h
  refine op_catT pins s σ H x y v u Q I rx ry ⟨a, b, xs, ys, e1, e2, ha, hb, hx, sz_of hz, fun z => ?_, fun z p hp => q p _ (Same.new hp) upd_same⟩
  refine q a H (Same.refl _) ?_
  rw [z, List.append_nil]; exact ha'
end
end L2
namespace L2
open PySem PySem.Spec PyProof.Rows
/-! ### a method of a tuple -/
section
variable {X : Cx} {K : PySem.W.Frag} {o e : Expr} {es : List Expr} {to : TE} {t : TA} {name : Str} {apos cpos : Pos} {id : String} {r : V → List V → Hp → VK → Prop}
def tBMT (r : V → List V → Hp → VK → Prop) (to : TE) (t : TA) : TE := fun σ H Q => to σ H fun x H1 => (∃ p xs, x = .ref p ∧ H1 p = some (.tup xs)) ∧ t σ H1 fun xs H2 => r x xs H2 Q
theorem pe_bmT (pa : PlainAttrs "tuple") (slot : Slot "tuple" name id) (hty : typeOf (.builtin id) = pure (.type "method_descriptor")) (hm : MtR X id r) (ho : PE X o to) (ha : PA X (e :: es) t)
    (h1 : attributeBase o name X.env (eval o X.env) = eval o X.env := by rfl)
    (h2 : ((backTo cpos (starEach (e :: es) X.env)).all (fun x => !x.1) && (backToKw cpos (keywordEach [] X.env)).all (fun x => x.1.isSome) && decide ((e :: es).length + ([] : List Keyword).length + (if ([] : List Keyword).isEmpty then 0 else 1) < 30)) = true := by rfl)
    (h3 : (apos.endLine == cpos.line) = true := by rfl) (h4 : starEach (e :: es) X.env = (false, eval e X.env) :: starEach es X.env := by rfl) (h5 : (backTo cpos (starEach es X.env)).any (·.1) = false := by rfl) :
    PE X (.Call (.Attribute o name apos) (e :: es) [] cpos) (tBMT r to t) := by
  intro pins s σ H Q I h
  refine wpAny_Call_method_late h1 h2 h3 rfl (thn (ho pins s σ H _ I h) fun v s1 ⟨x, H1, I1, r1, ty, q1⟩ => ?_)
  obtain ⟨p, xs, rfl, hp⟩ := ty
  cases r1
  obtain ⟨_, its, rv, ⟨ob, g1, g2, n, g3⟩, od, g4, g5⟩ := (show ObjOk X.prog X.w H1 s1.heap p (.tup xs) from I1.hok p _ hp)
  refine ⟨"tuple", id, pa, slot, hty, ⟨ob, g1, g2⟩, fun a z => ?_, ?_⟩
  · cases z
    exact ⟨od, g4, g5⟩
  · have hA := ha cpos pins s1 σ H1 _ I1 q1
    rw [h4] at hA ⊢
    have pl : (false || (backTo cpos (starEach es X.env)).any (·.1)) = false := by rw [h5]; rfl
    exact Calls.callWith_builtin pl (Calls.evalArgs_plain (thn hA fun us s2 ⟨ys, H2, I2, r2, q2⟩ => hm pins s2 σ H2 (.ref p) ys (.ref p) us Q I2 rfl r2 q2))
end
end L2

set_option maxHeartbeats 4000000

namespace K04
open PySem L2
def top (i : Nat) : Stmt := PySem.Challenge.pw_gainroads_k04_what_a_net_is.main.body.getD i (.Pass ⟨0, 0, 0, 0⟩)
abbrev s_is_number : Stmt := top 1
abbrev s_common_divisor : Stmt := top 2
abbrev s_is_fraction : Stmt := top 3
abbrev s_is_from_nought : Stmt := top 4
abbrev s_is_above_nought : Stmt := top 5
abbrev s_is_name : Stmt := top 7
abbrev s_are_names : Stmt := top 8
abbrev s_is_tie : Stmt := top 9
abbrev s_is_net : Stmt := top 10
abbrev s_l_box_of : Stmt := top 12
abbrev s_l_take : Stmt := top 13
abbrev s_l_folded : Stmt := top 14
abbrev s_l_lowest : Stmt := top 15
abbrev s_l_names_by : Stmt := top 16
abbrev s_l_gain_by : Stmt := top 17
abbrev s_l_most_by : Stmt := top 18
abbrev s_l_price_by : Stmt := top 19
abbrev s_l_tie_by : Stmt := top 20
abbrev s_l_net_by : Stmt := top 21
abbrev s_l_is_number : Stmt := top 22
abbrev s_l_is_fraction : Stmt := top 23
abbrev s_l_is_much : Stmt := top 24
abbrev s_l_is_name : Stmt := top 25
abbrev s_l_paths_to : Stmt := top 26
abbrev s_l_bent_part : Stmt := top 27
abbrev s_l_with : Stmt := top 28
abbrev s_l_spoilt : Stmt := top 29
abbrev s_l_is_tie : Stmt := top 30
abbrev s_l_due : Stmt := top 31
abbrev s_l_asked : Stmt := top 32
abbrev s_law : Stmt := top 33
theorem sc_is_number : FnScope ["thing"] ["thing"] (defScope s_is_number) := ⟨rfl, rfl, rfl, by decide +kernel, rfl, by decide +kernel, by decide +kernel⟩
theorem sc_common_divisor : FnScope ["n", "d"] ["n", "d"] (defScope s_common_divisor) := ⟨rfl, rfl, rfl, by decide +kernel, rfl, by decide +kernel, by decide +kernel⟩
theorem sc_is_fraction : FnScope ["thing", "n", "d"] ["thing"] (defScope s_is_fraction) := ⟨rfl, rfl, rfl, by decide +kernel, rfl, by decide +kernel, by decide +kernel⟩
theorem sc_is_from_nought : FnScope ["thing"] ["thing"] (defScope s_is_from_nought) := ⟨rfl, rfl, rfl, by decide +kernel, rfl, by decide +kernel, by decide +kernel⟩
theorem sc_is_above_nought : FnScope ["thing"] ["thing"] (defScope s_is_above_nought) := ⟨rfl, rfl, rfl, by decide +kernel, rfl, by decide +kernel, by decide +kernel⟩
theorem sc_is_name : FnScope ["thing"] ["thing"] (defScope s_is_name) := ⟨rfl, rfl, rfl, by decide +kernel, rfl, by decide +kernel, by decide +kernel⟩
theorem sc_are_names : FnScope ["thing"] ["thing"] (defScope s_are_names) := ⟨rfl, rfl, rfl, by decide +kernel, rfl, by decide +kernel, by decide +kernel⟩
theorem sc_is_tie : FnScope ["places", "thing", "begin", "end", "most", "gain", "price"] ["places", "thing"] (defScope s_is_tie) := ⟨rfl, rfl, rfl, by decide +kernel, rfl, by decide +kernel, by decide +kernel⟩
theorem sc_is_net : FnScope ["thing", "places", "ties"] ["thing"] (defScope s_is_net) := ⟨rfl, rfl, rfl, by decide +kernel, rfl, by decide +kernel, by decide +kernel⟩
theorem sc_l_box_of : FnScope ["_law_script", "_law_k", "_law_cell"] ["_law_script", "_law_k"] (defScope s_l_box_of) := ⟨rfl, rfl, rfl, by decide +kernel, rfl, by decide +kernel, by decide +kernel⟩
theorem sc_l_take : FnScope ["_law_box", "_law_many", "_law_found", "_law_once"] ["_law_box", "_law_many"] (defScope s_l_take) := ⟨rfl, rfl, rfl, by decide +kernel, rfl, by decide +kernel, by decide +kernel⟩
theorem sc_l_folded : FnScope ["_law_script", "_law_many", "_law_cells", "_law_k", "_law_cell"] ["_law_script", "_law_many"] (defScope s_l_folded) := ⟨rfl, rfl, rfl, by decide +kernel, rfl, by decide +kernel, by decide +kernel⟩
theorem sc_l_lowest : FnScope ["_law_n", "_law_d", "_law_one", "_law_other"] ["_law_n", "_law_d"] (defScope s_l_lowest) := ⟨rfl, rfl, rfl, by decide +kernel, rfl, by decide +kernel, by decide +kernel⟩
theorem sc_l_names_by : FnScope ["_law_box", "_law_many", "_law_letters", "_law_first", "_law_k", "_law_row", "_law_found", "_law_more"] ["_law_box", "_law_many"] (defScope s_l_names_by) := ⟨rfl, rfl, rfl, by decide +kernel, rfl, by decide +kernel, by decide +kernel⟩
theorem sc_l_gain_by : FnScope ["_law_box", "_law_way", "_law_wide"] ["_law_box"] (defScope s_l_gain_by) := ⟨rfl, rfl, rfl, by decide +kernel, rfl, by decide +kernel, by decide +kernel⟩
theorem sc_l_most_by : FnScope ["_law_box", "_law_way"] ["_law_box"] (defScope s_l_most_by) := ⟨rfl, rfl, rfl, by decide +kernel, rfl, by decide +kernel, by decide +kernel⟩
theorem sc_l_price_by : FnScope ["_law_box", "_law_way"] ["_law_box"] (defScope s_l_price_by) := ⟨rfl, rfl, rfl, by decide +kernel, rfl, by decide +kernel, by decide +kernel⟩
theorem sc_l_tie_by : FnScope ["_law_box", "_law_places", "_law_held", "_law_first", "_law_last", "_law_gain", "_law_part", "_law_high"] ["_law_box", "_law_places", "_law_held"] (defScope s_l_tie_by) := ⟨rfl, rfl, rfl, by decide +kernel, rfl, by decide +kernel, by decide +kernel⟩
theorem sc_l_net_by : FnScope ["_law_box", "_law_most_places", "_law_most_ties", "_law_great", "_law_calm", "_law_many", "_law_places", "_law_count", "_law_held", "_law_ties", "_law_again"] ["_law_box", "_law_most_places", "_law_most_ties"] (defScope s_l_net_by) := ⟨rfl, rfl, rfl, by decide +kernel, rfl, by decide +kernel, by decide +kernel⟩
theorem sc_l_is_number : FnScope ["_law_thing"] ["_law_thing"] (defScope s_l_is_number) := ⟨rfl, rfl, rfl, by decide +kernel, rfl, by decide +kernel, by decide +kernel⟩
theorem sc_l_is_fraction : FnScope ["_law_thing"] ["_law_thing"] (defScope s_l_is_fraction) := ⟨rfl, rfl, rfl, by decide +kernel, rfl, by decide +kernel, by decide +kernel⟩
theorem sc_l_is_much : FnScope ["_law_thing"] ["_law_thing"] (defScope s_l_is_much) := ⟨rfl, rfl, rfl, by decide +kernel, rfl, by decide +kernel, by decide +kernel⟩
theorem sc_l_is_name : FnScope ["_law_thing"] ["_law_thing"] (defScope s_l_is_name) := ⟨rfl, rfl, rfl, by decide +kernel, rfl, by decide +kernel, by decide +kernel⟩
theorem sc_l_paths_to : FnScope ["_law_thing", "_law_path", "_law_found", "_law_k", "_law_one"] ["_law_thing", "_law_path"] (defScope s_l_paths_to) := ⟨rfl, rfl, rfl, by decide +kernel, rfl, by decide +kernel, by decide +kernel⟩
theorem sc_l_bent_part : FnScope ["_law_box", "_law_thing", "_law_way", "_law_spot", "_law_k", "_law_sign", "_law_some", "_law_n", "_law_a", "_law_b", "_law_bent"] ["_law_box", "_law_thing"] (defScope s_l_bent_part) := ⟨rfl, rfl, rfl, by decide +kernel, rfl, by decide +kernel, by decide +kernel⟩
theorem sc_l_with : FnScope ["_law_box", "_law_thing", "_law_path", "_law_found"] ["_law_box", "_law_thing", "_law_path"] (defScope s_l_with) := ⟨rfl, rfl, rfl, by decide +kernel, rfl, by decide +kernel, by decide +kernel⟩
theorem sc_l_spoilt : FnScope ["_law_box", "_law_thing", "_law_some"] ["_law_box", "_law_thing"] (defScope s_l_spoilt) := ⟨rfl, rfl, rfl, by decide +kernel, rfl, by decide +kernel, by decide +kernel⟩
theorem sc_l_is_tie : FnScope ["_law_places", "_law_thing"] ["_law_places", "_law_thing"] (defScope s_l_is_tie) := ⟨rfl, rfl, rfl, by decide +kernel, rfl, by decide +kernel, by decide +kernel⟩
theorem sc_l_due : FnScope ["_law_thing", "_law_places", "_law_ties"] ["_law_thing"] (defScope s_l_due) := ⟨rfl, rfl, rfl, by decide +kernel, rfl, by decide +kernel, by decide +kernel⟩
theorem sc_l_asked : FnScope ["_law_thing", "_law_kept", "_law_found"] ["_law_thing"] (defScope s_l_asked) := ⟨rfl, rfl, rfl, by decide +kernel, rfl, by decide +kernel, by decide +kernel⟩
theorem sc_law : FnScope ["_law_script", "_law_cells", "_law_k", "_law_box", "_law_net", "_law_things", "_law_turn", "_law_bent", "_law_odd"] ["_law_script"] (defScope s_law) := ⟨rfl, rfl, rfl, by decide +kernel, rfl, by decide +kernel, by decide +kernel⟩
end K04
namespace K04
open PySem L2
set_option genInjectivity false in
set_option genSizeOf false in
structure Txt (K : PySem.W.Frag) (mg : Str → Option Value) where
  b_abs : mg "abs" = none
  b_all : mg "all" = none
  b_any : mg "any" = none
  b_bool : mg "bool" = none
  b_divmod : mg "divmod" = none
  b_enumerate : mg "enumerate" = none
  b_int : mg "int" = none
  b_isinstance : mg "isinstance" = none
  b_len : mg "len" = none
  b_list : mg "list" = none
  b_range : mg "range" = none
  b_set : mg "set" = none
  b_str : mg "str" = none
  b_tuple : mg "tuple" = none
  f_is_number : Addr
  d_is_number : FuncData
  m_is_number : mg "is_number" = some (.ref f_is_number)
  F_is_number : Fun K "is_number" "is_number" s_is_number f_is_number d_is_number
  B_is_number : Binds K d_is_number ["thing"] []
  f_common_divisor : Addr
  d_common_divisor : FuncData
  m_common_divisor : mg "common_divisor" = some (.ref f_common_divisor)
  F_common_divisor : Fun K "common_divisor" "common_divisor" s_common_divisor f_common_divisor d_common_divisor
  B_common_divisor : Binds K d_common_divisor ["n", "d"] []
  f_is_fraction : Addr
  d_is_fraction : FuncData
  m_is_fraction : mg "is_fraction" = some (.ref f_is_fraction)
  F_is_fraction : Fun K "is_fraction" "is_fraction" s_is_fraction f_is_fraction d_is_fraction
  B_is_fraction : Binds K d_is_fraction ["thing"] []
  f_is_from_nought : Addr
  d_is_from_nought : FuncData
  m_is_from_nought : mg "is_from_nought" = some (.ref f_is_from_nought)
  F_is_from_nought : Fun K "is_from_nought" "is_from_nought" s_is_from_nought f_is_from_nought d_is_from_nought
  B_is_from_nought : Binds K d_is_from_nought ["thing"] []
  f_is_above_nought : Addr
  d_is_above_nought : FuncData
  m_is_above_nought : mg "is_above_nought" = some (.ref f_is_above_nought)
  F_is_above_nought : Fun K "is_above_nought" "is_above_nought" s_is_above_nought f_is_above_nought d_is_above_nought
  B_is_above_nought : Binds K d_is_above_nought ["thing"] []
  f_is_name : Addr
  d_is_name : FuncData
  m_is_name : mg "is_name" = some (.ref f_is_name)
  F_is_name : Fun K "is_name" "is_name" s_is_name f_is_name d_is_name
  B_is_name : Binds K d_is_name ["thing"] []
  f_are_names : Addr
  d_are_names : FuncData
  m_are_names : mg "are_names" = some (.ref f_are_names)
  F_are_names : Fun K "are_names" "are_names" s_are_names f_are_names d_are_names
  B_are_names : Binds K d_are_names ["thing"] []
  f_is_tie : Addr
  d_is_tie : FuncData
  m_is_tie : mg "is_tie" = some (.ref f_is_tie)
  F_is_tie : Fun K "is_tie" "is_tie" s_is_tie f_is_tie d_is_tie
  B_is_tie : Binds K d_is_tie ["places", "thing"] []
  f_is_net : Addr
  d_is_net : FuncData
  m_is_net : mg "is_net" = some (.ref f_is_net)
  F_is_net : Fun K "is_net" "is_net" s_is_net f_is_net d_is_net
  B_is_net : Binds K d_is_net ["thing"] []
  f_l_box_of : Addr
  d_l_box_of : FuncData
  m_l_box_of : mg "_law_box_of" = some (.ref f_l_box_of)
  F_l_box_of : Fun K "_law_box_of" "_law_box_of" s_l_box_of f_l_box_of d_l_box_of
  B_l_box_of : Binds K d_l_box_of ["_law_script", "_law_k"] []
  f_l_take : Addr
  d_l_take : FuncData
  m_l_take : mg "_law_take" = some (.ref f_l_take)
  F_l_take : Fun K "_law_take" "_law_take" s_l_take f_l_take d_l_take
  B_l_take : Binds K d_l_take ["_law_box", "_law_many"] []
  f_l_folded : Addr
  d_l_folded : FuncData
  m_l_folded : mg "_law_folded" = some (.ref f_l_folded)
  F_l_folded : Fun K "_law_folded" "_law_folded" s_l_folded f_l_folded d_l_folded
  B_l_folded : Binds K d_l_folded ["_law_script", "_law_many"] []
  f_l_lowest : Addr
  d_l_lowest : FuncData
  m_l_lowest : mg "_law_lowest" = some (.ref f_l_lowest)
  F_l_lowest : Fun K "_law_lowest" "_law_lowest" s_l_lowest f_l_lowest d_l_lowest
  B_l_lowest : Binds K d_l_lowest ["_law_n", "_law_d"] []
  f_l_names_by : Addr
  d_l_names_by : FuncData
  m_l_names_by : mg "_law_names_by" = some (.ref f_l_names_by)
  F_l_names_by : Fun K "_law_names_by" "_law_names_by" s_l_names_by f_l_names_by d_l_names_by
  B_l_names_by : Binds K d_l_names_by ["_law_box", "_law_many"] []
  f_l_gain_by : Addr
  d_l_gain_by : FuncData
  m_l_gain_by : mg "_law_gain_by" = some (.ref f_l_gain_by)
  F_l_gain_by : Fun K "_law_gain_by" "_law_gain_by" s_l_gain_by f_l_gain_by d_l_gain_by
  B_l_gain_by : Binds K d_l_gain_by ["_law_box"] []
  f_l_most_by : Addr
  d_l_most_by : FuncData
  m_l_most_by : mg "_law_most_by" = some (.ref f_l_most_by)
  F_l_most_by : Fun K "_law_most_by" "_law_most_by" s_l_most_by f_l_most_by d_l_most_by
  B_l_most_by : Binds K d_l_most_by ["_law_box"] []
  f_l_price_by : Addr
  d_l_price_by : FuncData
  m_l_price_by : mg "_law_price_by" = some (.ref f_l_price_by)
  F_l_price_by : Fun K "_law_price_by" "_law_price_by" s_l_price_by f_l_price_by d_l_price_by
  B_l_price_by : Binds K d_l_price_by ["_law_box"] []
  f_l_tie_by : Addr
  d_l_tie_by : FuncData
  m_l_tie_by : mg "_law_tie_by" = some (.ref f_l_tie_by)
  F_l_tie_by : Fun K "_law_tie_by" "_law_tie_by" s_l_tie_by f_l_tie_by d_l_tie_by
  B_l_tie_by : Binds K d_l_tie_by ["_law_box", "_law_places", "_law_held"] []
  f_l_net_by : Addr
  d_l_net_by : FuncData
  m_l_net_by : mg "_law_net_by" = some (.ref f_l_net_by)
  F_l_net_by : Fun K "_law_net_by" "_law_net_by" s_l_net_by f_l_net_by d_l_net_by
  B_l_net_by : Binds K d_l_net_by ["_law_box", "_law_most_places", "_law_most_ties"] []
  f_l_is_number : Addr
  d_l_is_number : FuncData
  m_l_is_number : mg "_law_is_number" = some (.ref f_l_is_number)
  F_l_is_number : Fun K "_law_is_number" "_law_is_number" s_l_is_number f_l_is_number d_l_is_number
  B_l_is_number : Binds K d_l_is_number ["_law_thing"] []
  f_l_is_fraction : Addr
  d_l_is_fraction : FuncData
  m_l_is_fraction : mg "_law_is_fraction" = some (.ref f_l_is_fraction)
  F_l_is_fraction : Fun K "_law_is_fraction" "_law_is_fraction" s_l_is_fraction f_l_is_fraction d_l_is_fraction
  B_l_is_fraction : Binds K d_l_is_fraction ["_law_thing"] []
  f_l_is_much : Addr
  d_l_is_much : FuncData
  m_l_is_much : mg "_law_is_much" = some (.ref f_l_is_much)
  F_l_is_much : Fun K "_law_is_much" "_law_is_much" s_l_is_much f_l_is_much d_l_is_much
  B_l_is_much : Binds K d_l_is_much ["_law_thing"] []
  f_l_is_name : Addr
  d_l_is_name : FuncData
  m_l_is_name : mg "_law_is_name" = some (.ref f_l_is_name)
  F_l_is_name : Fun K "_law_is_name" "_law_is_name" s_l_is_name f_l_is_name d_l_is_name
  B_l_is_name : Binds K d_l_is_name ["_law_thing"] []
  f_l_paths_to : Addr
  d_l_paths_to : FuncData
  m_l_paths_to : mg "_law_paths_to" = some (.ref f_l_paths_to)
  F_l_paths_to : Fun K "_law_paths_to" "_law_paths_to" s_l_paths_to f_l_paths_to d_l_paths_to
  B_l_paths_to : Binds K d_l_paths_to ["_law_thing", "_law_path"] []
  f_l_bent_part : Addr
  d_l_bent_part : FuncData
  m_l_bent_part : mg "_law_bent_part" = some (.ref f_l_bent_part)
  F_l_bent_part : Fun K "_law_bent_part" "_law_bent_part" s_l_bent_part f_l_bent_part d_l_bent_part
  B_l_bent_part : Binds K d_l_bent_part ["_law_box", "_law_thing"] []
  f_l_with : Addr
  d_l_with : FuncData
  m_l_with : mg "_law_with" = some (.ref f_l_with)
  F_l_with : Fun K "_law_with" "_law_with" s_l_with f_l_with d_l_with
  B_l_with : Binds K d_l_with ["_law_box", "_law_thing", "_law_path"] []
  f_l_spoilt : Addr
  d_l_spoilt : FuncData
  m_l_spoilt : mg "_law_spoilt" = some (.ref f_l_spoilt)
  F_l_spoilt : Fun K "_law_spoilt" "_law_spoilt" s_l_spoilt f_l_spoilt d_l_spoilt
  B_l_spoilt : Binds K d_l_spoilt ["_law_box", "_law_thing"] []
  f_l_is_tie : Addr
  d_l_is_tie : FuncData
  m_l_is_tie : mg "_law_is_tie" = some (.ref f_l_is_tie)
  F_l_is_tie : Fun K "_law_is_tie" "_law_is_tie" s_l_is_tie f_l_is_tie d_l_is_tie
  B_l_is_tie : Binds K d_l_is_tie ["_law_places", "_law_thing"] []
  f_l_due : Addr
  d_l_due : FuncData
  m_l_due : mg "_law_due" = some (.ref f_l_due)
  F_l_due : Fun K "_law_due" "_law_due" s_l_due f_l_due d_l_due
  B_l_due : Binds K d_l_due ["_law_thing"] []
  f_l_asked : Addr
  d_l_asked : FuncData
  m_l_asked : mg "_law_asked" = some (.ref f_l_asked)
  F_l_asked : Fun K "_law_asked" "_law_asked" s_l_asked f_l_asked d_l_asked
  B_l_asked : Binds K d_l_asked ["_law_thing"] []
  f_law : Addr
  d_law : FuncData
  m_law : mg "law" = some (.ref f_law)
  F_law : Fun K "law" "law" s_law f_law d_law
  B_law : Binds K d_law ["_law_script"] []
theorem txt_mk {K : PySem.W.Frag} {h : Heap} {mg : Str → Option Value} (X : K.In h) (G : h.Ns mainGlobals mg)
    {f0 f1 f2 f3 f4 f5 f6 f7 f8 f9 f10 f11 f12 f13 f14 f15 f16 f17 f18 f19 f20 f21 f22 f23 f24 f25 f26 f27 f28 f29 f30 : Addr} {od0 an0 od1 an1 od2 an2 od3 an3 od4 an4 od5 an5 od6 an6 od7 an7 od8 an8 od9 an9 od10 an10 od11 an11 od12 an12 od13 an13 od14 an14 od15 an15 od16 an16 od17 an17 od18 an18 od19 an19 od20 an20 od21 an21 od22 an22 od23 an23 od24 an24 od25 an25 od26 an26 od27 an27 od28 an28 od29 an29 od30 an30 : Option Addr} {sl0 sl1 sl2 sl3 sl4 sl5 sl6 sl7 sl8 sl9 sl10 sl11 sl12 sl13 sl14 sl15 sl16 sl17 sl18 sl19 sl20 sl21 sl22 sl23 sl24 sl25 sl26 sl27 sl28 sl29 sl30 : Array (Option Value)} {oc0 kV0 dc0 pm0 cd0 ct0 oc1 kV1 dc1 pm1 cd1 ct1 oc2 kV2 dc2 pm2 cd2 ct2 oc3 kV3 dc3 pm3 cd3 ct3 oc4 kV4 dc4 pm4 cd4 ct4 oc5 kV5 dc5 pm5 cd5 ct5 oc6 kV6 dc6 pm6 cd6 ct6 oc7 kV7 dc7 pm7 cd7 ct7 oc8 kV8 dc8 pm8 cd8 ct8 oc9 kV9 dc9 pm9 cd9 ct9 oc10 kV10 dc10 pm10 cd10 ct10 oc11 kV11 dc11 pm11 cd11 ct11 oc12 kV12 dc12 pm12 cd12 ct12 oc13 kV13 dc13 pm13 cd13 ct13 oc14 kV14 dc14 pm14 cd14 ct14 oc15 kV15 dc15 pm15 cd15 ct15 oc16 kV16 dc16 pm16 cd16 ct16 oc17 kV17 dc17 pm17 cd17 ct17 oc18 kV18 dc18 pm18 cd18 ct18 oc19 kV19 dc19 pm19 cd19 ct19 oc20 kV20 dc20 pm20 cd20 ct20 oc21 kV21 dc21 pm21 cd21 ct21 oc22 kV22 dc22 pm22 cd22 ct22 oc23 kV23 dc23 pm23 cd23 ct23 oc24 kV24 dc24 pm24 cd24 ct24 oc25 kV25 dc25 pm25 cd25 ct25 oc26 kV26 dc26 pm26 cd26 ct26 oc27 kV27 dc27 pm27 cd27 ct27 oc28 kV28 dc28 pm28 cd28 ct28 oc29 kV29 dc29 pm29 cd29 ct29 oc30 kV30 dc30 pm30 cd30 ct30 : Value}
    (a0 : PySem.W.nsIn K mainGlobals "is_number" = some (some (.ref f0))) (l0 : K.lookup f0 = some ⟨oc0, od0, .func (PySem.W.fnOf "is_number" "is_number" (defArgs s_is_number) (defBody s_is_number) (defScope s_is_number) .none kV0 dc0 pm0 an0 cd0 ct0), sl0⟩) (c0 : PySem.W.codeIn K cd0 "is_number" = true) (k0 : PySem.W.keepIn K (.ref f0) = true)
    (a1 : PySem.W.nsIn K mainGlobals "common_divisor" = some (some (.ref f1))) (l1 : K.lookup f1 = some ⟨oc1, od1, .func (PySem.W.fnOf "common_divisor" "common_divisor" (defArgs s_common_divisor) (defBody s_common_divisor) (defScope s_common_divisor) .none kV1 dc1 pm1 an1 cd1 ct1), sl1⟩) (c1 : PySem.W.codeIn K cd1 "common_divisor" = true) (k1 : PySem.W.keepIn K (.ref f1) = true)
    (a2 : PySem.W.nsIn K mainGlobals "is_fraction" = some (some (.ref f2))) (l2 : K.lookup f2 = some ⟨oc2, od2, .func (PySem.W.fnOf "is_fraction" "is_fraction" (defArgs s_is_fraction) (defBody s_is_fraction) (defScope s_is_fraction) .none kV2 dc2 pm2 an2 cd2 ct2), sl2⟩) (c2 : PySem.W.codeIn K cd2 "is_fraction" = true) (k2 : PySem.W.keepIn K (.ref f2) = true)
    (a3 : PySem.W.nsIn K mainGlobals "is_from_nought" = some (some (.ref f3))) (l3 : K.lookup f3 = some ⟨oc3, od3, .func (PySem.W.fnOf "is_from_nought" "is_from_nought" (defArgs s_is_from_nought) (defBody s_is_from_nought) (defScope s_is_from_nought) .none kV3 dc3 pm3 an3 cd3 ct3), sl3⟩) (c3 : PySem.W.codeIn K cd3 "is_from_nought" = true) (k3 : PySem.W.keepIn K (.ref f3) = true)
    (a4 : PySem.W.nsIn K mainGlobals "is_above_nought" = some (some (.ref f4))) (l4 : K.lookup f4 = some ⟨oc4, od4, .func (PySem.W.fnOf "is_above_nought" "is_above_nought" (defArgs s_is_above_nought) (defBody s_is_above_nought) (defScope s_is_above_nought) .none kV4 dc4 pm4 an4 cd4 ct4), sl4⟩) (c4 : PySem.W.codeIn K cd4 "is_above_nought" = true) (k4 : PySem.W.keepIn K (.ref f4) = true)
    (a5 : PySem.W.nsIn K mainGlobals "is_name" = some (some (.ref f5))) (l5 : K.lookup f5 = some ⟨oc5, od5, .func (PySem.W.fnOf "is_name" "is_name" (defArgs s_is_name) (defBody s_is_name) (defScope s_is_name) .none kV5 dc5 pm5 an5 cd5 ct5), sl5⟩) (c5 : PySem.W.codeIn K cd5 "is_name" = true) (k5 : PySem.W.keepIn K (.ref f5) = true)
    (a6 : PySem.W.nsIn K mainGlobals "are_names" = some (some (.ref f6))) (l6 : K.lookup f6 = some ⟨oc6, od6, .func (PySem.W.fnOf "are_names" "are_names" (defArgs s_are_names) (defBody s_are_names) (defScope s_are_names) .none kV6 dc6 pm6 an6 cd6 ct6), sl6⟩) (c6 : PySem.W.codeIn K cd6 "are_names" = true) (k6 : PySem.W.keepIn K (.ref f6) = true)
    (a7 : PySem.W.nsIn K mainGlobals "is_tie" = some (some (.ref f7))) (l7 : K.lookup f7 = some ⟨oc7, od7, .func (PySem.W.fnOf "is_tie" "is_tie" (defArgs s_is_tie) (defBody s_is_tie) (defScope s_is_tie) .none kV7 dc7 pm7 an7 cd7 ct7), sl7⟩) (c7 : PySem.W.codeIn K cd7 "is_tie" = true) (k7 : PySem.W.keepIn K (.ref f7) = true)
    (a8 : PySem.W.nsIn K mainGlobals "is_net" = some (some (.ref f8))) (l8 : K.lookup f8 = some ⟨oc8, od8, .func (PySem.W.fnOf "is_net" "is_net" (defArgs s_is_net) (defBody s_is_net) (defScope s_is_net) .none kV8 dc8 pm8 an8 cd8 ct8), sl8⟩) (c8 : PySem.W.codeIn K cd8 "is_net" = true) (k8 : PySem.W.keepIn K (.ref f8) = true)
    (a9 : PySem.W.nsIn K mainGlobals "_law_box_of" = some (some (.ref f9))) (l9 : K.lookup f9 = some ⟨oc9, od9, .func (PySem.W.fnOf "_law_box_of" "_law_box_of" (defArgs s_l_box_of) (defBody s_l_box_of) (defScope s_l_box_of) .none kV9 dc9 pm9 an9 cd9 ct9), sl9⟩) (c9 : PySem.W.codeIn K cd9 "_law_box_of" = true) (k9 : PySem.W.keepIn K (.ref f9) = true)
    (a10 : PySem.W.nsIn K mainGlobals "_law_take" = some (some (.ref f10))) (l10 : K.lookup f10 = some ⟨oc10, od10, .func (PySem.W.fnOf "_law_take" "_law_take" (defArgs s_l_take) (defBody s_l_take) (defScope s_l_take) .none kV10 dc10 pm10 an10 cd10 ct10), sl10⟩) (c10 : PySem.W.codeIn K cd10 "_law_take" = true) (k10 : PySem.W.keepIn K (.ref f10) = true)
    (a11 : PySem.W.nsIn K mainGlobals "_law_folded" = some (some (.ref f11))) (l11 : K.lookup f11 = some ⟨oc11, od11, .func (PySem.W.fnOf "_law_folded" "_law_folded" (defArgs s_l_folded) (defBody s_l_folded) (defScope s_l_folded) .none kV11 dc11 pm11 an11 cd11 ct11), sl11⟩) (c11 : PySem.W.codeIn K cd11 "_law_folded" = true) (k11 : PySem.W.keepIn K (.ref f11) = true)
    (a12 : PySem.W.nsIn K mainGlobals "_law_lowest" = some (some (.ref f12))) (l12 : K.lookup f12 = some ⟨oc12, od12, .func (PySem.W.fnOf "_law_lowest" "_law_lowest" (defArgs s_l_lowest) (defBody s_l_lowest) (defScope s_l_lowest) .none kV12 dc12 pm12 an12 cd12 ct12), sl12⟩) (c12 : PySem.W.codeIn K cd12 "_law_lowest" = true) (k12 : PySem.W.keepIn K (.ref f12) = true)
    (a13 : PySem.W.nsIn K mainGlobals "_law_names_by" = some (some (.ref f13))) (l13 : K.lookup f13 = some ⟨oc13, od13, .func (PySem.W.fnOf "_law_names_by" "_law_names_by" (defArgs s_l_names_by) (defBody s_l_names_by) (defScope s_l_names_by) .none kV13 dc13 pm13 an13 cd13 ct13), sl13⟩) (c13 : PySem.W.codeIn K cd13 "_law_names_by" = true) (k13 : PySem.W.keepIn K (.ref f13) = true)
    (a14 : PySem.W.nsIn K mainGlobals "_law_gain_by" = some (some (.ref f14))) (l14 : K.lookup f14 = some ⟨oc14, od14, .func (PySem.W.fnOf "_law_gain_by" "_law_gain_by" (defArgs s_l_gain_by) (defBody s_l_gain_by) (defScope s_l_gain_by) .none kV14 dc14 pm14 an14 cd14 ct14), sl14⟩) (c14 : PySem.W.codeIn K cd14 "_law_gain_by" = true) (k14 : PySem.W.keepIn K (.ref f14) = true)
    (a15 : PySem.W.nsIn K mainGlobals "_law_most_by" = some (some (.ref f15))) (l15 : K.lookup f15 = some ⟨oc15, od15, .func (PySem.W.fnOf "_law_most_by" "_law_most_by" (defArgs s_l_most_by) (defBody s_l_most_by) (defScope s_l_most_by) .none kV15 dc15 pm15 an15 cd15 ct15), sl15⟩) (c15 : PySem.W.codeIn K cd15 "_law_most_by" = true) (k15 : PySem.W.keepIn K (.ref f15) = true)
    (a16 : PySem.W.nsIn K mainGlobals "_law_price_by" = some (some (.ref f16))) (l16 : K.lookup f16 = some ⟨oc16, od16, .func (PySem.W.fnOf "_law_price_by" "_law_price_by" (defArgs s_l_price_by) (defBody s_l_price_by) (defScope s_l_price_by) .none kV16 dc16 pm16 an16 cd16 ct16), sl16⟩) (c16 : PySem.W.codeIn K cd16 "_law_price_by" = true) (k16 : PySem.W.keepIn K (.ref f16) = true)
    (a17 : PySem.W.nsIn K mainGlobals "_law_tie_by" = some (some (.ref f17))) (l17 : K.lookup f17 = some ⟨oc17, od17, .func (PySem.W.fnOf "_law_tie_by" "_law_tie_by" (defArgs s_l_tie_by) (defBody s_l_tie_by) (defScope s_l_tie_by) .none kV17 dc17 pm17 an17 cd17 ct17), sl17⟩) (c17 : PySem.W.codeIn K cd17 "_law_tie_by" = true) (k17 : PySem.W.keepIn K (.ref f17) = true)
    (a18 : PySem.W.nsIn K mainGlobals "_law_net_by" = some (some (.ref f18))) (l18 : K.lookup f18 = some ⟨oc18, od18, .func (PySem.W.fnOf "_law_net_by" "_law_net_by" (defArgs s_l_net_by) (defBody s_l_net_by) (defScope s_l_net_by) .none kV18 dc18 pm18 an18 cd18 ct18), sl18⟩) (c18 : PySem.W.codeIn K cd18 "_law_net_by" = true) (k18 : PySem.W.keepIn K (.ref f18) = true)
    (a19 : PySem.W.nsIn K mainGlobals "_law_is_number" = some (some (.ref f19))) (l19 : K.lookup f19 = some ⟨oc19, od19, .func (PySem.W.fnOf "_law_is_number" "_law_is_number" (defArgs s_l_is_number) (defBody s_l_is_number) (defScope s_l_is_number) .none kV19 dc19 pm19 an19 cd19 ct19), sl19⟩) (c19 : PySem.W.codeIn K cd19 "_law_is_number" = true) (k19 : PySem.W.keepIn K (.ref f19) = true)
    (a20 : PySem.W.nsIn K mainGlobals "_law_is_fraction" = some (some (.ref f20))) (l20 : K.lookup f20 = some ⟨oc20, od20, .func (PySem.W.fnOf "_law_is_fraction" "_law_is_fraction" (defArgs s_l_is_fraction) (defBody s_l_is_fraction) (defScope s_l_is_fraction) .none kV20 dc20 pm20 an20 cd20 ct20), sl20⟩) (c20 : PySem.W.codeIn K cd20 "_law_is_fraction" = true) (k20 : PySem.W.keepIn K (.ref f20) = true)
    (a21 : PySem.W.nsIn K mainGlobals "_law_is_much" = some (some (.ref f21))) (l21 : K.lookup f21 = some ⟨oc21, od21, .func (PySem.W.fnOf "_law_is_much" "_law_is_much" (defArgs s_l_is_much) (defBody s_l_is_much) (defScope s_l_is_much) .none kV21 dc21 pm21 an21 cd21 ct21), sl21⟩) (c21 : PySem.W.codeIn K cd21 "_law_is_much" = true) (k21 : PySem.W.keepIn K (.ref f21) = true)
    (a22 : PySem.W.nsIn K mainGlobals "_law_is_name" = some (some (.ref f22))) (l22 : K.lookup f22 = some ⟨oc22, od22, .func (PySem.W.fnOf "_law_is_name" "_law_is_name" (defArgs s_l_is_name) (defBody s_l_is_name) (defScope s_l_is_name) .none kV22 dc22 pm22 an22 cd22 ct22), sl22⟩) (c22 : PySem.W.codeIn K cd22 "_law_is_name" = true) (k22 : PySem.W.keepIn K (.ref f22) = true)
    (a23 : PySem.W.nsIn K mainGlobals "_law_paths_to" = some (some (.ref f23))) (l23 : K.lookup f23 = some ⟨oc23, od23, .func (PySem.W.fnOf "_law_paths_to" "_law_paths_to" (defArgs s_l_paths_to) (defBody s_l_paths_to) (defScope s_l_paths_to) .none kV23 dc23 pm23 an23 cd23 ct23), sl23⟩) (c23 : PySem.W.codeIn K cd23 "_law_paths_to" = true) (k23 : PySem.W.keepIn K (.ref f23) = true)
    (a24 : PySem.W.nsIn K mainGlobals "_law_bent_part" = some (some (.ref f24))) (l24 : K.lookup f24 = some ⟨oc24, od24, .func (PySem.W.fnOf "_law_bent_part" "_law_bent_part" (defArgs s_l_bent_part) (defBody s_l_bent_part) (defScope s_l_bent_part) .none kV24 dc24 pm24 an24 cd24 ct24), sl24⟩) (c24 : PySem.W.codeIn K cd24 "_law_bent_part" = true) (k24 : PySem.W.keepIn K (.ref f24) = true)
    (a25 : PySem.W.nsIn K mainGlobals "_law_with" = some (some (.ref f25))) (l25 : K.lookup f25 = some ⟨oc25, od25, .func (PySem.W.fnOf "_law_with" "_law_with" (defArgs s_l_with) (defBody s_l_with) (defScope s_l_with) .none kV25 dc25 pm25 an25 cd25 ct25), sl25⟩) (c25 : PySem.W.codeIn K cd25 "_law_with" = true) (k25 : PySem.W.keepIn K (.ref f25) = true)
    (a26 : PySem.W.nsIn K mainGlobals "_law_spoilt" = some (some (.ref f26))) (l26 : K.lookup f26 = some ⟨oc26, od26, .func (PySem.W.fnOf "_law_spoilt" "_law_spoilt" (defArgs s_l_spoilt) (defBody s_l_spoilt) (defScope s_l_spoilt) .none kV26 dc26 pm26 an26 cd26 ct26), sl26⟩) (c26 : PySem.W.codeIn K cd26 "_law_spoilt" = true) (k26 : PySem.W.keepIn K (.ref f26) = true)
    (a27 : PySem.W.nsIn K mainGlobals "_law_is_tie" = some (some (.ref f27))) (l27 : K.lookup f27 = some ⟨oc27, od27, .func (PySem.W.fnOf "_law_is_tie" "_law_is_tie" (defArgs s_l_is_tie) (defBody s_l_is_tie) (defScope s_l_is_tie) .none kV27 dc27 pm27 an27 cd27 ct27), sl27⟩) (c27 : PySem.W.codeIn K cd27 "_law_is_tie" = true) (k27 : PySem.W.keepIn K (.ref f27) = true)
    (a28 : PySem.W.nsIn K mainGlobals "_law_due" = some (some (.ref f28))) (l28 : K.lookup f28 = some ⟨oc28, od28, .func (PySem.W.fnOf "_law_due" "_law_due" (defArgs s_l_due) (defBody s_l_due) (defScope s_l_due) .none kV28 dc28 pm28 an28 cd28 ct28), sl28⟩) (c28 : PySem.W.codeIn K cd28 "_law_due" = true) (k28 : PySem.W.keepIn K (.ref f28) = true)
    (a29 : PySem.W.nsIn K mainGlobals "_law_asked" = some (some (.ref f29))) (l29 : K.lookup f29 = some ⟨oc29, od29, .func (PySem.W.fnOf "_law_asked" "_law_asked" (defArgs s_l_asked) (defBody s_l_asked) (defScope s_l_asked) .none kV29 dc29 pm29 an29 cd29 ct29), sl29⟩) (c29 : PySem.W.codeIn K cd29 "_law_asked" = true) (k29 : PySem.W.keepIn K (.ref f29) = true)
    (a30 : PySem.W.nsIn K mainGlobals "law" = some (some (.ref f30))) (l30 : K.lookup f30 = some ⟨oc30, od30, .func (PySem.W.fnOf "law" "law" (defArgs s_law) (defBody s_law) (defScope s_law) .none kV30 dc30 pm30 an30 cd30 ct30), sl30⟩) (c30 : PySem.W.codeIn K cd30 "law" = true) (k30 : PySem.W.keepIn K (.ref f30) = true)
    (z0 : PySem.W.nsIn K mainGlobals "abs" = some none)
    (z1 : PySem.W.nsIn K mainGlobals "all" = some none)
    (z2 : PySem.W.nsIn K mainGlobals "any" = some none)
    (z3 : PySem.W.nsIn K mainGlobals "bool" = some none)
    (z4 : PySem.W.nsIn K mainGlobals "divmod" = some none)
    (z5 : PySem.W.nsIn K mainGlobals "enumerate" = some none)
    (z6 : PySem.W.nsIn K mainGlobals "int" = some none)
    (z7 : PySem.W.nsIn K mainGlobals "isinstance" = some none)
    (z8 : PySem.W.nsIn K mainGlobals "len" = some none)
    (z9 : PySem.W.nsIn K mainGlobals "list" = some none)
    (z10 : PySem.W.nsIn K mainGlobals "range" = some none)
    (z11 : PySem.W.nsIn K mainGlobals "set" = some none)
    (z12 : PySem.W.nsIn K mainGlobals "str" = some none)
    (z13 : PySem.W.nsIn K mainGlobals "tuple" = some none)
    : ∃ T : Txt K mg, T.f_law = f30 ∧ (∀ (s : Shared) (u : Value), BindsTo s T.d_law ⟨[u], []⟩ [("_law_script", u)]) := by
  refine ⟨{
    b_abs := PySem.W.mg_none_of X G z0,
    b_all := PySem.W.mg_none_of X G z1,
    b_any := PySem.W.mg_none_of X G z2,
    b_bool := PySem.W.mg_none_of X G z3,
    b_divmod := PySem.W.mg_none_of X G z4,
    b_enumerate := PySem.W.mg_none_of X G z5,
    b_int := PySem.W.mg_none_of X G z6,
    b_isinstance := PySem.W.mg_none_of X G z7,
    b_len := PySem.W.mg_none_of X G z8,
    b_list := PySem.W.mg_none_of X G z9,
    b_range := PySem.W.mg_none_of X G z10,
    b_set := PySem.W.mg_none_of X G z11,
    b_str := PySem.W.mg_none_of X G z12,
    b_tuple := PySem.W.mg_none_of X G z13,
    f_is_number := f0, d_is_number := _, m_is_number := PySem.W.mg_of X G a0, F_is_number := fun_mk (st := s_is_number) l0 c0 k0, B_is_number := (fun_mk (st := s_is_number) l0 c0 k0).binds (ps := ["thing"]) fun _ _ _ _ _ _ us hl => match us, hl with | [_], _ => rfl,
    f_common_divisor := f1, d_common_divisor := _, m_common_divisor := PySem.W.mg_of X G a1, F_common_divisor := fun_mk (st := s_common_divisor) l1 c1 k1, B_common_divisor := (fun_mk (st := s_common_divisor) l1 c1 k1).binds (ps := ["n", "d"]) fun _ _ _ _ _ _ us hl => match us, hl with | [_, _], _ => rfl,
    f_is_fraction := f2, d_is_fraction := _, m_is_fraction := PySem.W.mg_of X G a2, F_is_fraction := fun_mk (st := s_is_fraction) l2 c2 k2, B_is_fraction := (fun_mk (st := s_is_fraction) l2 c2 k2).binds (ps := ["thing"]) fun _ _ _ _ _ _ us hl => match us, hl with | [_], _ => rfl,
    f_is_from_nought := f3, d_is_from_nought := _, m_is_from_nought := PySem.W.mg_of X G a3, F_is_from_nought := fun_mk (st := s_is_from_nought) l3 c3 k3, B_is_from_nought := (fun_mk (st := s_is_from_nought) l3 c3 k3).binds (ps := ["thing"]) fun _ _ _ _ _ _ us hl => match us, hl with | [_], _ => rfl,
    f_is_above_nought := f4, d_is_above_nought := _, m_is_above_nought := PySem.W.mg_of X G a4, F_is_above_nought := fun_mk (st := s_is_above_nought) l4 c4 k4, B_is_above_nought := (fun_mk (st := s_is_above_nought) l4 c4 k4).binds (ps := ["thing"]) fun _ _ _ _ _ _ us hl => match us, hl with | [_], _ => rfl,
    f_is_name := f5, d_is_name := _, m_is_name := PySem.W.mg_of X G a5, F_is_name := fun_mk (st := s_is_name) l5 c5 k5, B_is_name := (fun_mk (st := s_is_name) l5 c5 k5).binds (ps := ["thing"]) fun _ _ _ _ _ _ us hl => match us, hl with | [_], _ => rfl,
    f_are_names := f6, d_are_names := _, m_are_names := PySem.W.mg_of X G a6, F_are_names := fun_mk (st := s_are_names) l6 c6 k6, B_are_names := (fun_mk (st := s_are_names) l6 c6 k6).binds (ps := ["thing"]) fun _ _ _ _ _ _ us hl => match us, hl with | [_], _ => rfl,
    f_is_tie := f7, d_is_tie := _, m_is_tie := PySem.W.mg_of X G a7, F_is_tie := fun_mk (st := s_is_tie) l7 c7 k7, B_is_tie := (fun_mk (st := s_is_tie) l7 c7 k7).binds (ps := ["places", "thing"]) fun _ _ _ _ _ _ us hl => match us, hl with | [_, _], _ => rfl,
    f_is_net := f8, d_is_net := _, m_is_net := PySem.W.mg_of X G a8, F_is_net := fun_mk (st := s_is_net) l8 c8 k8, B_is_net := (fun_mk (st := s_is_net) l8 c8 k8).binds (ps := ["thing"]) fun _ _ _ _ _ _ us hl => match us, hl with | [_], _ => rfl,
    f_l_box_of := f9, d_l_box_of := _, m_l_box_of := PySem.W.mg_of X G a9, F_l_box_of := fun_mk (st := s_l_box_of) l9 c9 k9, B_l_box_of := (fun_mk (st := s_l_box_of) l9 c9 k9).binds (ps := ["_law_script", "_law_k"]) fun _ _ _ _ _ _ us hl => match us, hl with | [_, _], _ => rfl,
    f_l_take := f10, d_l_take := _, m_l_take := PySem.W.mg_of X G a10, F_l_take := fun_mk (st := s_l_take) l10 c10 k10, B_l_take := (fun_mk (st := s_l_take) l10 c10 k10).binds (ps := ["_law_box", "_law_many"]) fun _ _ _ _ _ _ us hl => match us, hl with | [_, _], _ => rfl,
    f_l_folded := f11, d_l_folded := _, m_l_folded := PySem.W.mg_of X G a11, F_l_folded := fun_mk (st := s_l_folded) l11 c11 k11, B_l_folded := (fun_mk (st := s_l_folded) l11 c11 k11).binds (ps := ["_law_script", "_law_many"]) fun _ _ _ _ _ _ us hl => match us, hl with | [_, _], _ => rfl,
    f_l_lowest := f12, d_l_lowest := _, m_l_lowest := PySem.W.mg_of X G a12, F_l_lowest := fun_mk (st := s_l_lowest) l12 c12 k12, B_l_lowest := (fun_mk (st := s_l_lowest) l12 c12 k12).binds (ps := ["_law_n", "_law_d"]) fun _ _ _ _ _ _ us hl => match us, hl with | [_, _], _ => rfl,
    f_l_names_by := f13, d_l_names_by := _, m_l_names_by := PySem.W.mg_of X G a13, F_l_names_by := fun_mk (st := s_l_names_by) l13 c13 k13, B_l_names_by := (fun_mk (st := s_l_names_by) l13 c13 k13).binds (ps := ["_law_box", "_law_many"]) fun _ _ _ _ _ _ us hl => match us, hl with | [_, _], _ => rfl,
    f_l_gain_by := f14, d_l_gain_by := _, m_l_gain_by := PySem.W.mg_of X G a14, F_l_gain_by := fun_mk (st := s_l_gain_by) l14 c14 k14, B_l_gain_by := (fun_mk (st := s_l_gain_by) l14 c14 k14).binds (ps := ["_law_box"]) fun _ _ _ _ _ _ us hl => match us, hl with | [_], _ => rfl,
    f_l_most_by := f15, d_l_most_by := _, m_l_most_by := PySem.W.mg_of X G a15, F_l_most_by := fun_mk (st := s_l_most_by) l15 c15 k15, B_l_most_by := (fun_mk (st := s_l_most_by) l15 c15 k15).binds (ps := ["_law_box"]) fun _ _ _ _ _ _ us hl => match us, hl with | [_], _ => rfl,
    f_l_price_by := f16, d_l_price_by := _, m_l_price_by := PySem.W.mg_of X G a16, F_l_price_by := fun_mk (st := s_l_price_by) l16 c16 k16, B_l_price_by := (fun_mk (st := s_l_price_by) l16 c16 k16).binds (ps := ["_law_box"]) fun _ _ _ _ _ _ us hl => match us, hl with | [_], _ => rfl,
    f_l_tie_by := f17, d_l_tie_by := _, m_l_tie_by := PySem.W.mg_of X G a17, F_l_tie_by := fun_mk (st := s_l_tie_by) l17 c17 k17, B_l_tie_by := (fun_mk (st := s_l_tie_by) l17 c17 k17).binds (ps := ["_law_box", "_law_places", "_law_held"]) fun _ _ _ _ _ _ us hl => match us, hl with | [_, _, _], _ => rfl,
    f_l_net_by := f18, d_l_net_by := _, m_l_net_by := PySem.W.mg_of X G a18, F_l_net_by := fun_mk (st := s_l_net_by) l18 c18 k18, B_l_net_by := (fun_mk (st := s_l_net_by) l18 c18 k18).binds (ps := ["_law_box", "_law_most_places", "_law_most_ties"]) fun _ _ _ _ _ _ us hl => match us, hl with | [_, _, _], _ => rfl,
    f_l_is_number := f19, d_l_is_number := _, m_l_is_number := PySem.W.mg_of X G a19, F_l_is_number := fun_mk (st := s_l_is_number) l19 c19 k19, B_l_is_number := (fun_mk (st := s_l_is_number) l19 c19 k19).binds (ps := ["_law_thing"]) fun _ _ _ _ _ _ us hl => match us, hl with | [_], _ => rfl,
    f_l_is_fraction := f20, d_l_is_fraction := _, m_l_is_fraction := PySem.W.mg_of X G a20, F_l_is_fraction := fun_mk (st := s_l_is_fraction) l20 c20 k20, B_l_is_fraction := (fun_mk (st := s_l_is_fraction) l20 c20 k20).binds (ps := ["_law_thing"]) fun _ _ _ _ _ _ us hl => match us, hl with | [_], _ => rfl,
    f_l_is_much := f21, d_l_is_much := _, m_l_is_much := PySem.W.mg_of X G a21, F_l_is_much := fun_mk (st := s_l_is_much) l21 c21 k21, B_l_is_much := (fun_mk (st := s_l_is_much) l21 c21 k21).binds (ps := ["_law_thing"]) fun _ _ _ _ _ _ us hl => match us, hl with | [_], _ => rfl,
    f_l_is_name := f22, d_l_is_name := _, m_l_is_name := PySem.W.mg_of X G a22, F_l_is_name := fun_mk (st := s_l_is_name) l22 c22 k22, B_l_is_name := (fun_mk (st := s_l_is_name) l22 c22 k22).binds (ps := ["_law_thing"]) fun _ _ _ _ _ _ us hl => match us, hl with | [_], _ => rfl,
    f_l_paths_to := f23, d_l_paths_to := _, m_l_paths_to := PySem.W.mg_of X G a23, F_l_paths_to := fun_mk (st := s_l_paths_to) l23 c23 k23, B_l_paths_to := (fun_mk (st := s_l_paths_to) l23 c23 k23).binds (ps := ["_law_thing", "_law_path"]) fun _ _ _ _ _ _ us hl => match us, hl with | [_, _], _ => rfl,
    f_l_bent_part := f24, d_l_bent_part := _, m_l_bent_part := PySem.W.mg_of X G a24, F_l_bent_part := fun_mk (st := s_l_bent_part) l24 c24 k24, B_l_bent_part := (fun_mk (st := s_l_bent_part) l24 c24 k24).binds (ps := ["_law_box", "_law_thing"]) fun _ _ _ _ _ _ us hl => match us, hl with | [_, _], _ => rfl,
    f_l_with := f25, d_l_with := _, m_l_with := PySem.W.mg_of X G a25, F_l_with := fun_mk (st := s_l_with) l25 c25 k25, B_l_with := (fun_mk (st := s_l_with) l25 c25 k25).binds (ps := ["_law_box", "_law_thing", "_law_path"]) fun _ _ _ _ _ _ us hl => match us, hl with | [_, _, _], _ => rfl,
    f_l_spoilt := f26, d_l_spoilt := _, m_l_spoilt := PySem.W.mg_of X G a26, F_l_spoilt := fun_mk (st := s_l_spoilt) l26 c26 k26, B_l_spoilt := (fun_mk (st := s_l_spoilt) l26 c26 k26).binds (ps := ["_law_box", "_law_thing"]) fun _ _ _ _ _ _ us hl => match us, hl with | [_, _], _ => rfl,
    f_l_is_tie := f27, d_l_is_tie := _, m_l_is_tie := PySem.W.mg_of X G a27, F_l_is_tie := fun_mk (st := s_l_is_tie) l27 c27 k27, B_l_is_tie := (fun_mk (st := s_l_is_tie) l27 c27 k27).binds (ps := ["_law_places", "_law_thing"]) fun _ _ _ _ _ _ us hl => match us, hl with | [_, _], _ => rfl,
    f_l_due := f28, d_l_due := _, m_l_due := PySem.W.mg_of X G a28, F_l_due := fun_mk (st := s_l_due) l28 c28 k28, B_l_due := (fun_mk (st := s_l_due) l28 c28 k28).binds (ps := ["_law_thing"]) fun _ _ _ _ _ _ us hl => match us, hl with | [_], _ => rfl,
    f_l_asked := f29, d_l_asked := _, m_l_asked := PySem.W.mg_of X G a29, F_l_asked := fun_mk (st := s_l_asked) l29 c29 k29, B_l_asked := (fun_mk (st := s_l_asked) l29 c29 k29).binds (ps := ["_law_thing"]) fun _ _ _ _ _ _ us hl => match us, hl with | [_], _ => rfl,
    f_law := f30, d_law := _, m_law := PySem.W.mg_of X G a30, F_law := fun_mk (st := s_law) l30 c30 k30, B_law := (fun_mk (st := s_law) l30 c30 k30).binds (ps := ["_law_script"]) fun _ _ _ _ _ _ us hl => match us, hl with | [_], _ => rfl }, rfl, fun s v => .of_eq rfl⟩
end K04
namespace K04
open PySem L2
theorem k_is_from_nought_thing : (defScope s_is_from_nought).names.lookup ("thing" : Str) = some NameKind.local := by decide +kernel
theorem k_is_from_nought_is_fraction : (defScope s_is_from_nought).names.lookup ("is_fraction" : Str) = some NameKind.globalImplicit := by decide +kernel
theorem k_is_above_nought_thing : (defScope s_is_above_nought).names.lookup ("thing" : Str) = some NameKind.local := by decide +kernel
theorem k_is_above_nought_is_fraction : (defScope s_is_above_nought).names.lookup ("is_fraction" : Str) = some NameKind.globalImplicit := by decide +kernel
theorem k_is_name_thing : (defScope s_is_name).names.lookup ("thing" : Str) = some NameKind.local := by decide +kernel
theorem k_is_name_isinstance : (defScope s_is_name).names.lookup ("isinstance" : Str) = some NameKind.globalImplicit := by decide +kernel
theorem k_is_name_str : (defScope s_is_name).names.lookup ("str" : Str) = some NameKind.globalImplicit := by decide +kernel
theorem k_is_name_len : (defScope s_is_name).names.lookup ("len" : Str) = some NameKind.globalImplicit := by decide +kernel
theorem k_is_name_all : (defScope s_is_name).names.lookup ("all" : Str) = some NameKind.globalImplicit := by decide +kernel
theorem k_are_names_thing : (defScope s_are_names).names.lookup ("thing" : Str) = some NameKind.local := by decide +kernel
theorem k_are_names_isinstance : (defScope s_are_names).names.lookup ("isinstance" : Str) = some NameKind.globalImplicit := by decide +kernel
theorem k_are_names_tuple : (defScope s_are_names).names.lookup ("tuple" : Str) = some NameKind.globalImplicit := by decide +kernel
theorem k_are_names_len : (defScope s_are_names).names.lookup ("len" : Str) = some NameKind.globalImplicit := by decide +kernel
theorem k_are_names_all : (defScope s_are_names).names.lookup ("all" : Str) = some NameKind.globalImplicit := by decide +kernel
theorem k_are_names_set : (defScope s_are_names).names.lookup ("set" : Str) = some NameKind.globalImplicit := by decide +kernel
theorem k_is_tie_places : (defScope s_is_tie).names.lookup ("places" : Str) = some NameKind.local := by decide +kernel
theorem k_is_tie_thing : (defScope s_is_tie).names.lookup ("thing" : Str) = some NameKind.local := by decide +kernel
theorem k_is_tie_begin : (defScope s_is_tie).names.lookup ("begin" : Str) = some NameKind.local := by decide +kernel
theorem k_is_tie_end : (defScope s_is_tie).names.lookup ("end" : Str) = some NameKind.local := by decide +kernel
theorem k_is_tie_most : (defScope s_is_tie).names.lookup ("most" : Str) = some NameKind.local := by decide +kernel
theorem k_is_tie_gain : (defScope s_is_tie).names.lookup ("gain" : Str) = some NameKind.local := by decide +kernel
theorem k_is_tie_price : (defScope s_is_tie).names.lookup ("price" : Str) = some NameKind.local := by decide +kernel
theorem k_is_tie_isinstance : (defScope s_is_tie).names.lookup ("isinstance" : Str) = some NameKind.globalImplicit := by decide +kernel
theorem k_is_tie_tuple : (defScope s_is_tie).names.lookup ("tuple" : Str) = some NameKind.globalImplicit := by decide +kernel
theorem k_is_tie_len : (defScope s_is_tie).names.lookup ("len" : Str) = some NameKind.globalImplicit := by decide +kernel
theorem k_is_tie_is_from_nought : (defScope s_is_tie).names.lookup ("is_from_nought" : Str) = some NameKind.globalImplicit := by decide +kernel
theorem k_is_tie_is_above_nought : (defScope s_is_tie).names.lookup ("is_above_nought" : Str) = some NameKind.globalImplicit := by decide +kernel
theorem k_is_net_thing : (defScope s_is_net).names.lookup ("thing" : Str) = some NameKind.local := by decide +kernel
theorem k_is_net_places : (defScope s_is_net).names.lookup ("places" : Str) = some NameKind.cell := by decide +kernel
theorem k_is_net_ties : (defScope s_is_net).names.lookup ("ties" : Str) = some NameKind.local := by decide +kernel
theorem k_is_net_isinstance : (defScope s_is_net).names.lookup ("isinstance" : Str) = some NameKind.globalImplicit := by decide +kernel
theorem k_is_net_tuple : (defScope s_is_net).names.lookup ("tuple" : Str) = some NameKind.globalImplicit := by decide +kernel
theorem k_is_net_len : (defScope s_is_net).names.lookup ("len" : Str) = some NameKind.globalImplicit := by decide +kernel
theorem k_is_net_are_names : (defScope s_is_net).names.lookup ("are_names" : Str) = some NameKind.globalImplicit := by decide +kernel
theorem k_is_net_all : (defScope s_is_net).names.lookup ("all" : Str) = some NameKind.globalImplicit := by decide +kernel
theorem k_l_names_by_l_box : (defScope s_l_names_by).names.lookup ("_law_box" : Str) = some NameKind.cell := by decide +kernel
theorem k_l_names_by_l_many : (defScope s_l_names_by).names.lookup ("_law_many" : Str) = some NameKind.local := by decide +kernel
theorem k_l_names_by_l_letters : (defScope s_l_names_by).names.lookup ("_law_letters" : Str) = some NameKind.cell := by decide +kernel
theorem k_l_names_by_l_first : (defScope s_l_names_by).names.lookup ("_law_first" : Str) = some NameKind.cell := by decide +kernel
theorem k_l_names_by_l_k : (defScope s_l_names_by).names.lookup ("_law_k" : Str) = some NameKind.local := by decide +kernel
theorem k_l_names_by_l_row : (defScope s_l_names_by).names.lookup ("_law_row" : Str) = some NameKind.local := by decide +kernel
theorem k_l_names_by_l_found : (defScope s_l_names_by).names.lookup ("_law_found" : Str) = some NameKind.local := by decide +kernel
theorem k_l_names_by_l_more : (defScope s_l_names_by).names.lookup ("_law_more" : Str) = some NameKind.local := by decide +kernel
theorem k_l_names_by_l_take : (defScope s_l_names_by).names.lookup ("_law_take" : Str) = some NameKind.globalImplicit := by decide +kernel
theorem k_l_names_by_range : (defScope s_l_names_by).names.lookup ("range" : Str) = some NameKind.globalImplicit := by decide +kernel
theorem k_l_gain_by_l_box : (defScope s_l_gain_by).names.lookup ("_law_box" : Str) = some NameKind.local := by decide +kernel
theorem k_l_gain_by_l_way : (defScope s_l_gain_by).names.lookup ("_law_way" : Str) = some NameKind.local := by decide +kernel
theorem k_l_gain_by_l_wide : (defScope s_l_gain_by).names.lookup ("_law_wide" : Str) = some NameKind.local := by decide +kernel
theorem k_l_gain_by_l_take : (defScope s_l_gain_by).names.lookup ("_law_take" : Str) = some NameKind.globalImplicit := by decide +kernel
theorem k_l_gain_by_l_lowest : (defScope s_l_gain_by).names.lookup ("_law_lowest" : Str) = some NameKind.globalImplicit := by decide +kernel
theorem k_l_most_by_l_box : (defScope s_l_most_by).names.lookup ("_law_box" : Str) = some NameKind.local := by decide +kernel
theorem k_l_most_by_l_way : (defScope s_l_most_by).names.lookup ("_law_way" : Str) = some NameKind.local := by decide +kernel
theorem k_l_most_by_l_take : (defScope s_l_most_by).names.lookup ("_law_take" : Str) = some NameKind.globalImplicit := by decide +kernel
theorem k_l_most_by_l_lowest : (defScope s_l_most_by).names.lookup ("_law_lowest" : Str) = some NameKind.globalImplicit := by decide +kernel
theorem k_l_price_by_l_box : (defScope s_l_price_by).names.lookup ("_law_box" : Str) = some NameKind.local := by decide +kernel
theorem k_l_price_by_l_way : (defScope s_l_price_by).names.lookup ("_law_way" : Str) = some NameKind.local := by decide +kernel
theorem k_l_price_by_l_take : (defScope s_l_price_by).names.lookup ("_law_take" : Str) = some NameKind.globalImplicit := by decide +kernel
theorem k_l_price_by_l_lowest : (defScope s_l_price_by).names.lookup ("_law_lowest" : Str) = some NameKind.globalImplicit := by decide +kernel
theorem k_l_tie_by_l_box : (defScope s_l_tie_by).names.lookup ("_law_box" : Str) = some NameKind.local := by decide +kernel
theorem k_l_tie_by_l_places : (defScope s_l_tie_by).names.lookup ("_law_places" : Str) = some NameKind.local := by decide +kernel
theorem k_l_tie_by_l_held : (defScope s_l_tie_by).names.lookup ("_law_held" : Str) = some NameKind.local := by decide +kernel
theorem k_l_tie_by_l_first : (defScope s_l_tie_by).names.lookup ("_law_first" : Str) = some NameKind.local := by decide +kernel
theorem k_l_tie_by_l_last : (defScope s_l_tie_by).names.lookup ("_law_last" : Str) = some NameKind.local := by decide +kernel
theorem k_l_tie_by_l_gain : (defScope s_l_tie_by).names.lookup ("_law_gain" : Str) = some NameKind.local := by decide +kernel
theorem k_l_tie_by_l_part : (defScope s_l_tie_by).names.lookup ("_law_part" : Str) = some NameKind.local := by decide +kernel
theorem k_l_tie_by_l_high : (defScope s_l_tie_by).names.lookup ("_law_high" : Str) = some NameKind.local := by decide +kernel
theorem k_l_tie_by_l_take : (defScope s_l_tie_by).names.lookup ("_law_take" : Str) = some NameKind.globalImplicit := by decide +kernel
theorem k_l_tie_by_len : (defScope s_l_tie_by).names.lookup ("len" : Str) = some NameKind.globalImplicit := by decide +kernel
theorem k_l_tie_by_l_gain_by : (defScope s_l_tie_by).names.lookup ("_law_gain_by" : Str) = some NameKind.globalImplicit := by decide +kernel
theorem k_l_tie_by_l_lowest : (defScope s_l_tie_by).names.lookup ("_law_lowest" : Str) = some NameKind.globalImplicit := by decide +kernel
theorem k_l_tie_by_l_most_by : (defScope s_l_tie_by).names.lookup ("_law_most_by" : Str) = some NameKind.globalImplicit := by decide +kernel
theorem k_l_tie_by_l_price_by : (defScope s_l_tie_by).names.lookup ("_law_price_by" : Str) = some NameKind.globalImplicit := by decide +kernel
theorem k_l_net_by_l_box : (defScope s_l_net_by).names.lookup ("_law_box" : Str) = some NameKind.cell := by decide +kernel
theorem k_l_net_by_l_most_places : (defScope s_l_net_by).names.lookup ("_law_most_places" : Str) = some NameKind.local := by decide +kernel
theorem k_l_net_by_l_most_ties : (defScope s_l_net_by).names.lookup ("_law_most_ties" : Str) = some NameKind.local := by decide +kernel
theorem k_l_net_by_l_great : (defScope s_l_net_by).names.lookup ("_law_great" : Str) = some NameKind.local := by decide +kernel
theorem k_l_net_by_l_calm : (defScope s_l_net_by).names.lookup ("_law_calm" : Str) = some NameKind.local := by decide +kernel
theorem k_l_net_by_l_many : (defScope s_l_net_by).names.lookup ("_law_many" : Str) = some NameKind.local := by decide +kernel
theorem k_l_net_by_l_places : (defScope s_l_net_by).names.lookup ("_law_places" : Str) = some NameKind.cell := by decide +kernel
theorem k_l_net_by_l_count : (defScope s_l_net_by).names.lookup ("_law_count" : Str) = some NameKind.local := by decide +kernel
theorem k_l_net_by_l_held : (defScope s_l_net_by).names.lookup ("_law_held" : Str) = some NameKind.cell := by decide +kernel
theorem k_l_net_by_l_ties : (defScope s_l_net_by).names.lookup ("_law_ties" : Str) = some NameKind.local := by decide +kernel
theorem k_l_net_by_l_again : (defScope s_l_net_by).names.lookup ("_law_again" : Str) = some NameKind.local := by decide +kernel
theorem k_l_net_by_l_take : (defScope s_l_net_by).names.lookup ("_law_take" : Str) = some NameKind.globalImplicit := by decide +kernel
theorem k_l_net_by_l_names_by : (defScope s_l_net_by).names.lookup ("_law_names_by" : Str) = some NameKind.globalImplicit := by decide +kernel
theorem k_l_net_by_range : (defScope s_l_net_by).names.lookup ("range" : Str) = some NameKind.globalImplicit := by decide +kernel
theorem k_l_net_by_int : (defScope s_l_net_by).names.lookup ("int" : Str) = some NameKind.globalImplicit := by decide +kernel
theorem k_l_net_by_len : (defScope s_l_net_by).names.lookup ("len" : Str) = some NameKind.globalImplicit := by decide +kernel
theorem k_l_net_by_tuple : (defScope s_l_net_by).names.lookup ("tuple" : Str) = some NameKind.globalImplicit := by decide +kernel
theorem k_l_is_number_l_thing : (defScope s_l_is_number).names.lookup ("_law_thing" : Str) = some NameKind.local := by decide +kernel
theorem k_l_is_number_isinstance : (defScope s_l_is_number).names.lookup ("isinstance" : Str) = some NameKind.globalImplicit := by decide +kernel
theorem k_l_is_number_int : (defScope s_l_is_number).names.lookup ("int" : Str) = some NameKind.globalImplicit := by decide +kernel
theorem k_l_is_number_bool : (defScope s_l_is_number).names.lookup ("bool" : Str) = some NameKind.globalImplicit := by decide +kernel
theorem k_l_is_fraction_l_thing : (defScope s_l_is_fraction).names.lookup ("_law_thing" : Str) = some NameKind.local := by decide +kernel
theorem k_l_is_fraction_isinstance : (defScope s_l_is_fraction).names.lookup ("isinstance" : Str) = some NameKind.globalImplicit := by decide +kernel
theorem k_l_is_fraction_tuple : (defScope s_l_is_fraction).names.lookup ("tuple" : Str) = some NameKind.globalImplicit := by decide +kernel
theorem k_l_is_fraction_len : (defScope s_l_is_fraction).names.lookup ("len" : Str) = some NameKind.globalImplicit := by decide +kernel
theorem k_l_is_fraction_all : (defScope s_l_is_fraction).names.lookup ("all" : Str) = some NameKind.globalImplicit := by decide +kernel
theorem k_l_is_fraction_l_lowest : (defScope s_l_is_fraction).names.lookup ("_law_lowest" : Str) = some NameKind.globalImplicit := by decide +kernel
theorem k_l_is_much_l_thing : (defScope s_l_is_much).names.lookup ("_law_thing" : Str) = some NameKind.local := by decide +kernel
theorem k_l_is_much_l_is_fraction : (defScope s_l_is_much).names.lookup ("_law_is_fraction" : Str) = some NameKind.globalImplicit := by decide +kernel
theorem k_l_is_name_l_thing : (defScope s_l_is_name).names.lookup ("_law_thing" : Str) = some NameKind.local := by decide +kernel
theorem k_l_is_name_isinstance : (defScope s_l_is_name).names.lookup ("isinstance" : Str) = some NameKind.globalImplicit := by decide +kernel
theorem k_l_is_name_str : (defScope s_l_is_name).names.lookup ("str" : Str) = some NameKind.globalImplicit := by decide +kernel
theorem k_l_is_name_len : (defScope s_l_is_name).names.lookup ("len" : Str) = some NameKind.globalImplicit := by decide +kernel
theorem k_l_is_name_all : (defScope s_l_is_name).names.lookup ("all" : Str) = some NameKind.globalImplicit := by decide +kernel
theorem k_l_paths_to_l_thing : (defScope s_l_paths_to).names.lookup ("_law_thing" : Str) = some NameKind.local := by decide +kernel
theorem k_l_paths_to_l_path : (defScope s_l_paths_to).names.lookup ("_law_path" : Str) = some NameKind.local := by decide +kernel
theorem k_l_paths_to_l_found : (defScope s_l_paths_to).names.lookup ("_law_found" : Str) = some NameKind.local := by decide +kernel
theorem k_l_paths_to_l_k : (defScope s_l_paths_to).names.lookup ("_law_k" : Str) = some NameKind.local := by decide +kernel
theorem k_l_paths_to_l_one : (defScope s_l_paths_to).names.lookup ("_law_one" : Str) = some NameKind.local := by decide +kernel
theorem k_l_paths_to_isinstance : (defScope s_l_paths_to).names.lookup ("isinstance" : Str) = some NameKind.globalImplicit := by decide +kernel
theorem k_l_paths_to_list : (defScope s_l_paths_to).names.lookup ("list" : Str) = some NameKind.globalImplicit := by decide +kernel
theorem k_l_paths_to_tuple : (defScope s_l_paths_to).names.lookup ("tuple" : Str) = some NameKind.globalImplicit := by decide +kernel
theorem k_l_paths_to_enumerate : (defScope s_l_paths_to).names.lookup ("enumerate" : Str) = some NameKind.globalImplicit := by decide +kernel
theorem k_l_paths_to_l_paths_to : (defScope s_l_paths_to).names.lookup ("_law_paths_to" : Str) = some NameKind.globalImplicit := by decide +kernel
theorem k_l_bent_part_l_box : (defScope s_l_bent_part).names.lookup ("_law_box" : Str) = some NameKind.local := by decide +kernel
theorem k_l_bent_part_l_thing : (defScope s_l_bent_part).names.lookup ("_law_thing" : Str) = some NameKind.local := by decide +kernel
theorem k_l_bent_part_l_way : (defScope s_l_bent_part).names.lookup ("_law_way" : Str) = some NameKind.local := by decide +kernel
theorem k_l_bent_part_l_spot : (defScope s_l_bent_part).names.lookup ("_law_spot" : Str) = some NameKind.local := by decide +kernel
theorem k_l_bent_part_l_k : (defScope s_l_bent_part).names.lookup ("_law_k" : Str) = some NameKind.local := by decide +kernel
theorem k_l_bent_part_l_sign : (defScope s_l_bent_part).names.lookup ("_law_sign" : Str) = some NameKind.local := by decide +kernel
theorem k_l_bent_part_l_some : (defScope s_l_bent_part).names.lookup ("_law_some" : Str) = some NameKind.local := by decide +kernel
theorem k_l_bent_part_l_n : (defScope s_l_bent_part).names.lookup ("_law_n" : Str) = some NameKind.local := by decide +kernel
theorem k_l_bent_part_l_a : (defScope s_l_bent_part).names.lookup ("_law_a" : Str) = some NameKind.local := by decide +kernel
theorem k_l_bent_part_l_b : (defScope s_l_bent_part).names.lookup ("_law_b" : Str) = some NameKind.local := by decide +kernel
theorem k_l_bent_part_l_bent : (defScope s_l_bent_part).names.lookup ("_law_bent" : Str) = some NameKind.local := by decide +kernel
theorem k_l_bent_part_l_take : (defScope s_l_bent_part).names.lookup ("_law_take" : Str) = some NameKind.globalImplicit := by decide +kernel
theorem k_l_bent_part_isinstance : (defScope s_l_bent_part).names.lookup ("isinstance" : Str) = some NameKind.globalImplicit := by decide +kernel
theorem k_l_bent_part_str : (defScope s_l_bent_part).names.lookup ("str" : Str) = some NameKind.globalImplicit := by decide +kernel
theorem k_l_bent_part_len : (defScope s_l_bent_part).names.lookup ("len" : Str) = some NameKind.globalImplicit := by decide +kernel
theorem k_l_bent_part_list : (defScope s_l_bent_part).names.lookup ("list" : Str) = some NameKind.globalImplicit := by decide +kernel
theorem k_l_bent_part_tuple : (defScope s_l_bent_part).names.lookup ("tuple" : Str) = some NameKind.globalImplicit := by decide +kernel
theorem k_l_bent_part_int : (defScope s_l_bent_part).names.lookup ("int" : Str) = some NameKind.globalImplicit := by decide +kernel
theorem k_l_with_l_box : (defScope s_l_with).names.lookup ("_law_box" : Str) = some NameKind.local := by decide +kernel
theorem k_l_with_l_thing : (defScope s_l_with).names.lookup ("_law_thing" : Str) = some NameKind.local := by decide +kernel
theorem k_l_with_l_path : (defScope s_l_with).names.lookup ("_law_path" : Str) = some NameKind.local := by decide +kernel
theorem k_l_with_l_found : (defScope s_l_with).names.lookup ("_law_found" : Str) = some NameKind.local := by decide +kernel
theorem k_l_with_l_bent_part : (defScope s_l_with).names.lookup ("_law_bent_part" : Str) = some NameKind.globalImplicit := by decide +kernel
theorem k_l_with_list : (defScope s_l_with).names.lookup ("list" : Str) = some NameKind.globalImplicit := by decide +kernel
theorem k_l_with_l_with : (defScope s_l_with).names.lookup ("_law_with" : Str) = some NameKind.globalImplicit := by decide +kernel
theorem k_l_with_isinstance : (defScope s_l_with).names.lookup ("isinstance" : Str) = some NameKind.globalImplicit := by decide +kernel
theorem k_l_with_tuple : (defScope s_l_with).names.lookup ("tuple" : Str) = some NameKind.globalImplicit := by decide +kernel
theorem k_l_spoilt_l_box : (defScope s_l_spoilt).names.lookup ("_law_box" : Str) = some NameKind.local := by decide +kernel
theorem k_l_spoilt_l_thing : (defScope s_l_spoilt).names.lookup ("_law_thing" : Str) = some NameKind.local := by decide +kernel
theorem k_l_spoilt_l_some : (defScope s_l_spoilt).names.lookup ("_law_some" : Str) = some NameKind.local := by decide +kernel
theorem k_l_spoilt_l_paths_to : (defScope s_l_spoilt).names.lookup ("_law_paths_to" : Str) = some NameKind.globalImplicit := by decide +kernel
theorem k_l_spoilt_l_with : (defScope s_l_spoilt).names.lookup ("_law_with" : Str) = some NameKind.globalImplicit := by decide +kernel
theorem k_l_spoilt_l_take : (defScope s_l_spoilt).names.lookup ("_law_take" : Str) = some NameKind.globalImplicit := by decide +kernel
theorem k_l_spoilt_len : (defScope s_l_spoilt).names.lookup ("len" : Str) = some NameKind.globalImplicit := by decide +kernel
theorem k_l_is_tie_l_places : (defScope s_l_is_tie).names.lookup ("_law_places" : Str) = some NameKind.local := by decide +kernel
theorem k_l_is_tie_l_thing : (defScope s_l_is_tie).names.lookup ("_law_thing" : Str) = some NameKind.local := by decide +kernel
theorem k_l_is_tie_isinstance : (defScope s_l_is_tie).names.lookup ("isinstance" : Str) = some NameKind.globalImplicit := by decide +kernel
theorem k_l_is_tie_tuple : (defScope s_l_is_tie).names.lookup ("tuple" : Str) = some NameKind.globalImplicit := by decide +kernel
theorem k_l_is_tie_len : (defScope s_l_is_tie).names.lookup ("len" : Str) = some NameKind.globalImplicit := by decide +kernel
theorem k_l_is_tie_all : (defScope s_l_is_tie).names.lookup ("all" : Str) = some NameKind.globalImplicit := by decide +kernel
theorem k_l_due_l_thing : (defScope s_l_due).names.lookup ("_law_thing" : Str) = some NameKind.local := by decide +kernel
theorem k_l_due_l_places : (defScope s_l_due).names.lookup ("_law_places" : Str) = some NameKind.cell := by decide +kernel
theorem k_l_due_l_ties : (defScope s_l_due).names.lookup ("_law_ties" : Str) = some NameKind.local := by decide +kernel
theorem k_l_due_isinstance : (defScope s_l_due).names.lookup ("isinstance" : Str) = some NameKind.globalImplicit := by decide +kernel
theorem k_l_due_tuple : (defScope s_l_due).names.lookup ("tuple" : Str) = some NameKind.globalImplicit := by decide +kernel
theorem k_l_due_len : (defScope s_l_due).names.lookup ("len" : Str) = some NameKind.globalImplicit := by decide +kernel
theorem k_l_due_all : (defScope s_l_due).names.lookup ("all" : Str) = some NameKind.globalImplicit := by decide +kernel
theorem k_l_due_any : (defScope s_l_due).names.lookup ("any" : Str) = some NameKind.globalImplicit := by decide +kernel
theorem k_l_asked_l_thing : (defScope s_l_asked).names.lookup ("_law_thing" : Str) = some NameKind.local := by decide +kernel
theorem k_l_asked_l_kept : (defScope s_l_asked).names.lookup ("_law_kept" : Str) = some NameKind.local := by decide +kernel
theorem k_l_asked_l_found : (defScope s_l_asked).names.lookup ("_law_found" : Str) = some NameKind.local := by decide +kernel
theorem k_l_asked_str : (defScope s_l_asked).names.lookup ("str" : Str) = some NameKind.globalImplicit := by decide +kernel
theorem k_l_asked_is_net : (defScope s_l_asked).names.lookup ("is_net" : Str) = some NameKind.globalImplicit := by decide +kernel
theorem k_l_asked_isinstance : (defScope s_l_asked).names.lookup ("isinstance" : Str) = some NameKind.globalImplicit := by decide +kernel
theorem k_l_asked_bool : (defScope s_l_asked).names.lookup ("bool" : Str) = some NameKind.globalImplicit := by decide +kernel
theorem k_l_asked_l_due : (defScope s_l_asked).names.lookup ("_law_due" : Str) = some NameKind.globalImplicit := by decide +kernel
theorem k_law_l_script : (defScope s_law).names.lookup ("_law_script" : Str) = some NameKind.local := by decide +kernel
theorem k_law_l_cells : (defScope s_law).names.lookup ("_law_cells" : Str) = some NameKind.local := by decide +kernel
theorem k_law_l_k : (defScope s_law).names.lookup ("_law_k" : Str) = some NameKind.local := by decide +kernel
theorem k_law_l_box : (defScope s_law).names.lookup ("_law_box" : Str) = some NameKind.local := by decide +kernel
theorem k_law_l_net : (defScope s_law).names.lookup ("_law_net" : Str) = some NameKind.local := by decide +kernel
theorem k_law_l_things : (defScope s_law).names.lookup ("_law_things" : Str) = some NameKind.local := by decide +kernel
theorem k_law_l_turn : (defScope s_law).names.lookup ("_law_turn" : Str) = some NameKind.local := by decide +kernel
theorem k_law_l_bent : (defScope s_law).names.lookup ("_law_bent" : Str) = some NameKind.local := by decide +kernel
theorem k_law_l_odd : (defScope s_law).names.lookup ("_law_odd" : Str) = some NameKind.local := by decide +kernel
theorem k_law_l_folded : (defScope s_law).names.lookup ("_law_folded" : Str) = some NameKind.globalImplicit := by decide +kernel
theorem k_law_range : (defScope s_law).names.lookup ("range" : Str) = some NameKind.globalImplicit := by decide +kernel
theorem k_law_len : (defScope s_law).names.lookup ("len" : Str) = some NameKind.globalImplicit := by decide +kernel
theorem k_law_l_box_of : (defScope s_law).names.lookup ("_law_box_of" : Str) = some NameKind.globalImplicit := by decide +kernel
theorem k_law_l_net_by : (defScope s_law).names.lookup ("_law_net_by" : Str) = some NameKind.globalImplicit := by decide +kernel
theorem k_law_is_net : (defScope s_law).names.lookup ("is_net" : Str) = some NameKind.globalImplicit := by decide +kernel
theorem k_law_list : (defScope s_law).names.lookup ("list" : Str) = some NameKind.globalImplicit := by decide +kernel
theorem k_law_l_spoilt : (defScope s_law).names.lookup ("_law_spoilt" : Str) = some NameKind.globalImplicit := by decide +kernel
theorem k_law_all : (defScope s_law).names.lookup ("all" : Str) = some NameKind.globalImplicit := by decide +kernel
end K04

namespace K04
open PySem L2
section
variable {P : Program} {w : World} {K : PySem.W.Frag} {mg : Str → Option Value} {base : Heap}
def spNum : Sp := fun vs H Q _ => ∃ (x : V) (d : PyData) (E : Addr → Prop), vs = [x] ∧ IsD E H x d ∧ Q (.bl (isNum d)) H
theorem ok_is_number (T : Txt K mg) : FnOk P w K mg base CX0 1 T.f_is_number T.d_is_number ["thing"] spNum := by
  refine T.F_is_number.ok sc_is_number (fun vs H Q E h => ?_) (fun cdv A outer s H vs Q E hr h => ?_)
  · obtain ⟨x, d, F, rfl, _⟩ := h
    rfl
  · obtain ⟨x, d, F, rfl, hx, k⟩ := h
    refine ⟨_, (pss_one (ps_ret (pe_and (pe_callB call_isinst (by rfl) T.b_isinstance boot_b_isinstance (pa_cons (pv 0) (pa_cons (pe_ty rfl T.b_int boot_ty_int) pa_nil))) (pe_one (pe_not (pe_callB call_isinst (by rfl) T.b_isinstance boot_b_isinstance (pa_cons (pv 0) (pa_cons (pe_ty rfl T.b_bool boot_ty_bool) pa_nil)))))))), ?_⟩
    refine ⟨_, rfl, _, _, _, _, rfl, hx.ty, kit_int d, _, rfl, ?_⟩
    have rest : ∀ b, isNum d = !b → isBoolB d = b → tNotV (tCB (fun xs H Q => ∃ x T t b, xs = [x, .ty T] ∧ TyOf K H x t ∧ PySem.W.kitOne K t (.type T) = some b ∧ Q (.bl b) H) (tCons (tVar 0) (tCons (tC (.ty "bool")) tNil))) (start ["thing"] [x]) H Q := fun b e1 e2 => by
      refine ⟨_, rfl, _, _, _, _, rfl, hx.ty, kit_bool d, _, rfl, ?_⟩
      rw [e2, ← e1]
      exact k
    cases d with
    | int i => exact iteT (rest false rfl rfl)
    | bool b => exact iteT (rest true rfl rfl)
    | none => exact iteF k
    | str _ => exact iteF k
    | list _ => exact iteF k
    | tuple _ => exact iteF k
    | dict _ => exact iteF k
def spGcd : Sp := fun vs H Q _ => ∃ (n d : Int), vs = [.int n, .int d] ∧ Q (.int (Int.gcd n d : Nat)) H
theorem ok_common_divisor (T : Txt K mg) : FnOk P w K mg base CX0 1 T.f_common_divisor T.d_common_divisor ["n", "d"] spGcd := by
  refine T.F_common_divisor.ok sc_common_divisor (fun vs H Q E h => ?_) (fun cdv A outer s H vs Q E hr h => ?_)
  · obtain ⟨n, d, rfl, _⟩ := h
    rfl
  · obtain ⟨n, d, rfl, k⟩ := h
    refine ⟨_, (pss_cons (ps_while PassesOwn.never (pt_cmpR op_ne (pv 1) pe_int (nomark _)) (pss_one (ps_par (i := 0) (j := 1) rfl sc_common_divisor.nd rfl rfl (by decide) rfl rfl (pa_cons (pv 1) (pa_cons (pe_op op_modN (pv 0) (pv 1)) pa_nil)) rfl)))
      (pss_one (ps_ret (pe_callB call_abs (by rfl) T.b_abs boot_b_abs (pa_cons (pv 0) pa_nil))))), ?_⟩
    refine ⟨fun m σ H' => ∃ a b : Int, σ = [some (.int a), some (.int b)] ∧ H' = H ∧ Int.gcd a b = Int.gcd n d ∧ m = b.natAbs, ⟨_, n, d, rfl, rfl, rfl, rfl⟩, ?_⟩
    rintro m σ H' ⟨a, b, rfl, rfl, hg, rfl⟩
    refine ⟨_, rfl, rfl, _, rfl, ?_⟩
    by_cases hb : b = 0
    · subst hb
      refine iteF ?_
      refine ⟨_, rfl, _, rfl, ?_⟩
      rw [← KM.gcd_zero_abs, hg]
      exact k
    · have e : (!decide (V.int b = V.int 0)) = true := by
        rw [decide_eq_false (fun z => hb (by injection z))]; rfl
      rw [e]
      refine iteT ⟨fun σ' H'' => ∃ a' b' : Int, σ' = [some (.int a'), some (.int b')] ∧ H'' = H' ∧ Int.gcd a' b' = Int.gcd n d ∧ b'.natAbs < b.natAbs, ?_, ?_⟩
      · rintro σ' H'' ⟨a', b', rfl, rfl, h1, h2⟩
        exact ⟨_, h2, a', b', rfl, rfl, h1, rfl⟩
      · refine ⟨_, rfl, _, rfl, _, rfl, _, _, rfl, rfl, hb, _, _, rfl, ?_⟩
        exact ⟨b, a.fmod b, rfl, rfl, (KM.gcd_fmod a b).trans hg, KM.fmod_natAbs_lt a b hb⟩
def isFr : PyData → Bool
  | .tuple [.int n, .int d] => decide (1 ≤ d) && decide (Int.gcd n d = 1)
  | _ => false
def spFr : Sp := fun vs H Q _ => ∃ (x : V) (d : PyData) (E : Addr → Prop), vs = [x] ∧ IsD E H x d ∧ Q (.bl (isFr d)) H
theorem ok_is_fraction (T : Txt K mg) : FnOk P w K mg base CX0 2 T.f_is_fraction T.d_is_fraction ["thing"] spFr := by
  have G_is_number := ok_is_number (P := P) (w := w) (base := base) T
  have G_common_divisor := ok_common_divisor (P := P) (w := w) (base := base) T
  refine T.F_is_fraction.ok sc_is_fraction (fun vs H Q E h => ?_) (fun cdv A outer s H vs Q E hr h => ?_)
  · obtain ⟨x, d, F, rfl, _⟩ := h
    rfl
  · obtain ⟨x, d, F, rfl, hx, k⟩ := h
    refine ⟨_, (pss_cons (ps_if (PW.pt (pw_or (pt_not (pt_val (pe_callB call_isinst (by rfl) T.b_isinstance boot_b_isinstance (pa_cons (pv 0) (pa_cons (pe_ty rfl T.b_tuple boot_ty_tuple) pa_nil))))) (pw_or1 (pt_cmpR op_ne (pe_callB call_len_seq (by rfl) T.b_len boot_b_len (pa_cons (pv 0) pa_nil)) pe_int (nomark _))))) (pss_one (ps_ret pe_bl)) pss_nil)
      (pss_cons (ps_asg (pv 0) (pg_tup rfl (pgs_cons (pg_name (i := 1) sc_is_fraction.nd rfl (Or.inl rfl)) (pgs_cons (pg_name (i := 2) sc_is_fraction.nd rfl (Or.inl rfl)) pgs_nil))))
      (pss_cons (ps_if (PW.pt (pw_or (pt_not (pt_val (pe_call G_is_number (hr.mono (by decide)) rfl T.m_is_number T.F_is_number.kp T.B_is_number .nil pass0 (pa_cons (pv 1) pa_nil)))) (pw_or1 (pt_not (pt_val (pe_call G_is_number (hr.mono (by decide)) rfl T.m_is_number T.F_is_number.kp T.B_is_number .nil pass0 (pa_cons (pv 2) pa_nil))))))) (pss_one (ps_ret pe_bl)) pss_nil)
      (pss_one (ps_ret (pe_and (pe_cmpR op_ge (pv 2) pe_int (nomark _)) (pe_one (pe_cmpR op_eq (pe_call G_common_divisor (hr.mono (by decide)) rfl T.m_common_divisor T.F_common_divisor.kp T.B_common_divisor .nil pass0 (pa_cons (pv 1) (pa_cons (pv 2) pa_nil))) pe_int (nomark _))))))))), ?_⟩
    -- isinstance(thing, tuple)
    refine ⟨_, rfl, _, _, _, _, rfl, hx.ty, kit_tuple d, _, rfl, ?_⟩
    cases hx with
    | non => exact iteT (iteT k)
    | bl b => exact iteT (iteT k)
    | int i => exact iteT (iteT k)
    | str y => exact iteT (iteT k)
    | lst h ne r => exact iteT (iteT k)
    | @tup a xs ds h r =>
      refine iteF ?_
      -- len(thing) != 2
      refine ⟨_, rfl, _, xs, rfl, .inr (SqT.of h), rfl, _, rfl, ?_⟩
      have hl := r.length
      by_cases h2 : xs.length = 2
      · have e : (!decide (V.int (xs.length : Int) = V.int 2)) = false := by
          rw [h2]; rfl
        rw [e]
        refine iteF ?_
        obtain ⟨v1, v2, rfl⟩ : ∃ v1 v2, xs = [v1, v2] := by
          match xs, h2 with
          | [a, b], _ => exact ⟨a, b, rfl⟩
        cases r with
        | @cons _ _ d1 _ r1 r =>
        cases r with
        | @cons _ _ d2 _ r2 r =>
        cases r
        refine ⟨_, rfl, a, [v1, v2], rfl, SqT.of h, rfl, v1, [v2], rfl, v2, [], rfl, rfl, ?_⟩
        -- is_number of both
        refine ⟨_, rfl, v1, d1, F, rfl, r1, _, rfl, ?_⟩
        cases r1 with
        | non => exact iteT (iteT k)
        | bl b => exact iteT (iteT k)
        | str y => exact iteT (iteT k)
        | lst _ _ _ => exact iteT (iteT k)
        | tup _ _ => exact iteT (iteT k)
        | int n =>
          refine iteF ?_
          refine ⟨_, rfl, v2, d2, F, rfl, r2, _, rfl, ?_⟩
          cases r2 with
          | non => exact iteT k
          | bl b => exact iteT k
          | str y => exact iteT k
          | lst _ _ _ => exact iteT k
          | tup _ _ => exact iteT k
          | int de =>
            refine iteF ?_
            refine ⟨_, rfl, _, _, rfl, rfl, _, rfl, ?_⟩
            by_cases he : 1 ≤ de
            · rw [decide_eq_true he]
              refine iteT ?_
              refine ⟨_, rfl, _, rfl, n, de, rfl, rfl, ?_⟩
              have q : isFr (.tuple [.int n, .int de]) = decide (V.int ((Int.gcd n de : Nat) : Int) = V.int 1) := by
                show (decide (1 ≤ de) && decide (Int.gcd n de = 1)) = _
                rw [decide_eq_true he, Bool.true_and]
                by_cases g : Int.gcd n de = 1
                · rw [g]; rfl
                · rw [decide_eq_false g, decide_eq_false]
                  intro z
                  injection z with z
                  exact g (by omega)
              rw [← q]
              exact k
            · rw [decide_eq_false he]
              refine iteF ?_
              have q : isFr (.tuple [.int n, .int de]) = false := by
                show (decide (1 ≤ de) && decide (Int.gcd n de = 1)) = _
                rw [decide_eq_false he, Bool.false_and]
              rw [← q]
              exact k
      · have e : (!decide (V.int (xs.length : Int) = V.int 2)) = true := by
          rw [decide_eq_false]
          · rfl
          · intro z
            injection z with z
            exact h2 (by omega)
        rw [e]
        refine iteT ?_
        have q : isFr (.tuple ds) = false := by
          unfold isFr
          split
          · rename_i z
            injection z with z
            subst z
            simp at hl
            exact absurd hl h2
          · rfl
        rw [← q]
        exact k
end
end K04

namespace K04
open PySem L2
section
variable {P : Program} {w : World} {K : PySem.W.Frag} {mg : Str → Option Value} {base : Heap}
theorem ok_take (T : Txt K mg) : FnOk P w K mg base CX0 1 T.f_l_take T.d_l_take ["_law_box", "_law_many"] spTake := by
  refine T.F_l_take.ok sc_l_take (fun vs H Q E h => ?_) (fun cdv A outer s H vs Q E hr h => ?_)
  · obtain ⟨b, many, t, rfl, _⟩ := h
    rfl
  · obtain ⟨b, many, t, rfl, ⟨c, x, hb, hc, hx0, hx1⟩, hm0, hm1, ht0, ht1, kk⟩ := h
    refine ⟨_, (pss_cons (ps_if (pt_cmpR op_gt (pe_ix ix_seq (pv 0) pe_int (fun _ _ => rfl)) pe_int (nomark _)) (pss_cons (ps_asg (pe_callB call_divmodB (by rfl) T.b_divmod boot_b_divmod (pa_cons (pe_ix ix_seq (pv 0) pe_int (fun _ _ => rfl)) (pa_cons (pv 1) pa_nil))) (pg_tup rfl (pgs_cons (pg_sub (pv 0) pe_int set_list) (pgs_cons (pg_name (i := 2) sc_l_take.nd rfl (Or.inl rfl)) pgs_nil))))
        (pss_one (ps_ret (pv 2)))) pss_nil)
      (pss_cons (ps_asg (pe_op op_add (pe_ix ix_seq (pv 0) pe_int (fun _ _ => rfl)) pe_int) (pg_sub (pv 0) pe_int set_list))
      (pss_cons (ps_set (i := 3) sc_l_take.nd rfl (Or.inl rfl) (pe_op op_mod (pe_op op_pow (pe_op op_add (pe_ix ix_seq (pv 0) pe_int (fun _ _ => rfl)) (pe_op op_mul pe_int (pe_ix ix_seq (pv 0) pe_int (fun _ _ => rfl)))) pe_int) pe_int))
      (pss_one (ps_ret (pe_op op_mod (pe_op op_fdiv (pe_op op_mod (pe_op op_add (pe_op op_mul (pv 3) pe_int) (pe_op op_mul (pe_op op_mul (pe_ix ix_seq (pv 0) pe_int (fun _ _ => rfl)) (pe_ix ix_seq (pv 0) pe_int (fun _ _ => rfl))) pe_int)) pe_int) pe_int) (pv 1))))))), ?_⟩
    refine ⟨_, rfl, .inl ⟨b, _, _, _, rfl, rfl, SqL.of hb, rfl, _, _, rfl, rfl, _, rfl, ?_⟩⟩
    refine ite2 (fun h => ?_) (fun h => ?_)
    · refine ⟨_, rfl, .inl ⟨b, _, _, _, rfl, rfl, SqL.of hb, rfl, _, rfl, _, _, rfl, ⟨hm0, hm1⟩, fun p hp => ⟨p, _, rfl, SqT.of upd_same, rfl, _, _, rfl, _, rfl, b, [.int c, .int x, .int t], _, 0, rfl, rfl, ?_, rfl, _, _, rfl, rfl, _, rfl, ?_⟩⟩⟩
      · rw [upd_ne (ne_of_none hb hp)]; exact hb
      · have hb' : upd H p (.tup [.int (c / many), .int (c % many)]) b = some (.lst [.int c, .int x, .int t]) := by rw [upd_ne (ne_of_none hb hp)]; exact hb
        exact kk _ t _ (Int.emod_nonneg _ (Int.ne_of_gt hm0)) (Int.emod_lt_of_pos _ hm0) (Int.le_refl _) (by omega) (sameE_upd (Same.new hp) hb') ⟨_, _, upd_same, Int.ediv_nonneg hc (Int.le_of_lt hm0), hx0, hx1⟩
    · refine ⟨_, rfl, .inl ⟨b, _, _, _, rfl, rfl, SqL.of hb, rfl, _, _, rfl, rfl, _, rfl, b, _, _, 2, rfl, rfl, hb, rfl, ?_⟩⟩
      refine ⟨_, rfl, .inl ⟨b, _, _, _, rfl, rfl, SqL.of upd_same, rfl, _, rfl, .inl ⟨b, _, _, _, rfl, rfl, SqL.of upd_same, rfl, _, _, rfl, rfl, .inl ⟨by decide, by decide⟩, _, _, rfl, rfl, _, _, rfl, rfl, ⟨by decide, by decide, ?_⟩, _, _, rfl, rfl, ?_, ?_⟩⟩⟩
      · have : (x + 39373 * (t + 1)).natAbs < 2 ^ 64 := by omega
        exact this
      · show (0 : Int) < 2147483647; decide
      have ho0 : 0 ≤ (x + 39373 * (t + 1)) ^ (5 : Int).toNat % 2147483647 := Int.emod_nonneg _ (by decide)
      have ho1 : (x + 39373 * (t + 1)) ^ (5 : Int).toNat % 2147483647 < 2147483647 := Int.emod_lt_of_pos _ (by decide)
      generalize (x + 39373 * (t + 1)) ^ (5 : Int).toNat % 2147483647 = on at ho0 ho1 ⊢
      refine ⟨_, rfl, _, _, rfl, rfl, .inr ⟨by decide, by decide⟩, _, rfl, .inl ⟨b, _, _, _, rfl, rfl, SqL.of upd_same, rfl, _, rfl, .inl ⟨b, _, _, _, rfl, rfl, SqL.of upd_same, rfl, _, _, rfl, rfl, .inl ⟨?_, ?_⟩, _, _, rfl, rfl, .inr ⟨by decide, by decide⟩, _, _, rfl, rfl, _, _, rfl, rfl, ?_, _, _, rfl, rfl, ⟨by decide, by decide⟩, _, rfl, _, _, rfl, rfl, hm0, ?_⟩⟩⟩
      · show -(2 ^ 64) < t + 1; omega
      · show t + 1 < 2 ^ 64; omega
      · show (0 : Int) < 2147483629; decide
      · exact kk _ (t + 1) _ (Int.emod_nonneg _ (Int.ne_of_gt hm0)) (Int.emod_lt_of_pos _ hm0) (by omega) (Int.le_refl _) (sameE_upd (Same.refl H) hb) ⟨c, x, upd_same, hc, hx0, hx1⟩
end
end K04

namespace K04
open PySem L2
section
variable {P : Program} {w : World} {K : PySem.W.Frag} {mg : Str → Option Value} {base : Heap}
def spLow : Sp := fun vs H Q _ => ∃ n d : Int, vs = [.int n, .int d] ∧ d ≠ 0 ∧ d.natAbs.log2 < 9000 ∧ ∀ p, H p = none → Q (.ref p) (upd H p (.tup [.int (KM.low n d).1, .int (KM.low n d).2]))
theorem gcd_log {n d : Int} (hd : d ≠ 0) (h : d.natAbs.log2 < 9000) : CDivB n ((Int.gcd n d : Nat) : Int) := by
  have g0 := KM.gcd_pos (n := n) hd
  refine ⟨by omega, ?_⟩
  have h1 : Int.gcd n d ≤ d.natAbs := Nat.le_of_dvd (by omega) (by
    have : ((Int.gcd n d : Nat) : Int) ∣ d := Int.gcd_dvd_right ..
    exact Int.ofNat_dvd_left.mp this)
  have h2 : d.natAbs < 2 ^ 9000 := (Nat.log2_lt (by omega)).mp h
  rw [Int.natAbs_natCast]
  exact (Nat.log2_lt (by omega)).mpr (Nat.lt_of_le_of_lt h1 h2)
theorem ok_lowest (T : Txt K mg) : FnOk P w K mg base CX0 1 T.f_l_lowest T.d_l_lowest ["_law_n", "_law_d"] spLow := by
  refine T.F_l_lowest.ok sc_l_lowest (fun vs H Q E h => ?_) (fun cdv A outer s H vs Q E hr h => ?_)
  · obtain ⟨n, d, rfl, _⟩ := h
    rfl
  · obtain ⟨n, d, rfl, hd, hl, k⟩ := h
    refine ⟨_, (pss_cons (ps_par (i := 2) (j := 3) rfl sc_l_lowest.nd rfl rfl (by decide) rfl rfl (pa_cons (pe_callB call_abs (by rfl) T.b_abs boot_b_abs (pa_cons (pv 0) pa_nil)) (pa_cons (pe_callB call_abs (by rfl) T.b_abs boot_b_abs (pa_cons (pv 1) pa_nil)) pa_nil)) rfl)
      (pss_cons (ps_while PassesOwn.never (pt_cmpR op_gt (pv 3) pe_int (nomark _)) (pss_one (ps_par (i := 2) (j := 3) rfl sc_l_lowest.nd rfl rfl (by decide) rfl rfl (pa_cons (pv 3) (pa_cons (pe_op op_mod (pv 2) (pv 3)) pa_nil)) rfl)))
      (pss_one (ps_ret (pe_ifExp (pt_cmpR op_gt (pv 1) pe_int (nomark _)) (pe_tup (pa_cons (pe_op op_fdivB (pv 0) (pv 2)) (pa_cons (pe_op op_fdivB (pv 1) (pv 2)) pa_nil))) (pe_tup (pa_cons (pe_op op_fdivB (pe_un un_neg (pv 0)) (pv 2)) (pa_cons (pe_op op_fdivB (pe_un un_neg (pv 1)) (pv 2)) pa_nil)))))))), ?_⟩
    refine ⟨_, rfl, _, rfl, _, rfl, _, rfl, _, _, rfl, ?_⟩
    refine ⟨fun m σ H' => ∃ a b : Int, σ = [some (.int n), some (.int d), some (.int a), some (.int b)] ∧ H' = H ∧ 0 ≤ a ∧ 0 ≤ b ∧ Int.gcd a b = Int.gcd n d ∧ m = b.natAbs, ⟨_, _, _, rfl, rfl, abs_nn n, abs_nn d, KM.gcd_abs n d, rfl⟩, ?_⟩
    rintro m σ H' ⟨a, b, rfl, rfl, ha, hb, hg, rfl⟩
    refine ⟨_, rfl, _, _, rfl, rfl, _, rfl, ?_⟩
    by_cases hb0 : 0 < b
    · rw [decide_eq_true hb0]
      refine iteT ⟨fun σ' H'' => ∃ a' b' : Int, σ' = [some (.int n), some (.int d), some (.int a'), some (.int b')] ∧ H'' = H' ∧ 0 ≤ a' ∧ 0 ≤ b' ∧ Int.gcd a' b' = Int.gcd n d ∧ b'.natAbs < b.natAbs, ?_, ?_⟩
      · rintro σ' H'' ⟨a', b', rfl, rfl, h0, h1, h2, h3⟩
        exact ⟨_, h3, a', b', rfl, rfl, h0, h1, h2, rfl⟩
      · refine ⟨_, rfl, _, rfl, _, rfl, _, _, rfl, rfl, hb0, _, _, rfl, ?_⟩
        have q0 := Int.emod_nonneg a (Int.ne_of_gt hb0)
        have q1 := Int.emod_lt_of_pos a hb0
        exact ⟨b, a % b, rfl, rfl, hb, q0, (KM.gcd_emod a b).trans hg, by omega⟩
    · have hb1 : b = 0 := by omega
      subst hb1
      refine iteF ?_
      have eg : a = ((Int.gcd n d : Nat) : Int) := by
        rw [← hg, KM.gcd_zero_abs, if_neg (by omega)]
      have c1 := gcd_log (n := n) hd hl
      rw [← eg] at c1
      refine ⟨_, rfl, _, _, rfl, rfl, _, rfl, ?_⟩
      by_cases h0 : 0 < d
      · rw [decide_eq_true h0]
        refine iteT ⟨_, rfl, _, rfl, _, _, rfl, rfl, c1, _, rfl, _, rfl, _, _, rfl, rfl, c1, (by show 2 ≤ sizeLine; decide), fun p hp => ?_⟩
        have q := k p hp
        unfold KM.low at q
        rw [if_pos h0, ← eg] at q
        exact q
      · rw [decide_eq_false h0]
        refine iteF ⟨_, rfl, _, rfl, _, rfl, _, _, rfl, rfl, c1, _, rfl, _, rfl, _, rfl, _, _, rfl, rfl, c1, (by show 2 ≤ sizeLine; decide), fun p hp => ?_⟩
        have q := k p hp
        unfold KM.low at q
        rw [if_neg h0, ← eg] at q
        exact q
end
end K04

namespace K04
open PySem L2
section
variable {P : Program} {w : World} {K : PySem.W.Frag} {mg : Str → Option Value} {base : Heap}
theorem ok_folded (T : Txt K mg) : FnOk P w K mg base CX0 1 T.f_l_folded T.d_l_folded ["_law_script", "_law_many"] (spFold K) := by
  refine T.F_l_folded.ok sc_l_folded (fun vs H Q E h => ?_) (fun cdv A outer s H vs Q E hr h => ?_)
  · obtain ⟨a, ns, many, rfl, _⟩ := h
    rfl
  · obtain ⟨a, ns, many, rfl, hS, hn, hm0, hm1, kk⟩ := h
    refine ⟨_, (pss_cons (ps_set (i := 2) sc_l_folded.nd rfl (Or.inl rfl) (pe_callTy call_list_of (by rfl) T.b_list boot_ty_list (pa_cons (pe_slice sl_list (pv 0) po_none (po_some (pv 1))) pa_nil)))
      (pss_cons (ps_for PassesOwn.never rfl (pi_enum rfl T.b_enumerate (pa_cons (pe_slice sl_list (pv 0) (po_some (pv 1)) (po_some pe_int)) pa_nil)) (pg_tup rfl (pgs_cons (pg_name (i := 3) sc_l_folded.nd rfl (Or.inl rfl)) (pgs_cons (pg_name (i := 4) sc_l_folded.nd rfl (Or.inl rfl)) pgs_nil))) (pss_one (ps_asg (pe_op op_add (pe_ix ix_seq (pv 2) (pe_op op_mod (pv 3) (pv 1)) (fun _ _ => rfl)) (pe_op op_mul (pv 4) (pe_op op_add (pv 3) pe_int))) (pg_sub (pv 2) (pe_op op_mod (pv 3) (pv 1)) set_list))))
      (pss_one (ps_ret (pe_op op_cat (pv 2) (pe_op op_rep (pe_lst (pa_cons pe_int pa_nil)) (pe_op op_sub pe_int (pe_callB call_len_seq (by rfl) T.b_len boot_b_len (pa_cons (pv 2) pa_nil))))))))), ?_⟩
    -- cells = list(script[:many])
    have cutE : ∀ (lo hi : Option Int), ∃ cs : List Int, cutV (ns.map V.int) lo hi = cs.map V.int ∧ cs.length ≤ ns.length ∧ cs = (ns.drop (HT.sIx ns.length 0 lo)).take (HT.sIx ns.length ns.length hi - HT.sIx ns.length 0 lo) := fun lo hi => by
      refine ⟨(ns.drop (HT.sIx ns.length 0 lo)).take (HT.sIx ns.length ns.length hi - HT.sIx ns.length 0 lo), ?_, ?_, rfl⟩
      · unfold cutV
        rw [List.length_map, List.map_take, List.map_drop]
      · rw [List.length_take, List.length_drop]; omega
    obtain ⟨c1, e1, l1, q1⟩ := cutE none (some many)
    obtain ⟨c2, e2, l2, q2⟩ := cutE (some many) (some 63)
    have em : many = ((many.toNat : Nat) : Int) := by omega
    have l1m : c1.length = min many.toNat ns.length := by
      rw [q1, em, HT.sIx_nat, HT.sIx_none, List.length_take, List.length_drop]
      simp only [Int.toNat_natCast]
      omega
    have l2m : c2.length ≤ ns.length - many.toNat := by
      rw [q2, em, HT.sIx_nat, List.length_take, List.length_drop]
      simp only [Int.toNat_natCast]
      omega
    refine ⟨_, rfl, _, rfl, _, rfl, a, _, rfl, hS, fun p1 hp1 => ⟨p1, _, rfl, .inl (SqL.of upd_same), fun p2 hp2 => ?_⟩⟩
    rw [e1] at hp2 ⊢
    -- for k, cell in enumerate(script[many:63])
    have n12 : p2 ≠ p1 := fun z => by rw [z, upd_same] at hp2; cases hp2
    have s2 : Same H (upd (upd H p1 (.lst (c1.map V.int))) p2 (.lst (c1.map V.int))) := (Same.new hp1).trans (Same.new hp2)
    refine ⟨_, rfl, _, rfl, _, rfl, _, rfl, a, _, rfl, s2.seq hS, fun p3 hp3 => ⟨p3, rfl, ⟨_, SqL.of upd_same⟩, ?_⟩⟩
    rw [e2]
    have s3 := s2.trans (Same.new (o := .lst (c2.map V.int)) hp3)
    have n23 : p2 ≠ p3 := fun z => by rw [← z, upd_same] at hp3; cases hp3
    refine ⟨fun i m σ H' => m = c2.length - i ∧ i ≤ c2.length ∧ ∃ (ms : List Int) (v3 v4 : Option V), σ = [some (.ref a), some (.int many), some (.ref p2), v3, v4] ∧ ms.length = c1.length ∧ H' p2 = some (.lst (ms.map V.int)) ∧ H' p3 = some (.lst (c2.map V.int)) ∧ (∀ b o, b ≠ p2 → H b = some o → H' b = some o) , ⟨_, rfl, Nat.zero_le _, c1, none, none, rfl, rfl, ?_, upd_same, fun b o _ h => s3 b o h⟩, ?_⟩
    · rw [upd_ne n23]; exact upd_same
    rintro i m σ H' ⟨rfl, hi, ms, v3, v4, rfl, hms, h2, h3, hk⟩
    by_cases hlt : i < c2.length
    · refine .inr ⟨⟨c2.map V.int, V.int c2[i], SqL.of h3, by rw [List.getElem?_map]; simp [hlt]⟩, _, fun σ' H'' z => z, ?_⟩
      rintro x H'' ⟨t, y, ht, rfl, rfl, hy⟩
      have hy' := hy _ (SqL.of h3)
      rw [List.getElem?_map, List.getElem?_eq_getElem hlt] at hy'
      obtain rfl : V.int c2[i] = y := Option.some.inj hy'
      have nt2 : p2 ≠ t := ne_of_none h2 ht
      have nt3 : p3 ≠ t := ne_of_none h3 ht
      have hlen : many.toNat < ns.length := by omega
      have hmod0 : 0 ≤ (i : Int) % many := Int.emod_nonneg _ (by omega)
      have hmod1 : (i : Int) % many < many := Int.emod_lt_of_pos _ (by omega)
      have hixlt : ((i : Int) % many).toNat < ms.length := by omega
      refine ⟨t, _, rfl, SqT.of upd_same, rfl, _, _, rfl, _, _, rfl, rfl, _, rfl, _, rfl, _, rfl, _, _, rfl, rfl, (by show (0 : Int) < many; omega), .inl ⟨p2, ms.map V.int, _, V.int ms[((i : Int) % many).toNat], rfl, rfl, SqL.of (by rw [upd_ne nt2]; exact h2), atI_int hmod0 hixlt, _, rfl, _, rfl, _, _, rfl, rfl, _, _, rfl, rfl, .inr ⟨?_, ?_⟩, _, _, rfl, rfl, _, rfl, _, rfl, _, rfl, _, _, rfl, rfl, (by show (0 : Int) < many; omega), p2, ms.map V.int, _, ((i : Int) % many).toNat, rfl, rfl, (by rw [upd_ne nt2]; exact h2), ?_, ?_⟩⟩
      · omega
      · omega
      · unfold ixN
        rw [if_pos hmod0, List.length_map, if_pos (by omega)]
      · refine ⟨c2.length - (i + 1), by omega, rfl, hlt, ms.set ((i : Int) % many).toNat (ms[((i : Int) % many).toNat] + c2[i] * ((i : Int) + 2)), _, _, rfl, by rw [List.length_set]; exact hms, ?_, ?_, fun b o hb h => ?_⟩
        · rw [upd_same, List.map_set]
        · rw [upd_ne (Ne.symm n23), upd_ne nt3]; exact h3
        · have := hk b o hb h
          rw [upd_ne hb, upd_ne (ne_of_none this ht)]
          exact this
    · refine .inl ⟨⟨_, SqL.of h3, by rw [List.length_map]; omega⟩, ?_⟩
      -- return cells + [0] * (2 - len(cells))
      refine ⟨_, rfl, (by show 1 ≤ sizeLine; decide), fun p4 hp4 => ⟨_, rfl, p2, _, rfl, .inl (SqL.of (by rw [upd_ne (ne_of_none h2 hp4)]; exact h2)), _, _, rfl, rfl, p4, _, _, rfl, rfl, upd_same, ?_, ?_, ?_, fun p5 hp5 => ⟨p2, p5, ms.map V.int, _, rfl, rfl, ?_, upd_same, ?_, fun p6 hp6 => ?_⟩⟩⟩
      · rw [List.length_map]; omega
      · rw [List.length_map]; omega
      · rw [List.length_map]
        show 1 * _ ≤ sizeLine
        rw [sizeLine_eq]; omega
      · have q := h2
        rw [← upd_ne (H := H') (o := .lst [.int 0]) (ne_of_none h2 hp4)] at q
        rw [upd_ne (ne_of_none q hp5)]; exact q
      · rw [len_rep, List.length_map, sizeLine_eq]
        simp only [List.length_cons, List.length_nil]
        omega
      · have hp2' : H p2 = none := by
          rw [upd_ne n12] at hp2
          exact hp2
        have sH : Same H H' := fun b o h => hk b o (ne_of_none h hp2') h
        have s45 : ∀ o5, Same H (upd (upd H' p4 (.lst [.int 0])) p5 o5) := fun o5 => (sH.trans (Same.new (o := .lst [.int 0]) hp4)).trans (Same.new hp5)
        have er : (List.replicate ((2 : Int) - ((ms.map V.int).length : Nat)).toNat [V.int 0]).flatten = (List.replicate (2 - ms.length) (0 : Int)).map V.int := by
          have ek : ((2 : Int) - ((ms.map V.int).length : Nat)).toNat = 2 - ms.length := by rw [List.length_map]; omega
          rw [ek]
          generalize 2 - ms.length = q
          induction q with
          | zero => rfl
          | succ q ih => rw [List.replicate_succ, List.flatten_cons, ih, List.replicate_succ, List.map_cons]; rfl
        refine kk p6 (ms ++ List.replicate (2 - ms.length) 0) _ ((s45 _).free hp6) ((s45 _).trans (Same.new hp6)) ?_ ?_ ?_
        · rw [upd_same, er, List.map_append]
        · rw [List.length_append, List.length_replicate]; omega
        · rw [List.length_append, List.length_replicate]; omega
end
end K04

namespace K04
open PySem L2
section
variable {P : Program} {w : World} {K : PySem.W.Frag} {mg : Str → Option Value} {base : Heap}
theorem ok_box_of (T : Txt K mg) : FnOk P w K mg base CX0 1 T.f_l_box_of T.d_l_box_of ["_law_script", "_law_k"] (spBox K) := by
  refine T.F_l_box_of.ok sc_l_box_of (fun vs H Q E h => ?_) (fun cdv A outer s H vs Q E hr h => ?_)
  · obtain ⟨a, ms, k, rfl, _⟩ := h
    rfl
  · obtain ⟨a, ms, k, rfl, hS, hk0, hk1, kk⟩ := h
    refine ⟨_, (pss_cons (ps_set (i := 2) sc_l_box_of.nd rfl (Or.inl rfl) pe_int)
      (pss_cons (ps_if (pt_cmpR op_lt (pv 1) (pe_callB call_len_seq (by rfl) T.b_len boot_b_len (pa_cons (pv 0) pa_nil)) (nomark _)) (pss_one (ps_set (i := 2) sc_l_box_of.nd rfl (Or.inl rfl) (pe_ix ix_seq (pv 0) (pv 1) (fun _ _ => rfl)))) pss_nil)
      (pss_one (ps_ret (pe_lst (pa_cons (pe_op op_mul (pe_callB call_abs (by rfl) T.b_abs boot_b_abs (pa_cons (pv 2) pa_nil)) (pe_callTy call_int1 (by rfl) T.b_int boot_ty_int (pa_cons (pe_cmpR op_ge (pe_callB call_abs (by rfl) T.b_abs boot_b_abs (pa_cons (pv 2) pa_nil)) (pe_op op_pow pe_int pe_int) (nomark _)) pa_nil))) (pa_cons (pe_op op_mod (pe_op op_add (pv 2) (pe_op op_mul (pe_op op_mul pe_int (pv 1)) (pv 1))) pe_int) (pa_cons pe_int pa_nil)))))))), ?_⟩
    refine ⟨_, rfl, _, rfl, a, _, rfl, .inl hS, _, _, rfl, rfl, _, rfl, ?_⟩
    refine ite2 (fun h => ?_) (fun h => ?_)
    case' refine_1 =>
      have hlt : k.toNat < ms.length := by
        have h' := of_decide_eq_true h
        rw [List.length_map] at h'
        omega
      refine ⟨_, rfl, _, rfl, .inl ⟨a, _, _, V.int ms[k.toNat], rfl, rfl, hS, ?_, ?_⟩⟩
      · exact atI_int hk0 hlt
    all_goals
      refine ⟨_, rfl, _, rfl, _, rfl, _, rfl, _, _, rfl, rfl, ⟨by decide, by decide, by decide⟩, _, _, rfl, rfl, .inr ⟨_, rfl, _, _, rfl, rfl, .inr ?_, _, rfl, _, rfl, _, _, rfl, rfl, .inr ⟨by omega, by omega⟩, _, rfl, _, _, rfl, rfl, .inr ⟨by omega, by omega⟩, _, _, rfl, rfl, _, _, rfl, rfl, ?_, ?_, fun p hp => kk p _ hp (Same.new hp) ⟨_, _, upd_same, ?_, ?_, ?_⟩⟩⟩
      · exact b01 _
      · show (0 : Int) < 2147483647; decide
      · show 3 ≤ sizeLine; decide
      · exact mul01 _ (abs_nn _)
      · exact Int.emod_nonneg _ (by decide)
      · exact Int.emod_lt_of_pos _ (by decide)
end
end K04

namespace K04
open PySem L2
section
variable {P : Program} {w : World} {K : PySem.W.Frag} {mg : Str → Option Value} {base : Heap}
theorem ok_lowestA (T : Txt K mg) : FnOk P w K mg base CX0 1 T.f_l_lowest T.d_l_lowest ["_law_n", "_law_d"] spLowA :=
  (ok_lowest T).imp fun vs H Q E ⟨n, d, e, hd, hs, k⟩ => ⟨n, d, e, hd, hs.log hd, fun p hp => k p _ (.mk' hp)⟩
end
end K04

namespace K04
open PySem L2
section
variable {P : Program} {w : World} {K : PySem.W.Frag} {mg : Str → Option Value} {base : Heap}
end
end K04

namespace K04
open PySem L2
section
variable {P : Program} {w : World} {K : PySem.W.Frag} {mg : Str → Option Value} {base : Heap}
theorem ok_names_by (T : Txt K mg) : FnOk P w K mg base CX0 2 T.f_l_names_by T.d_l_names_by ["_law_box", "_law_many"] spNames := by
  have G_l_take := ok_take (P := P) (w := w) (base := base) T
  refine T.F_l_names_by.ok sc_l_names_by (fun vs H Q E h => ?_) (fun cdv A outer s H vs Q E hr h => ?_)
  · obtain ⟨b, many, t, rfl, _⟩ := h
    rfl
  · obtain ⟨b, many, t, rfl, B, ht0, ht1, hm1, hm2, k⟩ := h
    refine ⟨_, (@pss_cons _ _ _ _ _ (@ps_asg _ _ _ _ _ _ (@pe_tupA _ _ _ _ _ (@pa_c _ _ _ _ _ (@pe_str _ _ _ _) (@pa_c _ _ _ _ _ (@pe_call _ _ _ _ _ _ _ _ _ _ _ _ _ _ _ _ G_l_take (hr.mono (by decide)) k_l_names_by_l_take T.m_l_take T.F_l_take.kp T.B_l_take .nil (@pass0 _) (@pa_c _ _ _ _ _ (@pw _ 0 _ _ (Or.inr (Or.inl k_l_names_by_l_box)) (by rfl) (by decide) (by decide)) (@pa_c _ _ _ _ _ (@pe_int _ _ _ _) (@pa_nil _) rfl) rfl) (by decide) (by rfl) (by rfl)) (@pa_nil _) rfl) rfl)) (@pg_tup_k _ (K) _ _ _ _ (2) rfl (@pgs_cons _ _ _ _ _ (@pg_name _ _ (2) _ sc_l_names_by.nd rfl (Or.inr k_l_names_by_l_letters) (by first | exact .inl rfl | exact .inr rfl | assumption)) (@pgs_cons _ _ _ _ _ (@pg_name _ _ (3) _ sc_l_names_by.nd rfl (Or.inr k_l_names_by_l_first) (by first | exact .inl rfl | exact .inr rfl | assumption)) (@pgs_nil _) (by rfl)) (by rfl)) (by rfl) (by rfl) (by rfl)) (by rfl) (by rfl) (by rfl)) (@pss_cons _ _ _ _ _ (@ps_if _ _ _ _ _ _ _ _ (@pt_cmpR _ _ _ _ _ _ _ _ (@op_eq _) (@pe_call _ _ _ _ _ _ _ _ _ _ _ _ _ _ _ _ G_l_take (hr.mono (by decide)) k_l_names_by_l_take T.m_l_take T.F_l_take.kp T.B_l_take .nil (@pass0 _) (@pa_c _ _ _ _ _ (@pw _ 0 _ _ (Or.inr (Or.inl k_l_names_by_l_box)) (by rfl) (by decide) (by decide)) (@pa_c _ _ _ _ _ (@pe_int _ _ _ _) (@pa_nil _) rfl) rfl) (by decide) (by rfl) (by rfl)) (@pe_int _ _ _ _) (@nomark _ _ (by decide) (by decide))) (@pss_cons _ _ _ _ _ (@ps_set _ _ (5) _ _ _ _ sc_l_names_by.nd rfl (Or.inl k_l_names_by_l_row) (@pe_op _ _ _ _ _ _ _ _ (@op_catA _) (@pe_comp _ _ _ _ _ _ _ (["_law_k", "_law_first", "_law_letters"]) (1) ([3, 2]) _ _ _ _ rfl (by kernel_rfl) (@pi_range1 _ _ _ _ _ _ k_l_names_by_range T.b_range (@pa_c _ _ _ _ _ (@pe_int _ _ _ _) (@pa_nil _) rfl) (by rfl)) (fun _ _ _ _ _ _ => (@pg_name _ _ (0) _ (@nodupS _ (by kernel_rfl)) rfl (Or.inl (by kernel_rfl)) (by first | exact .inl rfl | exact .inr rfl | assumption))) (fun _ _ _ _ _ _ => @pifs_nil _) (fun _ _ _ _ _ _ => (@pe_op _ _ _ _ _ _ _ _ (@op_mulS _) (@pe_ix _ _ _ _ _ _ _ (@ix_str _) (@pw _ 2 _ _ (Or.inr (Or.inl (by kernel_rfl))) (by rfl) (by decide) (by decide)) (@pw _ 1 _ _ (Or.inr (Or.inl (by kernel_rfl))) (by rfl) (by decide) (by decide)) (fun _ _ => rfl)) (@pe_op _ _ _ _ _ _ _ _ (@op_add _) (@pe_int _ _ _ _) (@pw _ 0 _ _ (Or.inl (by kernel_rfl)) (by rfl) (by decide) (by decide))))) (by intro _; rfl)) (@pe_comp _ _ _ _ _ _ _ (["_law_k", "_law_first", "_law_letters"]) (1) ([3, 2]) _ _ _ _ rfl (by kernel_rfl) (@pi_range1 _ _ _ _ _ _ k_l_names_by_range T.b_range (@pa_c _ _ _ _ _ (@pe_int _ _ _ _) (@pa_nil _) rfl) (by rfl)) (fun _ _ _ _ _ _ => (@pg_name _ _ (0) _ (@nodupS _ (by kernel_rfl)) rfl (Or.inl (by kernel_rfl)) (by first | exact .inl rfl | exact .inr rfl | assumption))) (fun _ _ _ _ _ _ => @pifs_nil _) (fun _ _ _ _ _ _ => (@pe_op _ _ _ _ _ _ _ _ (@op_mulS _) (@pe_ix _ _ _ _ _ _ _ (@ix_str _) (@pw _ 2 _ _ (Or.inr (Or.inl (by kernel_rfl))) (by rfl) (by decide) (by decide)) (@pe_op _ _ _ _ _ _ _ _ (@op_sub _) (@pw _ 1 _ _ (Or.inr (Or.inl (by kernel_rfl))) (by rfl) (by decide) (by decide)) (@pe_int _ _ _ _)) (fun _ _ => rfl)) (@pe_op _ _ _ _ _ _ _ _ (@op_add _) (@pe_int _ _ _ _) (@pw _ 0 _ _ (Or.inl (by kernel_rfl)) (by rfl) (by decide) (by decide))))) (by intro _; rfl))) (by rfl) (by first | exact .inl rfl | exact .inr rfl | assumption)) (@pss_one _ _ _ (@ps_ret _ _ _ _ (@pe_revA _ _ _ _ _ _ _ _ (@pe_slice _ _ _ _ _ _ _ _ _ _ (@sl_listA _ (K) (by rfl)) (@pw _ 5 _ _ (Or.inl k_l_names_by_l_row) (by rfl) (by decide) (by decide)) (@po_none _) (@po_some _ _ _ (@pw _ 1 _ _ (Or.inl k_l_names_by_l_many) (by rfl) (by decide) (by decide)))) (@po_some _ _ _ (@pe_un _ _ _ _ _ _ (@un_neg _) (@pe_int _ _ _ _))) (by rfl))))) (@pss_nil _)) (@pss_cons _ _ _ _ _ (@ps_set _ _ (6) _ _ _ _ sc_l_names_by.nd rfl (Or.inl k_l_names_by_l_found) (@pe_lstA _ _ _ _ (@pa_nil _)) (by rfl) (by first | exact .inl rfl | exact .inr rfl | assumption)) (@pss_cons _ _ _ _ _ (@ps_for _ _ _ _ _ _ _ _ PassesOwn.never rfl (@pi_range1 _ _ _ _ _ _ k_l_names_by_range T.b_range (@pa_c _ _ _ _ _ (@pw _ 1 _ _ (Or.inl k_l_names_by_l_many) (by rfl) (by decide) (by decide)) (@pa_nil _) rfl) (by rfl)) (@pg_name _ _ (4) _ sc_l_names_by.nd rfl (Or.inl k_l_names_by_l_k) (by first | exact .inl rfl | exact .inr rfl | assumption)) (@pss_cons _ _ _ _ _ (@ps_set _ _ (7) _ _ _ _ sc_l_names_by.nd rfl (Or.inl k_l_names_by_l_more) (@pe_bm_k _ (K) _ _ _ _ _ _ _ _ _ _ _ PySem.F.plainAttrs_str PySem.F.slot_str_join PySem.F.type_str_join (@mt_join _ (K) (by rfl)) (@pe_str _ _ _ _) (@pa_c _ _ _ _ _ (@pe_comp _ _ _ _ _ _ _ (["_law_j", "_law_box", "_law_letters"]) (1) ([0, 2]) _ _ _ _ rfl (by kernel_rfl) (@pi_range1 _ _ _ _ _ _ k_l_names_by_range T.b_range (@pa_c _ _ _ _ _ (@pe_call _ _ _ _ _ _ _ _ _ _ _ _ _ _ _ _ G_l_take (hr.mono (by decide)) k_l_names_by_l_take T.m_l_take T.F_l_take.kp T.B_l_take .nil (@pass0 _) (@pa_c _ _ _ _ _ (@pw _ 0 _ _ (Or.inr (Or.inl k_l_names_by_l_box)) (by rfl) (by decide) (by decide)) (@pa_c _ _ _ _ _ (@pe_ix _ _ _ _ _ _ _ (@ixL_k _ (K) (by rfl)) (@pe_lstA _ _ _ _ (@pa_c _ _ _ _ _ (@pe_int _ _ _ _) (@pa_c _ _ _ _ _ (@pe_int _ _ _ _) (@pa_c _ _ _ _ _ (@pe_int _ _ _ _) (@pa_nil _) rfl) rfl) rfl)) (@pe_call _ _ _ _ _ _ _ _ _ _ _ _ _ _ _ _ G_l_take (hr.mono (by decide)) k_l_names_by_l_take T.m_l_take T.F_l_take.kp T.B_l_take .nil (@pass0 _) (@pa_c _ _ _ _ _ (@pw _ 0 _ _ (Or.inr (Or.inl k_l_names_by_l_box)) (by rfl) (by decide) (by decide)) (@pa_c _ _ _ _ _ (@pe_int _ _ _ _) (@pa_nil _) rfl) rfl) (by decide) (by rfl) (by rfl)) (fun _ _ => rfl)) (@pa_nil _) rfl) rfl) (by decide) (by rfl) (by rfl)) (@pa_nil _) rfl) (by rfl)) (fun _ _ _ _ _ _ => (@pg_name _ _ (0) _ (@nodupS _ (by kernel_rfl)) rfl (Or.inl (by kernel_rfl)) (by first | exact .inl rfl | exact .inr rfl | assumption))) (fun _ _ _ _ _ _ => @pifs_nil _) (fun _ _ _ _ _ _ => (@pe_ix _ _ _ _ _ _ _ (@ix_str _) (@pw _ 2 _ _ (Or.inr (Or.inl (by kernel_rfl))) (by rfl) (by decide) (by decide)) (@pe_call _ _ _ _ _ _ _ _ _ _ _ _ _ _ _ _ G_l_take (hr.mono (by decide)) (by show _ = _; kernel_rfl) T.m_l_take T.F_l_take.kp T.B_l_take .nil (@pass0 _) (@pa_c _ _ _ _ _ (@pw _ 1 _ _ (Or.inr (Or.inl (by kernel_rfl))) (by rfl) (by decide) (by decide)) (@pa_c _ _ _ _ _ (@pe_int _ _ _ _) (@pa_nil _) rfl) rfl) (by decide) (by rfl) (by rfl)) (fun _ _ => rfl))) (by intro _; rfl)) (@pa_nil _) rfl) (by rfl) (by rfl) (by rfl) (by rfl) (by rfl) (by rfl)) (by rfl) (by first | exact .inl rfl | exact .inr rfl | assumption)) (@pss_one _ _ _ (@ps_expr _ _ _ _ (@pe_bm_k _ (K) _ _ _ _ _ _ _ _ _ _ _ PySem.F.plainAttrs_list PySem.F.slot_list_append PySem.F.type_list_append (@mt_appendA _) (@pw _ 6 _ _ (Or.inl k_l_names_by_l_found) (by rfl) (by decide) (by decide)) (@pa_c _ _ _ _ _ (@pe_op _ _ _ _ _ _ _ _ (@op_addS _) (@pe_ix _ _ _ _ _ _ _ (@ix_str _) (@pw _ 2 _ _ (Or.inr (Or.inl k_l_names_by_l_letters)) (by rfl) (by decide) (by decide)) (@pe_op _ _ _ _ _ _ _ _ (@op_mod _) (@pe_op _ _ _ _ _ _ _ _ (@op_add _) (@pw _ 3 _ _ (Or.inr (Or.inl k_l_names_by_l_first)) (by rfl) (by decide) (by decide)) (@pe_op _ _ _ _ _ _ _ _ (@op_mul _) (@pe_int _ _ _ _) (@pw _ 4 _ _ (Or.inl k_l_names_by_l_k) (by rfl) (by decide) (by decide)))) (@pe_int _ _ _ _)) (fun _ _ => rfl)) (@pw _ 7 _ _ (Or.inl k_l_names_by_l_more) (by rfl) (by decide) (by decide))) (@pa_nil _) rfl) (by rfl) (by rfl) (by rfl) (by rfl) (by rfl) (by rfl)) (by rfl)))) (by intro _; rfl)) (@pss_one _ _ _ (@ps_ret _ _ _ _ (@pw _ 6 _ _ (Or.inl k_l_names_by_l_found) (by rfl) (by decide) (by decide)))))))), ?_⟩
    refine ⟨_, rfl, b, 26, t, rfl, B, by decide, by decide, ht0, by omega, fun f t1 H1 f0 f1 h1a h1b s1 B1 => ⟨(by show 2 ≤ 10000; decide), fun q H2 n2 => ⟨q, _, rfl, SqT.of n2.at', rfl, _, _, rfl, _, _, rfl, rfl, ?_⟩⟩⟩
    have B2 := B1.same n2.sm
    have s02 := s1.trans n2.sm.toE
    refine ⟨_, rfl, b, 4, t1, rfl, B2, by decide, by decide, by omega, by omega, fun r t3 H3 r0 r1 h3a h3b s3 B3 => ⟨rfl, _, rfl, ?_⟩⟩
    have s03 := s02.trans s3
    have hz : (Str.ofString "abcdefghijklmnopqrstuvwxyz").length ≤ sizeLine := by decide +kernel
    have comp : ∀ (c : Nat) (G : Hp) (D : Addr), G D = none → (fun (i : Nat) (H' : Hp) (ys : List V) => ys = (List.range i).map (fun k => strV (nm c k)) ∧ H' D = some (.lst ys) ∧ Same G H') 0 (upd G D (.lst [])) [] := fun c G D hD => ⟨rfl, upd_same, same_lst hD (Same.refl _)⟩
    have step : ∀ (c i : Nat) (G H4 : Hp) (D : Addr) (ys : List V), G D = none → ys = (List.range i).map (fun k => strV (nm c k)) → Same G H4 → ys ++ [strV (nm c i)] = (List.range (i + 1)).map (fun k => strV (nm c k)) ∧ upd H4 D (.lst (ys ++ [strV (nm c i)])) D = some (.lst (ys ++ [strV (nm c i)])) ∧ Same G (upd H4 D (.lst (ys ++ [strV (nm c i)]))) := fun c i G H4 D ys hD e s => by
      refine ⟨?_, upd_same, same_lst hD s⟩
      rw [e, List.range_succ, List.map_append]; rfl
    refine ite2 (fun c1 => ?_) (fun c1 => ?_)
    · -- rows of one letter
      have hc1 := letter_at (i := f) (by omega) (by omega)
      have hc2 := letter_at (i := f - 1) (by omega) (by omega)
      generalize hd1 : 97 + (f % 26).toNat = d1 at hc1
      generalize hd2 : 97 + ((f - 1) % 26).toNat = d2 at hc2
      have b1 : 97 ≤ d1 ∧ d1 ≤ 122 := by omega
      have b2 : 97 ≤ d2 ∧ d2 ≤ 122 := by omega
      have ne : d1 ≠ d2 := by omega
      refine ⟨8, rfl, by decide, by decide, fun D1 hD1 => comp_each (n := 8) (fun (i : Nat) (H' : Hp) (ys : List V) => ys = (List.range i).map (fun k => strV (nm d1 k)) ∧ H' D1 = some (.lst ys) ∧ Same H3 H') (by decide) (comp d1 H3 D1 hD1) ?_ ?_ ?_ ?_ ?_⟩
      · rintro i H' ys ⟨rfl, e, _⟩
        exact ⟨e, by simp⟩
      · intro i H' ys hi _
        exact hi
      · intro H' ys _
        exact Nat.le_refl _
      · rintro i H' ys x H'' hi ⟨e1, e2, e3⟩ ⟨rfl, rfl⟩
        refine ⟨back1, _, rfl, _, rfl, _, _, _, rfl, rfl, hz, hc1, _, rfl, _, _, rfl, rfl, [d1], _, rfl, rfl, by omega, by omega, (by show 1 ≤ 100; decide), ?_⟩
        have en : (List.replicate (1 + (0 + (i : Int))).toNat [d1]).flatten = nm d1 i := by
          rw [rep1]
          unfold nm
          congr 1
          omega
        rw [en]
        exact ⟨e2, step d1 i H3 _ D1 ys hD1 e1 e3⟩
      rintro H4 ys1 ⟨ey1, eD1, s4⟩
      refine ⟨8, rfl, by decide, by decide, fun D2 hD2 => comp_each (n := 8) (fun (i : Nat) (H' : Hp) (ys : List V) => ys = (List.range i).map (fun k => strV (nm d2 k)) ∧ H' D2 = some (.lst ys) ∧ Same H4 H') (by decide) (comp d2 H4 D2 hD2) ?_ ?_ ?_ ?_ ?_⟩
      · rintro i H' ys ⟨rfl, e, _⟩
        exact ⟨e, by simp⟩
      · intro i H' ys hi _
        exact hi
      · intro H' ys _
        exact Nat.le_refl _
      · rintro i H' ys x H'' hi ⟨e1, e2, e3⟩ ⟨rfl, rfl⟩
        refine ⟨back1, _, rfl, _, rfl, _, _, rfl, rfl, _, _, _, rfl, rfl, hz, hc2, _, rfl, _, _, rfl, rfl, [d2], _, rfl, rfl, by omega, by omega, (by show 1 ≤ 100; decide), ?_⟩
        have en : (List.replicate (1 + (0 + (i : Int))).toNat [d2]).flatten = nm d2 i := by
          rw [rep1]
          unfold nm
          congr 1
          omega
        rw [en]
        exact ⟨e2, step d2 i H4 _ D2 ys hD2 e1 e3⟩
      rintro H5 ys2 ⟨ey2, eD2, s5⟩
      subst ey1 ey2
      refine ⟨D1, D2, _, _, rfl, rfl, s5 _ _ eD1, eD2, (by simp), fun q6 H6 n6 => ?_⟩
      refine ⟨_, rfl, _, rfl, _, rfl, q6, _, rfl, SqL.of n6.at', fun q7 H7 n7 => ⟨_, rfl, _, rfl, rfl, q7, _, rfl, SqL.of n7.at', fun q8 H8 n8 => ?_⟩⟩
      have s38 : Same H3 H8 := (((s4.trans s5).trans n6.sm).trans n7.sm).trans n8.sm
      let ls := (((List.range 8).map (nm d1) ++ (List.range 8).map (nm d2)).take many.toNat).reverse
      have e8 : H8 q8 = some (.lst (ls.map strV)) := by
        rw [n8.at', cutV_take (by omega)]
        congr 2
        show _ = List.map strV (((List.range 8).map (nm d1) ++ (List.range 8).map (nm d2)).take many.toNat).reverse
        rw [List.map_reverse, List.map_take, List.map_append, List.map_map, List.map_map]
        rfl
      have hq8 : H3 q8 = none := (((s4.trans s5).trans n6.sm).trans n7.sm).free n8.fr
      refine k q8 ls t3 H8 (SameE.free s03 B3 hq8) (s03.trans s38.toE) e8 ?_ ?_ ?_ (B3.same s38) (by omega) (by omega)
      · show (((List.range 8).map (nm d1) ++ (List.range 8).map (nm d2)).take many.toNat).reverse.length = _
        rw [List.length_reverse, List.length_take]
        simp
        omega
      · exact (List.reverse_perm _).nodup_iff.mpr ((rows_nodup ne).sublist (List.take_sublist _ _))
      · intro l hl
        have hl' := List.mem_of_mem_take (List.mem_reverse.mp hl)
        rcases List.mem_append.mp hl' with h | h
        · obtain ⟨j, hj, rfl⟩ := List.mem_map.mp h
          exact nm_ok (List.mem_range.mp hj) b1.1 b1.2
        · obtain ⟨j, hj, rfl⟩ := List.mem_map.mp h
          exact nm_ok (List.mem_range.mp hj) b2.1 b2.2
    · -- letters of eleven steps
      refine ⟨(by show 0 ≤ 10000; decide), fun D H4 n4 => ?_⟩
      have hDn : H D = none := SameE.free s03 B3 n4.fr
      have nDb : ¬ D = b := fun z => B3.ne n4.fr z.symm
      refine ⟨_, rfl, _, rfl, by omega, by omega, for_range (fun i σ H' => ∃ v4 v5 v7 ls t', σ = [some (.ref b), some (.int many), some (.str "abcdefghijklmnopqrstuvwxyz"), some (.int f), v4, v5, some (.ref D), v7] ∧ H' D = some (.lst (ls.map strV)) ∧ ls.length = i ∧ (∀ (j : Nat) (l : List Nat), ls[j]? = some l → l.head? = some (97 + ((f + 11 * (j : Int)) % 26).toNat)) ∧ (∀ l ∈ ls, NameC l) ∧ Bx H' b t' ∧ t3 ≤ t' ∧ t' ≤ t3 + 10 * i ∧ SameE (Eb b) H H')
        ⟨_, _, _, [], t3, rfl, n4.at', rfl, fun j l h => (by simp at h), fun l h => (by cases h), B3.same n4.sm, by omega, by omega, s03.trans n4.sm.toE⟩ ?_ ?_⟩
      case refine_2 =>
        rintro σ H' ⟨v4, v5, v7, ls, t', rfl, e1, e2, e3, e4, B', h0, h1, s'⟩
        exact ⟨_, rfl, k D ls t' H' hDn s' e1 e2 (heads_nodup (by omega) e3) e4 B' (by omega) (by omega)⟩
      rintro i σ H' hi ⟨v4, v5, v7, ls, t', rfl, e1, e2, e3, e4, B', h0, h1, s'⟩
      refine ⟨rfl, _, rfl, (by show 3 ≤ 10000; decide), fun l3 J1 m1 => ⟨_, rfl, b, 3, t', rfl, B'.same m1.sm, by decide, by decide, by omega, by omega, fun r5 t5 J2 r50 r51 _ _ j2 C2 => ?_⟩⟩
      have nl3 : ¬ l3 = b := fun z => B'.ne m1.fr z.symm
      obtain ⟨m, em, hm0, hm8⟩ : ∃ m : Int, atI [V.int 1, V.int 3, V.int 8] r5 = some (V.int m) ∧ 0 < m ∧ m ≤ 8 := by
        obtain rfl | rfl | rfl : r5 = 0 ∨ r5 = 1 ∨ r5 = 2 := by omega
        · exact ⟨1, rfl, by decide, by decide⟩
        · exact ⟨3, rfl, by decide, by decide⟩
        · exact ⟨8, rfl, by decide, by decide⟩
      refine ⟨l3, _, _, _, rfl, rfl, SqL.of (j2.old l3 _ nl3 m1.at'), em, b, m, t5, rfl, C2, hm0, log2_small hm0 (by omega), by omega, by omega, fun r6 t6 J3 r60 r61 _ _ j3 C3 => ⟨_, rfl, by omega, by omega, fun D2 hD2 => comp_each (n := r6.toNat) (fun i H' ys => ∃ (cs : List Nat) (t' : Int), ys = cs.map (fun c => strV [c]) ∧ H' D2 = some (.lst ys) ∧ cs.length = i ∧ (∀ c ∈ cs, 97 ≤ c ∧ c ≤ 122) ∧ Bx H' b t' ∧ t6 ≤ t' ∧ t' ≤ t6 + i ∧ SameE (Eb b) J3 H') ?_ ?_ ?_ ?_ ?_ ?_ ?_⟩⟩
      · rw [sizeLine_eq]; omega
      · exact ⟨[], t6, rfl, upd_same, rfl, fun c h => (by cases h), C3.same (Same.new hD2), by omega, by omega, (Same.new hD2).toE⟩
      · rintro i' H'' ys ⟨cs, t7, rfl, e, rfl, _⟩
        exact ⟨e, by simp⟩
      · intro i' H'' ys hi' _
        exact hi'
      · intro H'' ys _
        exact Nat.le_refl _
      · have nD2 : ¬ D2 = b := fun z => C3.ne hD2 z.symm
        rintro i' Ha ys x Hb hi' ⟨cs, t7, rfl, g1, g2, g3, g4, g5, g6, g7⟩ ⟨rfl, rfl⟩
        refine ⟨back1, _, rfl, _, rfl, b, 26, t7, rfl, g4, by decide, by decide, by omega, by omega, fun r8 t8 Hc r80 r81 _ _ jc Cc => ⟨_, _, _, rfl, rfl, hz, letter_at (by omega) (by omega), ?_⟩⟩
        have eD := jc.old D2 _ nD2 g1
        refine ⟨eD, cs ++ [97 + (r8 % 26).toNat], t8, by rw [List.map_append]; rfl, upd_same, by rw [List.length_append, g2]; rfl, fun c hc => ?_, ?_, by omega, by omega, (g7.trans jc).up hD2⟩
        · rcases List.mem_append.mp hc with h | h
          · exact g3 c h
          · rw [List.mem_singleton.mp h]; omega
        · have c' : Ch Hc D2 (cs.map (fun c => strV [c]) ++ [strV [97 + (r8 % 26).toNat]]) _ := Ch.mk'
          exact Cc.ch c' (Ne.symm nD2)
      rintro J4 ys ⟨cs, t7, rfl, g1, g2, g3, C4, g5, g6, j4⟩
      refine ⟨D2, cs.map (fun c => [c]), ?_, rfl, SqL.of (by rw [g1, List.map_map]; rfl), ?_, ?_⟩
      · rw [show (Str.ofString "") = S [] from empty_eq]
      · rw [List.map_map]
        have : (cs.map ((fun l : List Nat => l.length) ∘ fun c => [c])).sum = cs.length := by
          clear g1 g2 g3 j4
          induction cs with
          | nil => rfl
          | cons c r ih => simp at ih ⊢; omega
        rw [this]; omega
      have fl : (cs.map (fun c => [c])).flatten = cs := by
        clear g1 g2 g3 j4
        induction cs with
        | nil => rfl
        | cons c r ih => rw [List.map_cons, List.flatten_cons, ih]; rfl
      rw [fl]
      have e14 : J4 D = some (.lst (ls.map strV)) := j4.old D _ nDb (j3.old D _ nDb (j2.old D _ nDb (m1.sm _ _ e1)))
      refine ⟨_, rfl, .inl ⟨rfl, _, SqL.of e14⟩, _, rfl, _, rfl, _, rfl, _, _, rfl, rfl, .inl ⟨by decide, by decide⟩, _, _, rfl, rfl, _, _, rfl, rfl, (by show (0 : Int) < 26; decide), _, _, _, rfl, rfl, hz, letter_at (by omega) (by omega), _, rfl, [97 + (((f + 11 * (0 + (i : Int))) % 26) % 26).toNat], cs, rfl, rfl, ?_, ?_⟩
      · simp; omega
      refine ⟨D, _, _, rfl, rfl, e14, ?_, fun J5 c5 => ?_⟩
      · rw [List.length_map]; omega
      have hs5 : SameE (Eb b) H J5 := ((((s'.trans m1.sm.toE).trans j2).trans j3).trans j4).ch c5 hDn
      refine ⟨_, _, _, ls ++ [[97 + (((f + 11 * (0 + (i : Int))) % 26) % 26).toNat] ++ cs], t7, rfl, ?_, ?_, ?_, ?_, C4.ch c5 (Ne.symm nDb), by omega, by omega, hs5⟩
      · rw [c5.at', List.map_append]; rfl
      · rw [List.length_append, e2]; rfl
      · intro j l hl
        by_cases hj : j < ls.length
        · rw [List.getElem?_append_left hj] at hl
          exact e3 j l hl
        · rw [List.getElem?_append_right (by omega)] at hl
          have ej : j - ls.length = 0 := by
            cases hq : j - ls.length with
            | zero => rfl
            | succ n => rw [hq] at hl; simp at hl
          rw [ej] at hl
          simp at hl
          subst hl
          have : j = i := by omega
          subst this
          simp
      · intro l hl
        rcases List.mem_append.mp hl with h | h
        · exact e4 l h
        · rw [List.mem_singleton.mp h]
          refine ⟨by simp, by simp; omega, fun c hc => ?_⟩
          rcases List.mem_append.mp hc with h | h
          · rw [List.mem_singleton.mp h]; omega
          · exact g3 c h
end
end K04

namespace K04
open PySem L2
theorem net_inv2 {E : Addr → Prop} {H : Hp} {v : V} {ls : List (List Nat)} {ts : List TieD} (h : IsD E H v (netD ls ts)) : ∃ a p q ys, v = .ref a ∧ H a = some (.tup [.ref p, .ref q]) ∧ H p = some (.tup (ls.map strV)) ∧ H q = some (.tup ys) ∧ IsAll E H ys (ts.map tieD) := by
  have sall : ∀ {ls : List (List Nat)} {xs : List V}, IsAll E H xs (ls.map fun l => PyData.str (S l)) → xs = ls.map strV := by
    intro ls
    induction ls with
    | nil => intro xs h; cases h; rfl
    | cons l r ih =>
      intro xs h
      cases h with
      | cons h1 h2 => cases h1; rw [ih h2]; rfl
  cases h with
  | @tup a xs _ h r =>
    cases r with
    | cons h1 r =>
    cases r with
    | cons h2 r =>
    cases r
    cases h1 with
    | @tup p ps _ hp rp =>
    cases h2 with
    | @tup q ys _ hq rq =>
      have e := sall rp
      subst e
      exact ⟨a, p, q, ys, rfl, h, hp, hq, rq⟩
abbrev nts (r : List Nat) : List V := r.map fun i : Nat => V.int ((i : Nat) : Int)
section
variable {P : Program} {w : World} {K : PySem.W.Frag} {mg : Str → Option Value} {base : Heap}
end
end K04

namespace K04
open PySem L2
section
variable {P : Program} {w : World} {K : PySem.W.Frag} {mg : Str → Option Value} {base : Heap}
theorem ok_gain_by (T : Txt K mg) : FnOk P w K mg base CX0 2 T.f_l_gain_by T.d_l_gain_by ["_law_box"] (spFrB 6 1) := by
  have G_l_take := ok_take (P := P) (w := w) (base := base) T
  have G_l_lowest := ok_lowestA (P := P) (w := w) (base := base) T
  refine T.F_l_gain_by.ok sc_l_gain_by (fun vs H Q E h => ?_) (fun cdv A outer s H vs Q E hr h => ?_)
  · obtain ⟨b, t, rfl, _⟩ := h
    rfl
  · obtain ⟨b, t, rfl, B, ht0, ht1, k⟩ := h
    refine ⟨_, (@pss_cons _ _ _ _ _ (@ps_set _ _ (1) _ _ _ _ sc_l_gain_by.nd rfl (Or.inl k_l_gain_by_l_way) (@pe_call _ _ _ _ _ _ _ _ _ _ _ _ _ _ _ _ G_l_take (hr.mono (by decide)) k_l_gain_by_l_take T.m_l_take T.F_l_take.kp T.B_l_take .nil (@pass0 _) (@pa_c _ _ _ _ _ (@pw _ 0 _ _ (Or.inl k_l_gain_by_l_box) (by rfl) (by decide) (by decide)) (@pa_c _ _ _ _ _ (@pe_int _ _ _ _) (@pa_nil _) rfl) rfl) (by decide) (by rfl) (by rfl)) (by rfl) (by first | exact .inl rfl | exact .inr rfl | assumption)) (@pss_cons _ _ _ _ _ (@ps_if _ _ _ _ _ _ _ _ (@pt_cmpR _ _ _ _ _ _ _ _ (@op_lt _) (@pw _ 1 _ _ (Or.inl k_l_gain_by_l_way) (by rfl) (by decide) (by decide)) (@pe_int _ _ _ _) (@nomark _ _ (by decide) (by decide))) (@pss_one _ _ _ (@ps_ret _ _ _ _ (@pe_tupA _ _ _ _ _ (@pa_c _ _ _ _ _ (@pe_int _ _ _ _) (@pa_c _ _ _ _ _ (@pe_int _ _ _ _) (@pa_nil _) rfl) rfl)))) (@pss_nil _)) (@pss_cons _ _ _ _ _ (@ps_set _ _ (2) _ _ _ _ sc_l_gain_by.nd rfl (Or.inl k_l_gain_by_l_wide) (@pe_ifExp _ _ _ _ _ _ _ _ (@pt_cmpR _ _ _ _ _ _ _ _ (@op_eq _) (@pw _ 1 _ _ (Or.inl k_l_gain_by_l_way) (by rfl) (by decide) (by decide)) (@pe_int _ _ _ _) (@nomark _ _ (by decide) (by decide))) (@pe_int _ _ _ _) (@pe_int _ _ _ _)) (by rfl) (by first | exact .inl rfl | exact .inr rfl | assumption)) (@pss_one _ _ _ (@ps_ret _ _ _ _ (@pe_call _ _ _ _ _ _ _ _ _ _ _ _ _ _ _ _ G_l_lowest (hr.mono (by decide)) k_l_gain_by_l_lowest T.m_l_lowest T.F_l_lowest.kp T.B_l_lowest .nil (@pass0 _) (@pa_c _ _ _ _ _ (@pe_op _ _ _ _ _ _ _ _ (@op_add _) (@pe_int _ _ _ _) (@pe_call _ _ _ _ _ _ _ _ _ _ _ _ _ _ _ _ G_l_take (hr.mono (by decide)) k_l_gain_by_l_take T.m_l_take T.F_l_take.kp T.B_l_take .nil (@pass0 _) (@pa_c _ _ _ _ _ (@pw _ 0 _ _ (Or.inl k_l_gain_by_l_box) (by rfl) (by decide) (by decide)) (@pa_c _ _ _ _ _ (@pw _ 2 _ _ (Or.inl k_l_gain_by_l_wide) (by rfl) (by decide) (by decide)) (@pa_nil _) rfl) rfl) (by decide) (by rfl) (by rfl))) (@pa_c _ _ _ _ _ (@pe_op _ _ _ _ _ _ _ _ (@op_add _) (@pe_int _ _ _ _) (@pe_call _ _ _ _ _ _ _ _ _ _ _ _ _ _ _ _ G_l_take (hr.mono (by decide)) k_l_gain_by_l_take T.m_l_take T.F_l_take.kp T.B_l_take .nil (@pass0 _) (@pa_c _ _ _ _ _ (@pw _ 0 _ _ (Or.inl k_l_gain_by_l_box) (by rfl) (by decide) (by decide)) (@pa_c _ _ _ _ _ (@pw _ 2 _ _ (Or.inl k_l_gain_by_l_wide) (by rfl) (by decide) (by decide)) (@pa_nil _) rfl) rfl) (by decide) (by rfl) (by rfl))) (@pa_nil _) rfl) rfl) (by decide) (by rfl) (by rfl))))))), ?_⟩
    refine ⟨_, rfl, b, 8, t, rfl, B, by decide, by decide, ht0, by omega, fun wy t1 H1 w0 w1 h1a h1b s1 B1 => ?_⟩
    refine ⟨_, rfl, _, _, rfl, rfl, _, rfl, ite2 (fun c => ?_) (fun c => ?_)⟩
    · exact ⟨(by show 2 ≤ 10000; decide), fun o H2 n2 => k o _ _ t1 H2 (s1.trans n2.sm.toE) n2.at' (Fb.small (by decide) (by decide) (by decide) (by decide)) (by decide) (B1.same n2.sm) (by omega) (by omega)⟩
    refine ⟨_, rfl, rfl, _, rfl, ifC ?_⟩
    have hw : 0 < (if decide (V.int wy = V.int 7) = true then (60 : Int) else 12) ∧ (if decide (V.int wy = V.int 7) = true then (60 : Int) else 12) ≤ 60 := by split <;> decide
    refine ⟨_, rfl, _, rfl, b, _, t1, rfl, B1, hw.1, log9 hw.1 (by omega), by omega, by omega, fun r2 t2 H2 a20 a21 _ _ s2 B2 => ⟨_, _, rfl, rfl, _, rfl, _, rfl, b, _, t2, rfl, B2, hw.1, log9 hw.1 (by omega), by omega, by omega, fun r3 t3 H3 a30 a31 _ _ s3 B3 => ⟨_, _, rfl, rfl, ?_⟩⟩⟩
    have f := low_fb6 (n := 1 + r2) (d := 1 + r3) (by omega) (by omega) (by omega) (by omega)
    exact ⟨_, _, rfl, by omega, Sz.mono (m := 40) (by show (1 + r3).natAbs < 1099511627776; omega) (by decide), fun o H4 n4 => k o _ _ t3 H4 (((s1.trans s2).trans s3).trans n4.sm.toE) n4.at' f.1 f.2 (B3.same n4.sm) (by omega) (by omega)⟩
theorem ok_most_by (T : Txt K mg) : FnOk P w K mg base CX0 2 T.f_l_most_by T.d_l_most_by ["_law_box"] (spFrB 24 0) := by
  have G_l_take := ok_take (P := P) (w := w) (base := base) T
  have G_l_lowest := ok_lowestA (P := P) (w := w) (base := base) T
  refine T.F_l_most_by.ok sc_l_most_by (fun vs H Q E h => ?_) (fun cdv A outer s H vs Q E hr h => ?_)
  · obtain ⟨b, t, rfl, _⟩ := h
    rfl
  · obtain ⟨b, t, rfl, B, ht0, ht1, k⟩ := h
    refine ⟨_, (@pss_cons _ _ _ _ _ (@ps_set _ _ (1) _ _ _ _ sc_l_most_by.nd rfl (Or.inl k_l_most_by_l_way) (@pe_call _ _ _ _ _ _ _ _ _ _ _ _ _ _ _ _ G_l_take (hr.mono (by decide)) k_l_most_by_l_take T.m_l_take T.F_l_take.kp T.B_l_take .nil (@pass0 _) (@pa_c _ _ _ _ _ (@pw _ 0 _ _ (Or.inl k_l_most_by_l_box) (by rfl) (by decide) (by decide)) (@pa_c _ _ _ _ _ (@pe_int _ _ _ _) (@pa_nil _) rfl) rfl) (by decide) (by rfl) (by rfl)) (by rfl) (by first | exact .inl rfl | exact .inr rfl | assumption)) (@pss_cons _ _ _ _ _ (@ps_if _ _ _ _ _ _ _ _ (@pt_cmpR _ _ _ _ _ _ _ _ (@op_eq _) (@pw _ 1 _ _ (Or.inl k_l_most_by_l_way) (by rfl) (by decide) (by decide)) (@pe_int _ _ _ _) (@nomark _ _ (by decide) (by decide))) (@pss_one _ _ _ (@ps_ret _ _ _ _ (@pe_tupA _ _ _ _ _ (@pa_c _ _ _ _ _ (@pe_int _ _ _ _) (@pa_c _ _ _ _ _ (@pe_int _ _ _ _) (@pa_nil _) rfl) rfl)))) (@pss_nil _)) (@pss_cons _ _ _ _ _ (@ps_if _ _ _ _ _ _ _ _ (@pt_cmpR _ _ _ _ _ _ _ _ (@op_lt _) (@pw _ 1 _ _ (Or.inl k_l_most_by_l_way) (by rfl) (by decide) (by decide)) (@pe_int _ _ _ _) (@nomark _ _ (by decide) (by decide))) (@pss_one _ _ _ (@ps_ret _ _ _ _ (@pe_tupA _ _ _ _ _ (@pa_c _ _ _ _ _ (@pe_op _ _ _ _ _ _ _ _ (@op_add _) (@pe_int _ _ _ _) (@pe_call _ _ _ _ _ _ _ _ _ _ _ _ _ _ _ _ G_l_take (hr.mono (by decide)) k_l_most_by_l_take T.m_l_take T.F_l_take.kp T.B_l_take .nil (@pass0 _) (@pa_c _ _ _ _ _ (@pw _ 0 _ _ (Or.inl k_l_most_by_l_box) (by rfl) (by decide) (by decide)) (@pa_c _ _ _ _ _ (@pe_int _ _ _ _) (@pa_nil _) rfl) rfl) (by decide) (by rfl) (by rfl))) (@pa_c _ _ _ _ _ (@pe_int _ _ _ _) (@pa_nil _) rfl) rfl)))) (@pss_nil _)) (@pss_cons _ _ _ _ _ (@ps_if _ _ _ _ _ _ _ _ (@pt_cmpR _ _ _ _ _ _ _ _ (@op_lt _) (@pw _ 1 _ _ (Or.inl k_l_most_by_l_way) (by rfl) (by decide) (by decide)) (@pe_int _ _ _ _) (@nomark _ _ (by decide) (by decide))) (@pss_one _ _ _ (@ps_ret _ _ _ _ (@pe_call _ _ _ _ _ _ _ _ _ _ _ _ _ _ _ _ G_l_lowest (hr.mono (by decide)) k_l_most_by_l_lowest T.m_l_lowest T.F_l_lowest.kp T.B_l_lowest .nil (@pass0 _) (@pa_c _ _ _ _ _ (@pe_op _ _ _ _ _ _ _ _ (@op_add _) (@pe_int _ _ _ _) (@pe_call _ _ _ _ _ _ _ _ _ _ _ _ _ _ _ _ G_l_take (hr.mono (by decide)) k_l_most_by_l_take T.m_l_take T.F_l_take.kp T.B_l_take .nil (@pass0 _) (@pa_c _ _ _ _ _ (@pw _ 0 _ _ (Or.inl k_l_most_by_l_box) (by rfl) (by decide) (by decide)) (@pa_c _ _ _ _ _ (@pe_int _ _ _ _) (@pa_nil _) rfl) rfl) (by decide) (by rfl) (by rfl))) (@pa_c _ _ _ _ _ (@pe_op _ _ _ _ _ _ _ _ (@op_add _) (@pe_int _ _ _ _) (@pe_call _ _ _ _ _ _ _ _ _ _ _ _ _ _ _ _ G_l_take (hr.mono (by decide)) k_l_most_by_l_take T.m_l_take T.F_l_take.kp T.B_l_take .nil (@pass0 _) (@pa_c _ _ _ _ _ (@pw _ 0 _ _ (Or.inl k_l_most_by_l_box) (by rfl) (by decide) (by decide)) (@pa_c _ _ _ _ _ (@pe_int _ _ _ _) (@pa_nil _) rfl) rfl) (by decide) (by rfl) (by rfl))) (@pa_nil _) rfl) rfl) (by decide) (by rfl) (by rfl)))) (@pss_nil _)) (@pss_one _ _ _ (@ps_ret _ _ _ _ (@pe_tupA _ _ _ _ _ (@pa_c _ _ _ _ _ (@pe_op _ _ _ _ _ _ _ _ (@op_add _) (@pe_int _ _ _ _) (@pe_call _ _ _ _ _ _ _ _ _ _ _ _ _ _ _ _ G_l_take (hr.mono (by decide)) k_l_most_by_l_take T.m_l_take T.F_l_take.kp T.B_l_take .nil (@pass0 _) (@pa_c _ _ _ _ _ (@pw _ 0 _ _ (Or.inl k_l_most_by_l_box) (by rfl) (by decide) (by decide)) (@pa_c _ _ _ _ _ (@pe_op _ _ _ _ _ _ _ _ (@op_pow _) (@pe_int _ _ _ _) (@pe_int _ _ _ _)) (@pa_nil _) rfl) rfl) (by decide) (by rfl) (by rfl))) (@pa_c _ _ _ _ _ (@pe_int _ _ _ _) (@pa_nil _) rfl) rfl)))))))), ?_⟩
    refine ⟨_, rfl, b, 8, t, rfl, B, by decide, by decide, ht0, by omega, fun wy t1 H1 w0 w1 h1a h1b s1 B1 => ?_⟩
    refine ⟨_, rfl, rfl, _, rfl, ite2 (fun c => ?_) (fun c => ?_)⟩
    · exact ⟨(by show 2 ≤ 10000; decide), fun o H2 n2 => k o _ _ t1 H2 (s1.trans n2.sm.toE) n2.at' (fb_one24 (by decide) (by decide)) (by decide) (B1.same n2.sm) (by omega) (by omega)⟩
    refine ⟨_, rfl, _, _, rfl, rfl, _, rfl, ite2 (fun c => ?_) (fun c => ?_)⟩
    · exact ⟨_, rfl, b, 9, t1, rfl, B1, by decide, by decide, by omega, by omega, fun r2 t2 H2 a20 a21 _ _ s2 B2 => ⟨_, _, rfl, rfl, (by show 2 ≤ 10000; decide), fun o H3 n3 => k o _ _ t2 H3 ((s1.trans s2).trans n3.sm.toE) n3.at' (fb_one24 (by omega) (by omega)) (by omega) (B2.same n3.sm) (by omega) (by omega)⟩⟩
    refine ⟨_, rfl, _, _, rfl, rfl, _, rfl, ite2 (fun c => ?_) (fun c => ?_)⟩
    · refine ⟨_, rfl, b, 60, t1, rfl, B1, by decide, by decide, by omega, by omega, fun r2 t2 H2 a20 a21 _ _ s2 B2 => ⟨_, _, rfl, rfl, _, rfl, b, 12, t2, rfl, B2, by decide, by decide, by omega, by omega, fun r3 t3 H3 a30 a31 _ _ s3 B3 => ⟨_, _, rfl, rfl, ?_⟩⟩⟩
      have f := low_fb24 (n := 1 + r2) (d := 1 + r3) (by omega) (by omega) (by omega) (by omega)
      exact ⟨_, _, rfl, by omega, Sz.mono (m := 40) (by show (1 + r3).natAbs < 1099511627776; omega) (by decide), fun o H4 n4 => k o _ _ t3 H4 (((s1.trans s2).trans s3).trans n4.sm.toE) n4.at' f.1 (by have := f.2; omega) (B3.same n4.sm) (by omega) (by omega)⟩
    · have q6 : (10 : Int) ^ (6 : Int).toNat = 1000000 := by decide
      refine ⟨_, rfl, _, _, rfl, rfl, ⟨by decide, by decide, by decide⟩, b, _, t1, rfl, B1, by rw [q6]; decide, by rw [q6]; decide, by omega, by omega, fun r2 t2 H2 a20 a21 _ _ s2 B2 => ⟨_, _, rfl, rfl, (by show 2 ≤ 10000; decide), fun o H3 n3 => k o _ _ t2 H3 ((s1.trans s2).trans n3.sm.toE) n3.at' (fb_one24 (by omega) ?_) (by omega) (B2.same n3.sm) (by omega) (by omega)⟩⟩
      rw [q6] at a21
      omega
theorem ok_price_by (T : Txt K mg) : FnOk P w K mg base CX0 2 T.f_l_price_by T.d_l_price_by ["_law_box"] (spFrD 0) := by
  have G_l_take := ok_take (P := P) (w := w) (base := base) T
  have G_l_lowest := ok_lowestA (P := P) (w := w) (base := base) T
  refine T.F_l_price_by.ok sc_l_price_by (fun vs H Q E h => ?_) (fun cdv A outer s H vs Q E hr h => ?_)
  · obtain ⟨b, t, rfl, _⟩ := h
    rfl
  · obtain ⟨b, t, rfl, B, ht0, ht1, k⟩ := h
    refine ⟨_, (@pss_cons _ _ _ _ _ (@ps_set _ _ (1) _ _ _ _ sc_l_price_by.nd rfl (Or.inl k_l_price_by_l_way) (@pe_call _ _ _ _ _ _ _ _ _ _ _ _ _ _ _ _ G_l_take (hr.mono (by decide)) k_l_price_by_l_take T.m_l_take T.F_l_take.kp T.B_l_take .nil (@pass0 _) (@pa_c _ _ _ _ _ (@pw _ 0 _ _ (Or.inl k_l_price_by_l_box) (by rfl) (by decide) (by decide)) (@pa_c _ _ _ _ _ (@pe_int _ _ _ _) (@pa_nil _) rfl) rfl) (by decide) (by rfl) (by rfl)) (by rfl) (by first | exact .inl rfl | exact .inr rfl | assumption)) (@pss_cons _ _ _ _ _ (@ps_if _ _ _ _ _ _ _ _ (@pt_cmpR _ _ _ _ _ _ _ _ (@op_eq _) (@pw _ 1 _ _ (Or.inl k_l_price_by_l_way) (by rfl) (by decide) (by decide)) (@pe_int _ _ _ _) (@nomark _ _ (by decide) (by decide))) (@pss_one _ _ _ (@ps_ret _ _ _ _ (@pe_tupA _ _ _ _ _ (@pa_c _ _ _ _ _ (@pe_int _ _ _ _) (@pa_c _ _ _ _ _ (@pe_int _ _ _ _) (@pa_nil _) rfl) rfl)))) (@pss_nil _)) (@pss_one _ _ _ (@ps_ret _ _ _ _ (@pe_call _ _ _ _ _ _ _ _ _ _ _ _ _ _ _ _ G_l_lowest (hr.mono (by decide)) k_l_price_by_l_lowest T.m_l_lowest T.F_l_lowest.kp T.B_l_lowest .nil (@pass0 _) (@pa_c _ _ _ _ _ (@pe_op _ _ _ _ _ _ _ _ (@op_add _) (@pe_int _ _ _ _) (@pe_call _ _ _ _ _ _ _ _ _ _ _ _ _ _ _ _ G_l_take (hr.mono (by decide)) k_l_price_by_l_take T.m_l_take T.F_l_take.kp T.B_l_take .nil (@pass0 _) (@pa_c _ _ _ _ _ (@pw _ 0 _ _ (Or.inl k_l_price_by_l_box) (by rfl) (by decide) (by decide)) (@pa_c _ _ _ _ _ (@pe_ix _ _ _ _ _ _ _ (@ixL_k _ (K) (by rfl)) (@pe_lstA _ _ _ _ (@pa_c _ _ _ _ _ (@pe_int _ _ _ _) (@pa_c _ _ _ _ _ (@pe_int _ _ _ _) (@pa_c _ _ _ _ _ (@pe_int _ _ _ _) (@pa_nil _) rfl) rfl) rfl)) (@pe_op _ _ _ _ _ _ _ _ (@op_sub _) (@pw _ 1 _ _ (Or.inl k_l_price_by_l_way) (by rfl) (by decide) (by decide)) (@pe_int _ _ _ _)) (fun _ _ => rfl)) (@pa_nil _) rfl) rfl) (by decide) (by rfl) (by rfl))) (@pa_c _ _ _ _ _ (@pe_ix _ _ _ _ _ _ _ (@ixL_k _ (K) (by rfl)) (@pe_lstA _ _ _ _ (@pa_c _ _ _ _ _ (@pe_int _ _ _ _) (@pa_c _ _ _ _ _ (@pe_op _ _ _ _ _ _ _ _ (@op_add _) (@pe_int _ _ _ _) (@pe_call _ _ _ _ _ _ _ _ _ _ _ _ _ _ _ _ G_l_take (hr.mono (by decide)) k_l_price_by_l_take T.m_l_take T.F_l_take.kp T.B_l_take .nil (@pass0 _) (@pa_c _ _ _ _ _ (@pw _ 0 _ _ (Or.inl k_l_price_by_l_box) (by rfl) (by decide) (by decide)) (@pa_c _ _ _ _ _ (@pe_int _ _ _ _) (@pa_nil _) rfl) rfl) (by decide) (by rfl) (by rfl))) (@pa_c _ _ _ _ _ (@pe_int _ _ _ _) (@pa_nil _) rfl) rfl) rfl)) (@pe_op _ _ _ _ _ _ _ _ (@op_sub _) (@pw _ 1 _ _ (Or.inl k_l_price_by_l_way) (by rfl) (by decide) (by decide)) (@pe_int _ _ _ _)) (fun _ _ => rfl)) (@pa_nil _) rfl) rfl) (by decide) (by rfl) (by rfl)))))), ?_⟩
    refine ⟨_, rfl, b, 4, t, rfl, B, by decide, by decide, ht0, by omega, fun wy t1 H1 w0 w1 h1a h1b s1 B1 => ?_⟩
    refine ⟨_, rfl, rfl, _, rfl, ite2 (fun c => ?_) (fun c => ?_)⟩
    · exact ⟨(by show 2 ≤ 10000; decide), fun o H2 n2 => k o _ _ t1 H2 (s1.trans n2.sm.toE) n2.at' (fb_one (by decide) (by decide)) (by decide) (B1.same n2.sm) (by omega) (by omega)⟩
    have hw : wy ≠ 0 := fun z => c (by rw [z]; decide)
    refine ⟨_, rfl, (by show 3 ≤ 10000; decide), fun l1 H2 n2 => ?_⟩
    obtain ⟨m, em, hm0, hm1⟩ : ∃ m : Int, atI [V.int 9, V.int 30, V.int 999] (wy - 1) = some (V.int m) ∧ 0 < m ∧ m ≤ 999 := by
      obtain rfl | rfl | rfl : wy = 1 ∨ wy = 2 ∨ wy = 3 := by omega
      · exact ⟨9, rfl, by decide, by decide⟩
      · exact ⟨30, rfl, by decide, by decide⟩
      · exact ⟨999, rfl, by decide, by decide⟩
    refine ⟨_, rfl, _, _, rfl, rfl, l1, _, _, _, rfl, rfl, SqL.of n2.at', em, b, m, t1, rfl, B1.same n2.sm, hm0, log9 hm0 (by omega), by omega, by omega, fun r3 t3 H3 a30 a31 _ _ s3 B3 => ⟨_, _, rfl, rfl, _, rfl, b, 6, t3, rfl, B3, by decide, by decide, by omega, by omega, fun r4 t4 H4 a40 a41 _ _ s4 B4 => ⟨_, _, rfl, rfl, (by show 3 ≤ 10000; decide), fun l5 H5 n5 => ?_⟩⟩⟩
    obtain ⟨e, ee, he0, he1⟩ : ∃ e : Int, atI [V.int 1, V.int (1 + r4), V.int 1] (wy - 1) = some (V.int e) ∧ 1 ≤ e ∧ e ≤ 999 := by
      obtain rfl | rfl | rfl : wy = 1 ∨ wy = 2 ∨ wy = 3 := by omega
      · exact ⟨1, rfl, by decide, by decide⟩
      · exact ⟨1 + r4, rfl, by omega, by omega⟩
      · exact ⟨1, rfl, by decide, by decide⟩
    have f := low_fb (n := 1 + r3) (d := e) (by omega) (by omega) (by omega) (by omega)
    exact ⟨_, rfl, _, _, rfl, rfl, l5, _, _, _, rfl, rfl, SqL.of n5.at', ee, _, _, rfl, by omega, Sz.mono (m := 40) (by show e.natAbs < 1099511627776; omega) (by decide), fun o H6 n6 => k o _ _ t4 H6 (((((s1.trans n2.sm.toE).trans s3).trans s4).trans n5.sm.toE).trans n6.sm.toE) n6.at' f.1 (by have := f.2; omega) ((B4.same n5.sm).same n6.sm) (by omega) (by omega)⟩
end
end K04

namespace K04
open PySem L2
def isFr0 (d : PyData) : Bool := match d with
  | .tuple [.int n, .int e] => isFr (.tuple [.int n, .int e]) && decide (0 ≤ n)
  | _ => false
def within (d : PyData) (p : KM.Fra) : Bool := match d with
  | .tuple [.int n, .int e] => (isFr (.tuple [.int n, .int e]) && decide (0 ≤ n)) && decide (n * p.2 ≤ p.1 * e)
  | _ => false
theorem isFr_inv {d : PyData} (h : isFr d = true) : ∃ n e, d = .tuple [.int n, .int e] ∧ 1 ≤ e ∧ Int.gcd n e = 1 := by
  unfold isFr at h
  split at h
  · rename_i n e
    have h' : (decide (1 ≤ e) && decide (Int.gcd n e = 1)) = true := h
    rw [Bool.and_eq_true, decide_eq_true_iff, decide_eq_true_iff] at h'
    exact ⟨n, e, rfl, h'.1, h'.2⟩
  · cases h
theorem fr0_false {d : PyData} (h : isFr d = false) : isFr0 d = false ∧ ∀ p, within d p = false := by
  constructor
  · unfold isFr0
    split
    · rw [h]; rfl
    · rfl
  · intro p
    unfold within
    split
    · rw [h]; rfl
    · rfl
theorem pair_inv {E : Addr → Prop} {H : Hp} {x : V} {n e : Int} (h : IsD E H x (.tuple [.int n, .int e])) : ∃ o, x = .ref o ∧ H o = some (.tup [.int n, .int e]) := isF_inv (p := (n, e)) h
section
variable {P : Program} {w : World} {K : PySem.W.Frag} {mg : Str → Option Value} {base : Heap}
def spFr0 : Sp := fun vs H Q _ => ∃ (x : V) (d : PyData) (E : Addr → Prop), vs = [x] ∧ IsD E H x d ∧ Q (.bl (isFr0 d)) H
theorem ok_is_from_nought (T : Txt K mg) : FnOk P w K mg base CX0 3 T.f_is_from_nought T.d_is_from_nought ["thing"] spFr0 := by
  have G_is_fraction := ok_is_fraction (P := P) (w := w) (base := base) T
  refine T.F_is_from_nought.ok sc_is_from_nought (fun vs H Q E h => ?_) (fun cdv A outer s H vs Q E hr h => ?_)
  · obtain ⟨x, d, E', rfl, _⟩ := h
    rfl
  · obtain ⟨x, d, E', rfl, hx, k⟩ := h
    refine ⟨_, (@pss_one _ _ _ (@ps_ret _ _ _ _ (@pe_and _ _ _ _ _ _ _ (@pe_call _ _ _ _ _ _ _ _ _ _ _ _ _ _ _ _ G_is_fraction (hr.mono (by decide)) k_is_from_nought_is_fraction T.m_is_fraction T.F_is_fraction.kp T.B_is_fraction .nil (@pass0 _) (@pa_c _ _ _ _ _ (@pw _ 0 _ _ (Or.inl k_is_from_nought_thing) (by rfl) (by decide) (by decide)) (@pa_nil _) rfl) (by decide) (by rfl) (by rfl)) (@pe_one _ _ _ _ _ (@pe_cmpR _ _ _ _ _ _ _ _ (@op_ge _) (@pe_ix _ _ _ _ _ _ _ (@ixT_k _ (K) (by rfl)) (@pw _ 0 _ _ (Or.inl k_is_from_nought_thing) (by rfl) (by decide) (by decide)) (@pe_int _ _ _ _) (fun _ _ => rfl)) (@pe_int _ _ _ _) (@nomark _ _ (by decide) (by decide))))))), ?_⟩
    refine ⟨_, rfl, x, d, E', rfl, hx, _, rfl, ?_⟩
    cases hb : isFr d with
    | false =>
      rw [(fr0_false hb).1] at k
      exact iteF k
    | true =>
      obtain ⟨n, e, rfl, h1, h2⟩ := isFr_inv hb
      obtain ⟨o, rfl, ho⟩ := pair_inv hx
      refine iteT ⟨_, rfl, o, _, _, _, rfl, rfl, SqT.of ho, rfl, _, _, rfl, rfl, ?_⟩
      have e0 : isFr0 (.tuple [.int n, .int e]) = decide (0 ≤ n) := by
        show (isFr (.tuple [.int n, .int e]) && decide (0 ≤ n)) = _
        rw [hb]; rfl
      rw [e0] at k
      exact k
theorem wt_pair {n e : Int} {wn wk : Nat} (h : Wt (.tuple [.int n, .int e]) wn wk) : Sz 1900 n ∧ Sz 1900 e := by
  cases h with
  | tuple r =>
    cases r with
    | cons h1 r =>
      cases r with
      | cons h2 r =>
        cases h1 with
        | int a =>
          cases h2 with
          | int b => exact ⟨a, b⟩
end
end K04

namespace K04
open PySem L2
/-! what a list of ties' numbers is -/
theorem nodup_map_iff {α β : Type} {f : α → β} (hf : ∀ a b, f a = f b → a = b) : ∀ {l : List α}, (l.map f).Nodup ↔ l.Nodup
  | [] => by simp
  | a :: r => by
    rw [List.map_cons, List.nodup_cons, List.nodup_cons, nodup_map_iff hf]
    constructor
    · rintro ⟨h1, h2⟩; exact ⟨fun z => h1 (List.mem_map.mpr ⟨a, z, rfl⟩), h2⟩
    · rintro ⟨h1, h2⟩
      refine ⟨fun z => ?_, h2⟩
      obtain ⟨b, hb, e⟩ := List.mem_map.mp z
      exact h1 (hf b a e ▸ hb)
theorem dec_once (ks : List Key) : decide (V.int ((once ks).length : Nat) = V.int (ks.length : Nat)) = decide ks.Nodup := by
  by_cases h : ks.Nodup
  · rw [(once_nodup ks).mpr h, decide_eq_true rfl, decide_eq_true h]
  · rw [decide_eq_false h, decide_eq_false]
    intro z
    injection z with z
    exact h ((once_nodup ks).mp (by omega))
theorem dec_congr {p q : Prop} [Decidable p] [Decidable q] (h : p ↔ q) : decide p = decide q := by
  by_cases hp : p
  · rw [decide_eq_true hp, decide_eq_true (h.mp hp)]
  · rw [decide_eq_false hp, decide_eq_false fun z => hp (h.mpr z)]
section
variable {P : Program} {w : World} {K : PySem.W.Frag} {mg : Str → Option Value} {base : Heap}
end
end K04

namespace K04
open PySem L2
theorem wtL_mem {ds : List PyData} {n k : Nat} {d : PyData} (h : WtL ds n k) (hd : d ∈ ds) : ∃ m, m ≤ n ∧ Wt d m k := by
  induction ds generalizing n with
  | nil => cases hd
  | cons x r ih =>
    cases h with
    | @cons _ _ m n' _ h1 h2 =>
    rcases List.mem_cons.mp hd with e | e
    · subst e; exact ⟨m, by omega, h1⟩
    · obtain ⟨m', q, w⟩ := ih h2 e
      exact ⟨m', by omega, w⟩
theorem ne_len {a b : Nat} (h : a ≠ b) : (!decide (V.int (a : Int) = V.int (b : Int))) = true := by
  rw [decide_eq_false]
  · rfl
  · intro z
    injection z with z
    exact h (by omega)
section
variable {P : Program} {w : World} {K : PySem.W.Frag} {mg : Str → Option Value} {base : Heap}
end
end K04

namespace K04
open PySem L2
section
variable {P : Program} {w : World} {K : PySem.W.Frag} {mg : Str → Option Value} {base : Heap}
theorem ok_tie_by (T : Txt K mg) : FnOk P w K mg base CX0 3 T.f_l_tie_by T.d_l_tie_by ["_law_box", "_law_places", "_law_held"] spTie := by
  have G_l_take := ok_take (P := P) (w := w) (base := base) T
  have G_l_lowest := ok_lowestA (P := P) (w := w) (base := base) T
  have G_l_gain_by := ok_gain_by (P := P) (w := w) (base := base) T
  have G_l_most_by := ok_most_by (P := P) (w := w) (base := base) T
  have G_l_price_by := ok_price_by (P := P) (w := w) (base := base) T
  refine T.F_l_tie_by.ok sc_l_tie_by (fun vs H Q E h => ?_) (fun cdv A outer s H vs Q E hr h => ?_)
  · obtain ⟨b, pl, hd, t, ls, hs, rfl, _⟩ := h
    rfl
  · obtain ⟨b, pl, hd, t, ls, hs, rfl, B, ht0, ht1, npl, nhd, hpl, hhd, hl2, hl11, hnd, hhs, h17, k⟩ := h
    refine ⟨_, (@pss_cons _ _ _ _ _ (@ps_set _ _ (3) _ _ _ _ sc_l_tie_by.nd rfl (Or.inl k_l_tie_by_l_first) (@pe_call _ _ _ _ _ _ _ _ _ _ _ _ _ _ _ _ G_l_take (hr.mono (by decide)) k_l_tie_by_l_take T.m_l_take T.F_l_take.kp T.B_l_take .nil (@pass0 _) (@pa_c _ _ _ _ _ (@pw _ 0 _ _ (Or.inl k_l_tie_by_l_box) (by rfl) (by decide) (by decide)) (@pa_c _ _ _ _ _ (@pe_callB _ _ _ _ _ _ _ _ _ (@len_k _ (K) (by rfl)) k_l_tie_by_len T.b_len (@boot_b_len) (@pa_c _ _ _ _ _ (@pw _ 1 _ _ (Or.inl k_l_tie_by_l_places) (by rfl) (by decide) (by decide)) (@pa_nil _) rfl) (by decide) (by decide) (by rfl) (by rfl)) (@pa_nil _) rfl) rfl) (by decide) (by rfl) (by rfl)) (by rfl) (by first | exact .inl rfl | exact .inr rfl | assumption)) (@pss_cons _ _ _ _ _ (@ps_set _ _ (4) _ _ _ _ sc_l_tie_by.nd rfl (Or.inl k_l_tie_by_l_last) (@pe_op _ _ _ _ _ _ _ _ (@op_mod _) (@pe_op _ _ _ _ _ _ _ _ (@op_add _) (@pe_op _ _ _ _ _ _ _ _ (@op_add _) (@pw _ 3 _ _ (Or.inl k_l_tie_by_l_first) (by rfl) (by decide) (by decide)) (@pe_int _ _ _ _)) (@pe_call _ _ _ _ _ _ _ _ _ _ _ _ _ _ _ _ G_l_take (hr.mono (by decide)) k_l_tie_by_l_take T.m_l_take T.F_l_take.kp T.B_l_take .nil (@pass0 _) (@pa_c _ _ _ _ _ (@pw _ 0 _ _ (Or.inl k_l_tie_by_l_box) (by rfl) (by decide) (by decide)) (@pa_c _ _ _ _ _ (@pe_op _ _ _ _ _ _ _ _ (@op_sub _) (@pe_callB _ _ _ _ _ _ _ _ _ (@len_k _ (K) (by rfl)) k_l_tie_by_len T.b_len (@boot_b_len) (@pa_c _ _ _ _ _ (@pw _ 1 _ _ (Or.inl k_l_tie_by_l_places) (by rfl) (by decide) (by decide)) (@pa_nil _) rfl) (by decide) (by decide) (by rfl) (by rfl)) (@pe_int _ _ _ _)) (@pa_nil _) rfl) rfl) (by decide) (by rfl) (by rfl))) (@pe_callB _ _ _ _ _ _ _ _ _ (@len_k _ (K) (by rfl)) k_l_tie_by_len T.b_len (@boot_b_len) (@pa_c _ _ _ _ _ (@pw _ 1 _ _ (Or.inl k_l_tie_by_l_places) (by rfl) (by decide) (by decide)) (@pa_nil _) rfl) (by decide) (by decide) (by rfl) (by rfl))) (by rfl) (by first | exact .inl rfl | exact .inr rfl | assumption)) (@pss_cons _ _ _ _ _ (@ps_set _ _ (5) _ _ _ _ sc_l_tie_by.nd rfl (Or.inl k_l_tie_by_l_gain) (@pe_call _ _ _ _ _ _ _ _ _ _ _ _ _ _ _ _ G_l_gain_by (hr.mono (by decide)) k_l_tie_by_l_gain_by T.m_l_gain_by T.F_l_gain_by.kp T.B_l_gain_by .nil (@pass0 _) (@pa_c _ _ _ _ _ (@pw _ 0 _ _ (Or.inl k_l_tie_by_l_box) (by rfl) (by decide) (by decide)) (@pa_nil _) rfl) (by decide) (by rfl) (by rfl)) (by rfl) (by first | exact .inl rfl | exact .inr rfl | assumption)) (@pss_cons _ _ _ _ _ (@ps_if _ _ _ _ _ _ _ _ (@pt_cmpR _ _ _ _ _ _ _ _ (@op_neD _ hr.units) (@pw _ 2 _ _ (Or.inl k_l_tie_by_l_held) (by rfl) (by decide) (by decide)) (@pe_lstA _ _ _ _ (@pa_nil _)) (@nomark _ _ (by decide) (by decide))) (@pss_cons _ _ _ _ _ (@ps_set _ _ (6) _ _ _ _ sc_l_tie_by.nd rfl (Or.inl k_l_tie_by_l_part) (@pe_op _ _ _ _ _ _ _ _ (@op_add _) (@pe_int _ _ _ _) (@pe_call _ _ _ _ _ _ _ _ _ _ _ _ _ _ _ _ G_l_take (hr.mono (by decide)) k_l_tie_by_l_take T.m_l_take T.F_l_take.kp T.B_l_take .nil (@pass0 _) (@pa_c _ _ _ _ _ (@pw _ 0 _ _ (Or.inl k_l_tie_by_l_box) (by rfl) (by decide) (by decide)) (@pa_c _ _ _ _ _ (@pe_int _ _ _ _) (@pa_nil _) rfl) rfl) (by decide) (by rfl) (by rfl))) (by rfl) (by first | exact .inl rfl | exact .inr rfl | assumption)) (@pss_one _ _ _ (@ps_set _ _ (5) _ _ _ _ sc_l_tie_by.nd rfl (Or.inl k_l_tie_by_l_gain) (@pe_call _ _ _ _ _ _ _ _ _ _ _ _ _ _ _ _ G_l_lowest (hr.mono (by decide)) k_l_tie_by_l_lowest T.m_l_lowest T.F_l_lowest.kp T.B_l_lowest .nil (@pass0 _) (@pa_c _ _ _ _ _ (@pe_op _ _ _ _ _ _ _ _ (@op_mul _) (@pe_ix _ _ _ _ _ _ _ (@ixL_k _ (K) (by rfl)) (@pw _ 2 _ _ (Or.inl k_l_tie_by_l_held) (by rfl) (by decide) (by decide)) (@pw _ 3 _ _ (Or.inl k_l_tie_by_l_first) (by rfl) (by decide) (by decide)) (fun _ _ => rfl)) (@pe_op _ _ _ _ _ _ _ _ (@op_add _) (@pe_int _ _ _ _) (@pe_call _ _ _ _ _ _ _ _ _ _ _ _ _ _ _ _ G_l_take (hr.mono (by decide)) k_l_tie_by_l_take T.m_l_take T.F_l_take.kp T.B_l_take .nil (@pass0 _) (@pa_c _ _ _ _ _ (@pw _ 0 _ _ (Or.inl k_l_tie_by_l_box) (by rfl) (by decide) (by decide)) (@pa_c _ _ _ _ _ (@pw _ 6 _ _ (Or.inl k_l_tie_by_l_part) (by rfl) (by decide) (by decide)) (@pa_nil _) rfl) rfl) (by decide) (by rfl) (by rfl)))) (@pa_c _ _ _ _ _ (@pe_op _ _ _ _ _ _ _ _ (@op_mul _) (@pe_ix _ _ _ _ _ _ _ (@ixL_k _ (K) (by rfl)) (@pw _ 2 _ _ (Or.inl k_l_tie_by_l_held) (by rfl) (by decide) (by decide)) (@pw _ 4 _ _ (Or.inl k_l_tie_by_l_last) (by rfl) (by decide) (by decide)) (fun _ _ => rfl)) (@pw _ 6 _ _ (Or.inl k_l_tie_by_l_part) (by rfl) (by decide) (by decide))) (@pa_nil _) rfl) rfl) (by decide) (by rfl) (by rfl)) (by rfl) (by first | exact .inl rfl | exact .inr rfl | assumption)))) (@pss_nil _)) (@pss_cons _ _ _ _ _ (@ps_set _ _ (7) _ _ _ _ sc_l_tie_by.nd rfl (Or.inl k_l_tie_by_l_high) (@pe_call _ _ _ _ _ _ _ _ _ _ _ _ _ _ _ _ G_l_most_by (hr.mono (by decide)) k_l_tie_by_l_most_by T.m_l_most_by T.F_l_most_by.kp T.B_l_most_by .nil (@pass0 _) (@pa_c _ _ _ _ _ (@pw _ 0 _ _ (Or.inl k_l_tie_by_l_box) (by rfl) (by decide) (by decide)) (@pa_nil _) rfl) (by decide) (by rfl) (by rfl)) (by rfl) (by first | exact .inl rfl | exact .inr rfl | assumption)) (@pss_one _ _ _ (@ps_ret _ _ _ _ (@pe_tupA _ _ _ _ _ (@pa_c _ _ _ _ _ (@pe_ix _ _ _ _ _ _ _ (@ixL_k _ (K) (by rfl)) (@pw _ 1 _ _ (Or.inl k_l_tie_by_l_places) (by rfl) (by decide) (by decide)) (@pw _ 3 _ _ (Or.inl k_l_tie_by_l_first) (by rfl) (by decide) (by decide)) (fun _ _ => rfl)) (@pa_c _ _ _ _ _ (@pe_ix _ _ _ _ _ _ _ (@ixL_k _ (K) (by rfl)) (@pw _ 1 _ _ (Or.inl k_l_tie_by_l_places) (by rfl) (by decide) (by decide)) (@pw _ 4 _ _ (Or.inl k_l_tie_by_l_last) (by rfl) (by decide) (by decide)) (fun _ _ => rfl)) (@pa_c _ _ _ _ _ (@pw _ 7 _ _ (Or.inl k_l_tie_by_l_high) (by rfl) (by decide) (by decide)) (@pa_c _ _ _ _ _ (@pw _ 5 _ _ (Or.inl k_l_tie_by_l_gain) (by rfl) (by decide) (by decide)) (@pa_c _ _ _ _ _ (@pe_call _ _ _ _ _ _ _ _ _ _ _ _ _ _ _ _ G_l_price_by (hr.mono (by decide)) k_l_tie_by_l_price_by T.m_l_price_by T.F_l_price_by.kp T.B_l_price_by .nil (@pass0 _) (@pa_c _ _ _ _ _ (@pw _ 0 _ _ (Or.inl k_l_tie_by_l_box) (by rfl) (by decide) (by decide)) (@pa_nil _) rfl) (by decide) (by rfl) (by rfl)) (@pa_nil _) rfl) rfl) rfl) rfl) rfl))))))))), ?_⟩
    have en : ((ls.map strV).length : Int) = (ls.length : Int) := by rw [List.length_map]
    refine ⟨_, rfl, _, rfl, pl, _, rfl, .inl (SqL.of hpl), b, _, t, rfl, B, by omega, log9 (by omega) (by omega), ht0, by omega, fun f t1 H1 f0 f1 h1a h1b s1 B1 => ?_⟩
    have hpl1 := s1.old pl _ npl hpl
    refine ⟨_, rfl, _, _, rfl, rfl, _, rfl, _, rfl, pl, _, rfl, .inl (SqL.of hpl1), _, _, rfl, rfl, b, _, t1, rfl, B1, by omega, log9 (by omega) (by omega), by omega, by omega, fun r t2 H2 r0 r1 h2a h2b s2 B2 => ?_⟩
    have hpl2 := s2.old pl _ npl hpl1
    refine ⟨_, _, rfl, rfl, _, rfl, pl, _, rfl, .inl (SqL.of hpl2), _, _, rfl, rfl, (by show (0 : Int) < ((ls.map strV).length : Int); omega), ?_⟩
    rw [en] at f1 r1 ⊢
    have st := step_on f0 f1 r0 r1
    obtain ⟨la, ela⟩ : ∃ la, la = (f + 1 + r) % (ls.length : Int) := ⟨_, rfl⟩
    change gName 4 (V.int ((f + 1 + r) % (ls.length : Int))) _ _ _
    rw [← ela] at st ⊢
    obtain ⟨la0, la1, lane⟩ := st
    refine ⟨_, rfl, b, t2, rfl, B2, by omega, by omega, fun og ng dg t3 H3 s3 eg fg g1 B3 h3a h3b => ?_⟩
    have s03 := (s1.trans s2).trans s3
    have wi := wt_ints h17
    refine ⟨_, rfl, (by show 0 ≤ 10000; decide), fun q H4 n4 => ⟨.list (hs.map PyData.int), .list [], fun _ => False, fun _ => False, _, _, _, 1, .lst (n4.sm _ _ (s03.old hd _ nhd hhd)) id (isInts hs), .lst n4.at' id .nil, wi, .list .nil, by decide, _, rfl, ?_⟩⟩
    have s04 := s03.trans n4.sm.toE
    refine ifJ (fun σ H' => ∃ v6 v7 og ng dg t', σ = [some (.ref b), some (.ref pl), some (.ref hd), some (.int f), some (.int la), some (.ref og), v6, v7] ∧ H' og = some (.tup [.int ng, .int dg]) ∧ Fb 6 ng dg ∧ 1 ≤ ng ∧ Bx H' b t' ∧ t ≤ t' ∧ t' ≤ t + 12 ∧ SameE (Eb b) H H') ?rest ?h1 ?h2
    case h2 => exact fun _ => ⟨_, _, og, ng, dg, t3, rfl, n4.sm _ _ eg, fg, g1, B3.same n4.sm, by omega, by omega, s04⟩
    case h1 =>
      intro hb rest
      have hne : hs ≠ [] := fun z => by
        subst z
        simp [eqv_nil] at hb
      have hlen : hs.length = ls.length := hhs.resolve_left hne
      have hhd4 : H4 hd = some (.lst (hs.map V.int)) := s04.old hd _ nhd hhd
      refine ⟨_, rfl, b, 4, t3, rfl, B3.same n4.sm, by decide, by decide, by omega, by omega, fun r5 t5 H5 a50 a51 _ _ s5 B5 => ⟨_, _, rfl, rfl, ?_⟩⟩
      have hhd5 := s5.old hd _ nhd hhd4
      have x1 := h17 hs[f.toNat] (List.getElem_mem _)
      have x2 := h17 hs[la.toNat] (List.getElem_mem _)
      refine ⟨_, rfl, _, rfl, hd, _, _, _, rfl, rfl, SqL.of hhd5, atI_map f0 (by omega), _, rfl, _, rfl, b, _, t5, rfl, B5, by omega, log9 (by omega) (by omega), by omega, by omega, fun r6 t6 H6 a60 a61 _ _ s6 B6 => ⟨_, _, rfl, rfl, _, _, rfl, rfl, .inl ⟨by omega, by omega⟩, _, rfl, _, rfl, hd, _, _, _, rfl, rfl, SqL.of (s6.old hd _ nhd hhd5), atI_map la0 (by omega), _, rfl, _, _, rfl, rfl, .inl ⟨by omega, by omega⟩, ?_⟩⟩
      have m1 : 1 ≤ hs[f.toNat] * (1 + r6) ∧ hs[f.toNat] * (1 + r6) ≤ 7 * 4 := by
        have a : 1 * 1 ≤ hs[f.toNat] * (1 + r6) := Int.mul_le_mul x1.1 (by omega) (by decide) (by omega)
        have b : hs[f.toNat] * (1 + r6) ≤ 7 * 4 := Int.mul_le_mul x1.2 (by omega) (by omega) (by decide)
        omega
      have m2 : 1 ≤ hs[la.toNat] * (1 + r5) ∧ hs[la.toNat] * (1 + r5) ≤ 7 * 4 := by
        have a : 1 * 1 ≤ hs[la.toNat] * (1 + r5) := Int.mul_le_mul x2.1 (by omega) (by decide) (by omega)
        have b : hs[la.toNat] * (1 + r5) ≤ 7 * 4 := Int.mul_le_mul x2.2 (by omega) (by omega) (by decide)
        omega
      have lf := low_fb6 m1.1 (by omega) m2.1 (by omega)
      refine ⟨_, _, rfl, by omega, Sz.mono (m := 40) (by show (hs[la.toNat] * (1 + r5)).natAbs < 1099511627776; omega) (by decide), fun o H7 n7 => rest _ _ ⟨_, _, o, _, _, t6, rfl, n7.at', lf.1, lf.2, B6.same n7.sm, by omega, by omega, ((s04.trans s5).trans s6).trans n7.sm.toE⟩⟩
    case rest =>
      rintro σ Hd ⟨v6, v7, og, ng, dg, td, rfl, eg, fg, g1, Bd, hd0, hd1, sd⟩
      refine ⟨_, rfl, b, td, rfl, Bd, by omega, by omega, fun om nm' dm t8 H8 s8 em fm m0 B8 h8a h8b => ?_⟩
      have hpl8 : H8 pl = some (.lst (ls.map strV)) := s8.old pl _ npl (sd.old pl _ npl hpl)
      refine ⟨_, rfl, _, rfl, pl, _, _, _, rfl, rfl, SqL.of hpl8, atI_map f0 (by omega), _, rfl, _, rfl, pl, _, _, _, rfl, rfl, SqL.of hpl8, atI_map la0 (by omega), _, rfl, _, rfl, _, rfl, b, t8, rfl, B8, by omega, by omega, fun op np dp t9 H9 s9 ep fp p0 B9 h9a h9b => ⟨(by show 5 ≤ 10000; decide), fun o H10 n10 => ?_⟩⟩
      refine k (.ref o) ⟨ls[f.toNat], ls[la.toNat], (nm', dm), (ng, dg), (np, dp)⟩ t9 H10 (((sd.trans s8).trans s9).trans n10.sm.toE) ?_ ?_ (B9.same n10.sm) (by omega) (by omega)
      · exact .tup n10.at' (.cons (.str _) (.cons (.str _) (.cons (isF (n10.sm _ _ (s9.tup _ _ em))) (.cons (isF (n10.sm _ _ (s9.tup _ _ (s8.tup _ _ eg)))) (.cons (isF (n10.sm _ _ ep)) .nil)))))
      · refine ⟨List.getElem_mem _, List.getElem_mem _, fun z => ?_, fm, fg, fp, m0, g1, p0⟩
        have := nodup_inj hnd (by omega) (by omega) z
        omega
end
end K04

namespace K04
open PySem L2
def azB (c : Nat) : Bool := decide (97 ≤ c) && decide (c ≤ 122)
def nameB : PyData → Bool
  | .str x => (decide (1 ≤ x.length) && decide (x.length ≤ 8)) && x.cps.toList.all azB
  | _ => false
theorem lt_one (a b : Nat) : decide ([a] < [b]) = decide (a < b) := by
  by_cases h : a < b
  · rw [decide_eq_true h]; exact decide_eq_true (List.Lex.rel h)
  · rw [decide_eq_false h]
    apply decide_eq_false
    intro z
    cases z with
    | rel q => exact h q
    | cons q => cases q
theorem le_a (c : Nat) : (!decide ((S [c]).cps.toList < (Str.ofString "a").cps.toList)) = decide (97 ≤ c) := by
  have e : (Str.ofString "a").cps.toList = [97] := by decide +kernel
  rw [e]
  show (!decide ([c] < [97])) = _
  rw [lt_one]
  by_cases h : c < 97
  · rw [decide_eq_true h, decide_eq_false (by omega)]; rfl
  · rw [decide_eq_false h, decide_eq_true (by omega)]; rfl
theorem le_z (c : Nat) : (!decide ((Str.ofString "z").cps.toList < (S [c]).cps.toList)) = decide (c ≤ 122) := by
  have e : (Str.ofString "z").cps.toList = [122] := by decide +kernel
  rw [e]
  show (!decide ([122] < [c])) = _
  rw [lt_one]
  by_cases h : 122 < c
  · rw [decide_eq_true h, decide_eq_false (by omega)]; rfl
  · rw [decide_eq_false h, decide_eq_true (by omega)]; rfl
theorem in_az {c : Nat} (h : c < 128) : (!(Builtin.Str.occurrences (Str.ofString "abcdefghijklmnopqrstuvwxyz") (S [c]) 0 (Str.ofString "abcdefghijklmnopqrstuvwxyz").length 1).isEmpty) = azB c := by
  have := (List.all_eq_true.mp (show (List.range 128).all (fun c => (!(Builtin.Str.occurrences (Str.ofString "abcdefghijklmnopqrstuvwxyz") (S [c]) 0 (Str.ofString "abcdefghijklmnopqrstuvwxyz").length 1).isEmpty) == azB c) = true by decide +kernel)) c (List.mem_range.mpr h)
  exact eq_of_beq this
theorem nameB_len {x : Str} (h : ¬ (1 ≤ x.length ∧ x.length ≤ 8)) : nameB (.str x) = false := by
  show ((decide (1 ≤ x.length) && decide (x.length ≤ 8)) && _) = false
  by_cases h1 : 1 ≤ x.length
  · rw [decide_eq_false (fun z => h ⟨h1, z⟩), Bool.and_false, Bool.false_and]
  · rw [decide_eq_false h1, Bool.false_and, Bool.false_and]
theorem nameB_all {x : Str} (h1 : 1 ≤ x.length) (h2 : x.length ≤ 8) : nameB (.str x) = x.cps.toList.all azB := by
  show ((decide (1 ≤ x.length) && decide (x.length ≤ 8)) && _) = _
  rw [decide_eq_true h1, decide_eq_true h2]; rfl
section
variable {P : Program} {w : World} {K : PySem.W.Frag} {mg : Str → Option Value} {base : Heap}
def spDat (f : PyData → Bool) : Sp := fun vs H Q _ => ∃ (x : V) (d : PyData) (E : Addr → Prop) (wn wk : Nat), vs = [x] ∧ IsD E H x d ∧ Wt d wn wk ∧ wn ≤ 3000 ∧ wk ≤ 40 ∧ ∀ H', Same H H' → Q (.bl (f d)) H'
theorem ok_is_name (T : Txt K mg) : FnOk P w K mg base CX0 1 T.f_is_name T.d_is_name ["thing"] (spDat nameB) := by
  refine T.F_is_name.ok sc_is_name (fun vs H Q E h => ?_) (fun cdv A outer s H vs Q E hr h => ?_)
  · obtain ⟨x, d, E', wn, wk, rfl, _⟩ := h
    rfl
  · obtain ⟨x, d, E', wn, wk, rfl, hx, wd, _, _, k⟩ := h
    refine ⟨_, (@pss_cons _ _ _ _ _ (@ps_if _ _ _ _ _ _ _ _ (@PW.pt _ _ _ (@pw_or _ _ _ _ _ _ _ (@pt_not _ _ _ _ (@pt_val _ _ _ (@pe_callB _ _ _ _ _ _ _ _ _ (@isinst_k _ (K) (by rfl)) k_is_name_isinstance T.b_isinstance (@boot_b_isinstance) (@pa_c _ _ _ _ _ (@pw _ 0 _ _ (Or.inl k_is_name_thing) (by rfl) (by decide) (by decide)) (@pa_c _ _ _ _ _ (@pe_ty _ _ _ _ k_is_name_str T.b_str (@boot_ty_str) (by decide) (by decide)) (@pa_nil _) rfl) rfl) (by decide) (by decide) (by rfl) (by rfl)) (by intro _; rfl))) (@pw_or1 _ _ _ _ (@pt_not _ _ _ _ (@pt_chain _ _ _ _ _ _ _ _ _ _ _ _ (@op_le _) (@op_le _) (@pe_int _ _ _ _) (@pe_callB _ _ _ _ _ _ _ _ _ (@call_lenS _) k_is_name_len T.b_len (@boot_b_len) (@pa_c _ _ _ _ _ (@pw _ 0 _ _ (Or.inl k_is_name_thing) (by rfl) (by decide) (by decide)) (@pa_nil _) rfl) (by decide) (by decide) (by rfl) (by rfl)) (@pe_int _ _ _ _) (by with_unfolding_all rfl)))))) (@pss_one _ _ _ (@ps_ret _ _ _ _ (@pe_bl _ _ _ _))) (@pss_nil _)) (@pss_one _ _ _ (@ps_ret _ _ _ _ (@pe_callB _ _ _ _ _ _ _ _ _ (@all_k _ (K) rfl (by rfl)) k_is_name_all T.b_all (@boot_b_all) (@pa_c _ _ _ _ _ (@pe_comp _ _ _ _ _ _ _ (["sign"]) (1) ([]) _ _ _ _ rfl (by kernel_rfl) (@pi_str _ _ _ _ (@pw _ 0 _ _ (Or.inl k_is_name_thing) (by rfl) (by decide) (by decide))) (fun _ _ _ _ _ _ => (@pg_name _ _ (0) _ (@nodupS _ (by kernel_rfl)) rfl (Or.inl (by kernel_rfl)) (by first | exact .inl rfl | exact .inr rfl | assumption))) (fun _ _ _ _ _ _ => @pifs_nil _) (fun _ _ _ _ _ _ => (@pe_chain _ _ _ _ _ _ _ _ _ _ _ _ (@op_leS _) (@op_leS _) (@pe_str _ _ _ _) (@pw _ 0 _ _ (Or.inl (by kernel_rfl)) (by rfl) (by decide) (by decide)) (@pe_str _ _ _ _) (by with_unfolding_all rfl))) (by intro _; rfl)) (@pa_nil _) rfl) (by decide) (by decide) (by rfl) (by rfl))))), ?_⟩
    refine ⟨_, rfl, _, _, _, _, rfl, hx.ty, kit_str d, _, rfl, ?_⟩
    have k0 := k H (Same.refl _)
    cases hx with
    | non => exact iteT (iteT k0)
    | bl b => exact iteT (iteT k0)
    | int i => exact iteT (iteT k0)
    | lst h ne r => exact iteT (iteT k0)
    | tup h r => exact iteT (iteT k0)
    | str y =>
      cases wd with
      | str hy =>
      refine iteF ⟨_, rfl, y, rfl, by have := hy.1; omega, _, _, rfl, rfl, _, rfl, ?_⟩
      by_cases h1 : 1 ≤ y.length
      · rw [decide_eq_true (by omega)]
        refine iteT ⟨_, _, rfl, rfl, _, rfl, ?_⟩
        by_cases h2 : y.length ≤ 8
        · rw [decide_eq_true (by omega)]
          refine iteF ?_
          obtain ⟨l, rfl⟩ : ∃ l, y = S l := ⟨_, (S_self y).symm⟩
          rw [S_len] at h1 h2
          refine ⟨_, rfl, S l, rfl, fun D hD => comp_mapS (l := l) (fun i => .bl (azB ((l[i]?).getD 0))) (by omega) hD ?_ ?_⟩
          · intro i c H' R hc sm kk
            rw [hc] at kk
            refine ⟨back1, _, rfl, _, _, rfl, rfl, _, rfl, ?_⟩
            rw [le_a]
            have k1 := kk H' (Same.refl _)
            simp only [Option.getD_some] at k1
            unfold azB at k1
            by_cases q1 : 97 ≤ c
            · rw [decide_eq_true q1, Bool.true_and] at k1
              rw [decide_eq_true q1]
              refine iteT ⟨_, _, rfl, rfl, ?_⟩
              rw [le_z]; exact k1
            · rw [decide_eq_false q1, Bool.false_and] at k1
              rw [decide_eq_false q1]
              exact iteF k1
          · intro H1 s1 hD1
            rw [map_range_get (fun i => V.bl (azB ((l[i]?).getD 0))) (fun c => V.bl (azB c)) l (fun i x e => by rw [e]; rfl)] at hD1
            have e3 : l.map (fun c => V.bl (azB c)) = (l.map azB).map V.bl := by rw [List.map_map]; rfl
            rw [e3] at hD1
            refine ⟨D, _, rfl, SqL.of hD1, ?_⟩
            have k1 := k H1 s1
            rw [nameB_all (by rw [S_len]; exact h1) (by rw [S_len]; exact h2)] at k1
            have e4 : (l.map azB).all id = (S l).cps.toList.all azB := by rw [List.all_map]; rfl
            rw [e4]; exact k1
        · rw [decide_eq_false (by omega)]
          rw [nameB_len (fun z => h2 z.2)] at k0
          exact iteT k0
      · rw [decide_eq_false (by omega)]
        rw [nameB_len (fun z => h1 z.1)] at k0
        exact iteF ⟨_, rfl, iteT k0⟩
theorem ok_l_is_name (T : Txt K mg) : FnOk P w K mg base CX0 1 T.f_l_is_name T.d_l_is_name ["_law_thing"] (spDat nameB) := by
  refine T.F_l_is_name.ok sc_l_is_name (fun vs H Q E h => ?_) (fun cdv A outer s H vs Q E hr h => ?_)
  · obtain ⟨x, d, E', wn, wk, rfl, _⟩ := h
    rfl
  · obtain ⟨x, d, E', wn, wk, rfl, hx, wd, _, _, k⟩ := h
    refine ⟨_, (@pss_cons _ _ _ _ _ (@ps_if _ _ _ _ _ _ _ _ (@PW.pt _ _ _ (@pw_or _ _ _ _ _ _ _ (@pt_not _ _ _ _ (@pt_val _ _ _ (@pe_callB _ _ _ _ _ _ _ _ _ (@isinst_k _ (K) (by rfl)) k_l_is_name_isinstance T.b_isinstance (@boot_b_isinstance) (@pa_c _ _ _ _ _ (@pw _ 0 _ _ (Or.inl k_l_is_name_l_thing) (by rfl) (by decide) (by decide)) (@pa_c _ _ _ _ _ (@pe_ty _ _ _ _ k_l_is_name_str T.b_str (@boot_ty_str) (by decide) (by decide)) (@pa_nil _) rfl) rfl) (by decide) (by decide) (by rfl) (by rfl)) (by intro _; rfl))) (@pw_or1 _ _ _ _ (@pt_not _ _ _ _ (@pt_chain _ _ _ _ _ _ _ _ _ _ _ _ (@op_lt _) (@op_lt _) (@pe_int _ _ _ _) (@pe_callB _ _ _ _ _ _ _ _ _ (@call_lenS _) k_l_is_name_len T.b_len (@boot_b_len) (@pa_c _ _ _ _ _ (@pw _ 0 _ _ (Or.inl k_l_is_name_l_thing) (by rfl) (by decide) (by decide)) (@pa_nil _) rfl) (by decide) (by decide) (by rfl) (by rfl)) (@pe_int _ _ _ _) (by with_unfolding_all rfl)))))) (@pss_one _ _ _ (@ps_ret _ _ _ _ (@pe_bl _ _ _ _))) (@pss_nil _)) (@pss_one _ _ _ (@ps_ret _ _ _ _ (@pe_callB _ _ _ _ _ _ _ _ _ (@all_k _ (K) rfl (by rfl)) k_l_is_name_all T.b_all (@boot_b_all) (@pa_c _ _ _ _ _ (@pe_comp _ _ _ _ _ _ _ (["_law_sign"]) (1) ([]) _ _ _ _ rfl (by kernel_rfl) (@pi_str _ _ _ _ (@pw _ 0 _ _ (Or.inl k_l_is_name_l_thing) (by rfl) (by decide) (by decide))) (fun _ _ _ _ _ _ => (@pg_name _ _ (0) _ (@nodupS _ (by kernel_rfl)) rfl (Or.inl (by kernel_rfl)) (by first | exact .inl rfl | exact .inr rfl | assumption))) (fun _ _ _ _ _ _ => @pifs_nil _) (fun _ _ _ _ _ _ => (@pe_cmpR _ _ _ _ _ _ _ _ (@op_inS _) (@pw _ 0 _ _ (Or.inl (by kernel_rfl)) (by rfl) (by decide) (by decide)) (@pe_str _ _ _ _) rfl)) (by intro _; rfl)) (@pa_nil _) rfl) (by decide) (by decide) (by rfl) (by rfl))))), ?_⟩
    refine ⟨_, rfl, _, _, _, _, rfl, hx.ty, kit_str d, _, rfl, ?_⟩
    have k0 := k H (Same.refl _)
    cases hx with
    | non => exact iteT (iteT k0)
    | bl b => exact iteT (iteT k0)
    | int i => exact iteT (iteT k0)
    | lst h ne r => exact iteT (iteT k0)
    | tup h r => exact iteT (iteT k0)
    | str y =>
      cases wd with
      | str hy =>
      refine iteF ⟨_, rfl, y, rfl, by have := hy.1; omega, _, _, rfl, rfl, _, rfl, ?_⟩
      by_cases h1 : 1 ≤ y.length
      · rw [decide_eq_true (by omega)]
        refine iteT ⟨_, _, rfl, rfl, _, rfl, ?_⟩
        by_cases h2 : y.length ≤ 8
        · rw [decide_eq_true (by omega)]
          refine iteF ?_
          obtain ⟨l, rfl⟩ : ∃ l, y = S l := ⟨_, (S_self y).symm⟩
          rw [S_len] at h1 h2
          refine ⟨_, rfl, S l, rfl, fun D hD => comp_mapS (l := l) (fun i => .bl (azB ((l[i]?).getD 0))) (by omega) hD ?_ ?_⟩
          · intro i c H' R hc sm kk
            rw [hc] at kk
            refine ⟨back1, _, rfl, _, _, rfl, rfl, ?_⟩
            rw [in_az (hy.2 c (List.mem_of_getElem? hc))]
            exact kk H' (Same.refl _)
          · intro H1 s1 hD1
            rw [map_range_get (fun i => V.bl (azB ((l[i]?).getD 0))) (fun c => V.bl (azB c)) l (fun i x e => by rw [e]; rfl)] at hD1
            have e3 : l.map (fun c => V.bl (azB c)) = (l.map azB).map V.bl := by rw [List.map_map]; rfl
            rw [e3] at hD1
            refine ⟨D, _, rfl, SqL.of hD1, ?_⟩
            have k1 := k H1 s1
            rw [nameB_all (by rw [S_len]; exact h1) (by rw [S_len]; exact h2)] at k1
            have e4 : (l.map azB).all id = (S l).cps.toList.all azB := by rw [List.all_map]; rfl
            rw [e4]; exact k1
        · rw [decide_eq_false (by omega)]
          rw [nameB_len (fun z => h2 z.2)] at k0
          exact iteT k0
      · rw [decide_eq_false (by omega)]
        rw [nameB_len (fun z => h1 z.1)] at k0
        exact iteF ⟨_, rfl, iteT k0⟩
end
end K04

namespace K04
open PySem L2
theorem for_enumK {K : PySem.W.Frag} {a : Addr} {c : Bool} {xs : List V} {g : TG} {tb : TS} {D : Ends} {σ : St} {H : Hp} (Pv : Nat → St → Hp → Prop) (h0 : Pv 0 σ H) (hl : ∀ i σ H, i ≤ xs.length → Pv i σ H → SqC K H a xs c)
    (hs : ∀ i x T σ H, xs[i]? = some x → H T = none → Pv i σ H → g (.ref T) σ (upd H T (.tup [.int (i : Int), x])) fun σ2 H2 => tb { D with nx := Pv (i + 1), ct := Pv (i + 1), bk := D.nx } σ2 H2) (hd : ∀ σ H, Pv xs.length σ H → D.nx σ H) :
    ∃ W : Nat → Nat → St → Hp → Prop, (∃ m, W 0 m σ H) ∧ ∀ i m σ H, W i m σ H →
      ((IteK K a c).stop i H ∧ D.nx σ H) ∨ ((IteK K a c).go i H ∧ ∃ N : St → Hp → Prop, (∀ σ' H', N σ' H' → ∃ m', m' < m ∧ W (i + 1) m' σ' H') ∧ ∀ x H', (IteK K a c).yld i H x H' → g x σ H' fun σ2 H2 => tb { D with nx := N, ct := N, bk := D.nx } σ2 H2) := by
  refine ⟨fun i m σ H => m = xs.length - i ∧ i ≤ xs.length ∧ Pv i σ H, ⟨xs.length, by simp, Nat.zero_le _, h0⟩, ?_⟩
  rintro i m σ H ⟨rfl, hi, p⟩
  have q1 := hl i σ H hi p
  by_cases hlt : i < xs.length
  · refine .inr ⟨⟨xs, xs[i], q1, by simp [hlt]⟩, Pv (i + 1), fun σ' H' p' => ⟨xs.length - (i + 1), by omega, rfl, hlt, p'⟩, fun x H' y => ?_⟩
    obtain ⟨T, u, hT, rfl, rfl, e1⟩ := y
    exact hs i u T σ H (e1 xs q1) hT p
  · have e : i = xs.length := by omega
    subst e
    exact .inl ⟨⟨xs, q1, rfl⟩, hd _ _ p⟩
def kid (d : PyData) (i : Nat) : Option PyData := match d with
  | .list ds => ds[i]?
  | .tuple ds => ds[i]?
  | _ => none
def okP : List Nat → PyData → Prop
  | [], _ => True
  | i :: r, d => ∃ e, kid d i = some e ∧ okP r e
theorem Wg.kid {z : Nat} {d e : PyData} {n k i : Nat} (h : Wg z d n k) (hk : kid d i = some e) : ∃ l, l + 1 ≤ k ∧ Wg z e n l := by
  cases h with
  | @list xs m l _ _ h hn hk' => exact ⟨l, hk', (h.get hk).up (by omega) (Nat.le_refl _)⟩
  | @tuple xs m l _ _ h hn hk' => exact ⟨l, hk', (h.get hk).up (by omega) (Nat.le_refl _)⟩
  | _ => cases hk
theorem okP_len {z : Nat} : ∀ {r : List Nat} {d : PyData} {n k : Nat}, Wg z d n k → okP r d → r.length ≤ k
  | [], _, _, _, _, _ => Nat.zero_le _
  | i :: r, d, n, k, h, ⟨e, h1, h2⟩ => by
    obtain ⟨l, hl, w⟩ := Wg.kid h h1
    have := okP_len w h2
    simp; omega
/-- a list of ways into d, each behind pre -/
def Ways (E : Addr → Prop) (H : Hp) (pre : List Nat) (d : PyData) (xs : List V) : Prop := ∀ v ∈ xs, ∃ q r, v = .ref q ∧ ¬ E q ∧ H q = some (.lst (nts (pre ++ r))) ∧ okP r d
theorem IsD.split {F : Addr → Prop} {H : Hp} {x : V} {d : PyData} (h : IsD F H x d) : isSeqB d = false ∨ (isSeqB d = true ∧ ∃ (o : Addr) (c : Bool) (ys : List V) (ds : List PyData), x = .ref o ∧ (∀ K H', Same H H' → SqC K H' o ys c) ∧ IsAll F H ys ds ∧ (∀ i, kid d i = ds[i]?) ∧ ∀ z N k, Wg z d N k → ∃ m l, WgL z ds m l ∧ m + 1 ≤ N ∧ l + 1 ≤ k) := by
  cases h with
  | @lst o ys ds h ne r => exact .inr ⟨rfl, o, true, ys, ds, rfl, fun K H' s => SqL.of (s _ _ h), r, fun _ => rfl, fun z N k w => by cases w with | list h1 h2 h3 => exact ⟨_, _, h1, h2, h3⟩⟩
  | @tup o ys ds h r => exact .inr ⟨rfl, o, false, ys, ds, rfl, fun K H' s => SqT.of (s _ _ h), r, fun _ => rfl, fun z N k w => by cases w with | tuple h1 h2 h3 => exact ⟨_, _, h1, h2, h3⟩⟩
  | _ => exact .inl rfl
theorem WgL.pre {z : Nat} {xs : List PyData} {n k : Nat} (h : WgL z xs n k) : ∃ f : Nat → Nat, f 0 = 0 ∧ (∀ i, f i ≤ n) ∧ ∀ i d, xs[i]? = some d → ∃ m, Wg z d m k ∧ f i + m ≤ f (i + 1) := by
  induction xs generalizing n with
  | nil => exact ⟨fun _ => 0, rfl, fun _ => Nat.zero_le _, fun i d e => by simp at e⟩
  | cons x r ih =>
    cases h with
    | @cons _ _ m l _ _ h g hn =>
    obtain ⟨f, f0, f1, f2⟩ := ih g
    refine ⟨fun i => match i with | 0 => 0 | i + 1 => m + f i, rfl, fun i => ?_, fun i d e => ?_⟩
    · cases i with
      | zero => exact Nat.zero_le _
      | succ i => have := f1 i; show m + f i ≤ n; omega
    · cases i with
      | zero =>
        simp at e; subst e
        exact ⟨m, h, by show 0 + m ≤ m + f 0; omega⟩
      | succ i =>
        obtain ⟨m', w, q⟩ := f2 i d (by simpa using e)
        exact ⟨m', w, by show m + f i + m' ≤ m + f (i + 1); omega⟩
section
variable {P : Program} {w : World} {K : PySem.W.Frag} {mg : Str → Option Value} {base : Heap}
def spPaths (n : Nat) : Sp := fun vs H Q _ => ∃ (x : V) (p : Addr) (d : PyData) (E F : Addr → Prop) (pre : List Nat) (z N k : Nat), vs = [x, .ref p] ∧ IsD F H x d ∧ H p = some (.lst (nts pre)) ∧ Al E H ∧ ¬ E p ∧ Wg z d N k ∧ k + 1 ≤ n ∧ N ≤ 5000 ∧ pre.length + k ≤ 100 ∧
  ∀ D xs H', Same H H' → H D = none → H' D = some (.lst xs) → Ways E H' pre d xs → 1 ≤ xs.length → xs.length ≤ N → Q (.ref D) H'
theorem ok_paths (T : Txt K mg) : ∀ n, FnOk P w K mg base CX0 (n + 1) T.f_l_paths_to T.d_l_paths_to ["_law_thing", "_law_path"] (spPaths n) := by
  intro n
  induction n with
  | zero =>
    refine T.F_l_paths_to.ok sc_l_paths_to (fun vs H Q E h => ?_) (fun cdv A outer s H vs Q E hr h => ?_)
    · obtain ⟨_, _, _, _, _, _, _, _, _, _, _, _, _, _, _, z, _⟩ := h
      omega
    · obtain ⟨_, _, _, _, _, _, _, _, _, _, _, _, _, _, _, z, _⟩ := h
      omega
  | succ n G_l_paths_to =>
  refine T.F_l_paths_to.ok sc_l_paths_to (fun vs H Q E h => ?_) (fun cdv A outer s H vs Q E hr h => ?_)
  · obtain ⟨_, _, _, _, _, _, _, _, _, rfl, _⟩ := h
    rfl
  · obtain ⟨x, p, d, E', F, pre, z, N, k, rfl, hx, hp, hal, hnp, wg, hkn, hN, hpk, K'⟩ := h
    refine ⟨_, (@pss_cons _ _ _ _ _ (@ps_set _ _ (2) _ _ _ _ sc_l_paths_to.nd rfl (Or.inl k_l_paths_to_l_found) (@pe_lstA _ _ _ _ (@pa_c _ _ _ _ _ (@pw _ 1 _ _ (Or.inl k_l_paths_to_l_path) (by rfl) (by decide) (by decide)) (@pa_nil _) rfl)) (by rfl) (by first | exact .inl rfl | exact .inr rfl | assumption)) (@pss_cons _ _ _ _ _ (@ps_if _ _ _ _ _ _ _ _ (@pt_val _ _ _ (@pe_callB _ _ _ _ _ _ _ _ _ (@isinstT_k _ (K) (by rfl)) k_l_paths_to_isinstance T.b_isinstance (@boot_b_isinstance) (@pa_c _ _ _ _ _ (@pw _ 0 _ _ (Or.inl k_l_paths_to_l_thing) (by rfl) (by decide) (by decide)) (@pa_c _ _ _ _ _ (@pe_tupA _ _ _ _ _ (@pa_c _ _ _ _ _ (@pe_ty _ _ _ _ k_l_paths_to_list T.b_list (@boot_ty_list) (by decide) (by decide)) (@pa_c _ _ _ _ _ (@pe_ty _ _ _ _ k_l_paths_to_tuple T.b_tuple (@boot_ty_tuple) (by decide) (by decide)) (@pa_nil _) rfl) rfl)) (@pa_nil _) rfl) rfl) (by decide) (by decide) (by rfl) (by rfl)) (by intro _; rfl)) (@pss_one _ _ _ (@ps_for _ _ _ _ _ _ _ _ PassesOwn.never rfl (@pi_enumK _ (K) _ _ _ _ _ _ _ k_l_paths_to_enumerate T.b_enumerate (@pa_c _ _ _ _ _ (@pw _ 0 _ _ (Or.inl k_l_paths_to_l_thing) (by rfl) (by decide) (by decide)) (@pa_nil _) rfl) (by rfl) (by rfl)) (@pg_tup_k _ (K) _ _ _ _ (2) rfl (@pgs_cons _ _ _ _ _ (@pg_name _ _ (3) _ sc_l_paths_to.nd rfl (Or.inl k_l_paths_to_l_k) (by first | exact .inl rfl | exact .inr rfl | assumption)) (@pgs_cons _ _ _ _ _ (@pg_name _ _ (4) _ sc_l_paths_to.nd rfl (Or.inl k_l_paths_to_l_one) (by first | exact .inl rfl | exact .inr rfl | assumption)) (@pgs_nil _) (by rfl)) (by rfl)) (by rfl) (by rfl) (by rfl)) (@pss_one _ _ _ (@ps_expr _ _ _ _ (@pe_bm_k _ (K) _ _ _ _ _ _ _ _ _ _ _ PySem.F.plainAttrs_list PySem.F.slot_list_extend PySem.F.type_list_extend (@mt_extend _) (@pw _ 2 _ _ (Or.inl k_l_paths_to_l_found) (by rfl) (by decide) (by decide)) (@pa_c _ _ _ _ _ (@pe_call _ _ _ _ _ _ _ _ _ _ _ _ _ _ _ _ G_l_paths_to (hr.mono (by omega)) k_l_paths_to_l_paths_to T.m_l_paths_to T.F_l_paths_to.kp T.B_l_paths_to .nil (@pass0 _) (@pa_c _ _ _ _ _ (@pw _ 4 _ _ (Or.inl k_l_paths_to_l_one) (by rfl) (by decide) (by decide)) (@pa_c _ _ _ _ _ (@pe_op _ _ _ _ _ _ _ _ (@op_catA _) (@pw _ 1 _ _ (Or.inl k_l_paths_to_l_path) (by rfl) (by decide) (by decide)) (@pe_lstA _ _ _ _ (@pa_c _ _ _ _ _ (@pw _ 3 _ _ (Or.inl k_l_paths_to_l_k) (by rfl) (by decide) (by decide)) (@pa_nil _) rfl))) (@pa_nil _) rfl) rfl) (by decide) (by rfl) (by rfl)) (@pa_nil _) rfl) (by rfl) (by rfl) (by rfl) (by rfl) (by rfl) (by rfl)) (by rfl))) (by intro _; rfl))) (@pss_nil _)) (@pss_one _ _ _ (@ps_ret _ _ _ _ (@pw _ 2 _ _ (Or.inl k_l_paths_to_l_found) (by rfl) (by decide) (by decide)))))), ?_⟩
    refine ⟨_, rfl, (by show 1 ≤ 10000; decide), fun D H1 n1 => ?_⟩
    have hDE : ¬ E' D := hal.ne n1.fr
    refine ⟨_, rfl, (by show 2 ≤ 10000; decide), fun o2 H2 n2 => ?_⟩
    have s2 := n1.sm.trans n2.sm
    have e2 : H2 D = some (.lst [.ref p]) := n2.sm _ _ n1.at'
    have p2 := s2 _ _ hp
    have W0 : Ways E' H2 pre d [.ref p] := fun v hv => ⟨p, [], List.mem_singleton.mp hv, hnp, by rw [List.append_nil]; exact p2, trivial⟩
    refine ⟨x, o2, d, F, rfl, hx.mono s2.toE, SqT.of n2.at', _, rfl, ?_⟩
    rcases IsD.split hx with hs | ⟨hs, o, c, ys, ds, rfl, sq, r, hkid, hw⟩
    · rw [hs]
      exact iteF ⟨_, rfl, K' D _ H2 s2 n1.fr e2 W0 (Nat.le_refl _) wg.pos⟩
    · rw [hs]
      obtain ⟨m, l, wl, hm, hl⟩ := hw z N k wg
      obtain ⟨f, f0, f1, f2⟩ := WgL.pre wl
      refine iteT ⟨_, rfl, o, c, rfl, ⟨ys, sq _ _ s2⟩, for_enumK (xs := ys) (fun i σ H' => ∃ (v3 v4 : Option V) (xs : List V), σ = [some (.ref o), some (.ref p), some (.ref D), v3, v4] ∧ H' D = some (.lst xs) ∧ Same H H' ∧ Ways E' H' pre d xs ∧ (∀ v ∈ xs, v ≠ .ref D) ∧ 1 ≤ xs.length ∧ xs.length ≤ 1 + f i)
        ⟨_, _, _, rfl, e2, s2, W0, fun v hv => ?_, Nat.le_refl _, by rw [f0]; exact Nat.le_refl _⟩ ?_ ?_ ?_⟩
      · rw [List.mem_singleton.mp hv]
        intro z
        injection z with z
        rw [z, n1.fr] at hp
        cases hp
      · rintro i σ H' _ ⟨_, _, _, _, _, sm, _⟩
        exact sq _ _ sm
      · rintro i x T σ H3 hxi hT ⟨v3, v4, xs, rfl, e3, sm, wy, nD, l1, l2⟩
        obtain ⟨du, g1, g2⟩ := r.get hxi
        obtain ⟨mu, wu, hfu⟩ := f2 i du g1
        have s4 : Same H (upd H3 T (.tup [.int (i : Int), x])) := sm.trans (Same.new hT)
        have n4 : Nw H3 T (.tup [.int (i : Int), x]) (upd H3 T (.tup [.int (i : Int), x])) := .mk' hT
        generalize upd H3 T (.tup [.int (i : Int), x]) = H4 at s4 n4 ⊢
        have e4 : H4 D = some (.lst xs) := n4.sm _ _ e3
        refine ⟨T, _, rfl, SqT.of n4.at', rfl, _, _, rfl, _, _, rfl, rfl, ?_⟩
        refine ⟨_, rfl, .inl ⟨rfl, _, SqL.of e4⟩, _, rfl, _, rfl, _, rfl, (by show 1 ≤ 10000; decide), fun o5 H5 n5 => ⟨p, o5, _, _, rfl, rfl, (s4.trans n5.sm) _ _ hp, n5.at', (by rw [List.length_map]; show pre.length + 1 ≤ 10000; omega), fun o6 H6 n6 => ?_⟩⟩
        have s46 := n5.sm.trans n6.sm
        have s06 := s4.trans s46
        have e6 : H6 D = some (.lst xs) := s46 _ _ e4
        have al6 : Al (fun a => E' a ∨ a = D) H6 := fun a ha => ha.elim (fun q => hal.sm s06 a q) (fun q => by rw [q, e6]; intro z; cases z)
        have n6D : ¬ (E' o6 ∨ o6 = D) := fun q => q.elim (fun q => (hal.sm (s4.trans n5.sm)).ne n6.fr q) (fun q => by have z := n6.fr; rw [q, n5.sm _ _ e4] at z; cases z)
        refine ⟨x, o6, du, fun a => E' a ∨ a = D, F, pre ++ [i], z, mu, l, rfl, g2.mono s06.toE, ?_, al6, n6D, wu, by omega, by have := f1 (i + 1); omega, by rw [List.length_append]; show pre.length + 1 + l ≤ 100; omega, fun D7 zs H7 s7 hD7 e7 w7 h71 h72 => ?_⟩
        · have := n6.at'
          rw [this, show nts (pre ++ [i]) = nts pre ++ [V.int (i : Int)] from List.map_append]
        have e7D := s7 _ _ e6
        have hf1 := f1 (i + 1)
        refine ⟨D, D7, xs, zs, rfl, rfl, e7D, e7, (by rw [sizeLine_eq]; omega), ?_⟩
        have c8 : Ch H7 D (xs ++ zs) (upd H7 D (.lst (xs ++ zs))) := .mk'
        generalize upd H7 D (.lst (xs ++ zs)) = H8 at c8 ⊢
        have s07 := s06.trans s7
        refine ⟨_, _, xs ++ zs, rfl, c8.at', fun a u h => c8.ol a u (ne_of_none h n1.fr) (s07 a u h), fun v hv => ?_, fun v hv => ?_, by rw [List.length_append]; omega, by rw [List.length_append]; omega⟩
        · rcases List.mem_append.mp hv with hv | hv
          · obtain ⟨q, r', e, ne, hq, ok⟩ := wy v hv
            have nq : q ≠ D := fun z => nD v hv (by rw [e, z])
            exact ⟨q, r', e, ne, c8.ol q _ nq (s7 _ _ (s46 _ _ (n4.sm _ _ hq))), ok⟩
          · obtain ⟨q, r', e, ne, hq, ok⟩ := w7 v hv
            refine ⟨q, i :: r', e, fun z => ne (.inl z), ?_, du, (hkid i).trans g1, ok⟩
            have q1 := c8.ol q _ (fun z => ne (.inr z)) hq
            rw [List.append_assoc] at q1
            exact q1
        · rcases List.mem_append.mp hv with hv | hv
          · exact nD v hv
          · obtain ⟨q, r', e, ne, hq, ok⟩ := w7 v hv
            rw [e]
            intro z
            injection z with z
            exact ne (.inr z)
      · rintro σ H3 ⟨v3, v4, xs, rfl, e3, sm, wy, nD, l1, l2⟩
        have := f1 ys.length
        exact ⟨_, rfl, K' D xs H3 sm n1.fr e3 wy l1 (by omega)⟩
end
end K04

namespace K04
open PySem L2
theorem eqv_low {n e : Int} (h : 1 ≤ e) : PyData.eqv (frD (KM.low n e)) (.tuple [.int n, .int e]) = decide (Int.gcd n e = 1) := by
  have e1 : PyData.eqv (frD (KM.low n e)) (.tuple [.int n, .int e]) = ((KM.low n e).1 == n && ((KM.low n e).2 == e && true)) := by
    simp [PyData.eqv, PyData.eqvAll]
  rw [e1]
  obtain ⟨_, _, c, _⟩ := KM.low_spec n e (by omega)
  by_cases g : Int.gcd n e = 1
  · rw [KM.low_self h g, g]; simp
  · rw [decide_eq_false g]
    by_cases q1 : (KM.low n e).1 = n
    · by_cases q2 : (KM.low n e).2 = e
      · rw [q1, q2] at c; exact absurd c g
      · simp [q2]
    · simp [q1]
section
variable {P : Program} {w : World} {K : PySem.W.Frag} {mg : Str → Option Value} {base : Heap}
theorem ok_l_is_number (T : Txt K mg) : FnOk P w K mg base CX0 1 T.f_l_is_number T.d_l_is_number ["_law_thing"] spNum := by
  refine T.F_l_is_number.ok sc_l_is_number (fun vs H Q E h => ?_) (fun cdv A outer s H vs Q E hr h => ?_)
  · obtain ⟨x, d, F, rfl, _⟩ := h
    rfl
  · obtain ⟨x, d, F, rfl, hx, k⟩ := h
    refine ⟨_, (@pss_one _ _ _ (@ps_ret _ _ _ _ (@pe_and _ _ _ _ _ _ _ (@pe_callB _ _ _ _ _ _ _ _ _ (@isinst_k _ (K) (by rfl)) k_l_is_number_isinstance T.b_isinstance (@boot_b_isinstance) (@pa_c _ _ _ _ _ (@pw _ 0 _ _ (Or.inl k_l_is_number_l_thing) (by rfl) (by decide) (by decide)) (@pa_c _ _ _ _ _ (@pe_ty _ _ _ _ k_l_is_number_int T.b_int (@boot_ty_int) (by decide) (by decide)) (@pa_nil _) rfl) rfl) (by decide) (by decide) (by rfl) (by rfl)) (@pe_one _ _ _ _ _ (@pe_not _ _ _ _ (@pe_callB _ _ _ _ _ _ _ _ _ (@isinst_k _ (K) (by rfl)) k_l_is_number_isinstance T.b_isinstance (@boot_b_isinstance) (@pa_c _ _ _ _ _ (@pw _ 0 _ _ (Or.inl k_l_is_number_l_thing) (by rfl) (by decide) (by decide)) (@pa_c _ _ _ _ _ (@pe_ty _ _ _ _ k_l_is_number_bool T.b_bool (@boot_ty_bool) (by decide) (by decide)) (@pa_nil _) rfl) rfl) (by decide) (by decide) (by rfl) (by rfl))))))), ?_⟩
    exact rd_isnum rfl hx k
def spFrS : Sp := fun vs H Q _ => ∃ (x : V) (d : PyData) (E : Addr → Prop) (wn wk : Nat), vs = [x] ∧ IsD E H x d ∧ Wt d wn wk ∧ ∀ H', Same H H' → Q (.bl (isFr d)) H'
theorem isFr_len {ds : List PyData} (h : ds.length ≠ 2) : isFr (.tuple ds) = false := by
  unfold isFr
  split
  · rename_i z
    injection z with z
    subst z
    simp at h
  · rfl
theorem ok_l_is_fraction (T : Txt K mg) : FnOk P w K mg base CX0 2 T.f_l_is_fraction T.d_l_is_fraction ["_law_thing"] spFrS := by
  have G_l_is_number := ok_l_is_number (P := P) (w := w) (base := base) T
  have G_l_lowest := ok_lowestA (P := P) (w := w) (base := base) T
  refine T.F_l_is_fraction.ok sc_l_is_fraction (fun vs H Q E h => ?_) (fun cdv A outer s H vs Q E hr h => ?_)
  · obtain ⟨x, d, F, wn, wk, rfl, _⟩ := h
    rfl
  · obtain ⟨x, d, F, wn, wk, rfl, hx, wd, k⟩ := h
    refine ⟨_, (@pss_cons _ _ _ _ _ (@ps_if _ _ _ _ _ _ _ _ (@PW.pt _ _ _ (@pw_or _ _ _ _ _ _ _ (@pt_not _ _ _ _ (@pt_val _ _ _ (@pe_callB _ _ _ _ _ _ _ _ _ (@isinst_k _ (K) (by rfl)) k_l_is_fraction_isinstance T.b_isinstance (@boot_b_isinstance) (@pa_c _ _ _ _ _ (@pw _ 0 _ _ (Or.inl k_l_is_fraction_l_thing) (by rfl) (by decide) (by decide)) (@pa_c _ _ _ _ _ (@pe_ty _ _ _ _ k_l_is_fraction_tuple T.b_tuple (@boot_ty_tuple) (by decide) (by decide)) (@pa_nil _) rfl) rfl) (by decide) (by decide) (by rfl) (by rfl)) (by intro _; rfl))) (@pw_or _ _ _ _ _ _ _ (@pt_cmpR _ _ _ _ _ _ _ _ (@op_ne _) (@pe_callB _ _ _ _ _ _ _ _ _ (@len_k _ (K) (by rfl)) k_l_is_fraction_len T.b_len (@boot_b_len) (@pa_c _ _ _ _ _ (@pw _ 0 _ _ (Or.inl k_l_is_fraction_l_thing) (by rfl) (by decide) (by decide)) (@pa_nil _) rfl) (by decide) (by decide) (by rfl) (by rfl)) (@pe_int _ _ _ _) (@nomark _ _ (by decide) (by decide))) (@pw_or1 _ _ _ _ (@pt_not _ _ _ _ (@pt_val _ _ _ (@pe_callB _ _ _ _ _ _ _ _ _ (@all_k _ (K) rfl (by rfl)) k_l_is_fraction_all T.b_all (@boot_b_all) (@pa_c _ _ _ _ _ (@pe_comp _ _ _ _ _ _ _ (["_law_one"]) (1) ([]) _ _ _ _ rfl (by kernel_rfl) (@pi_tup_k _ (K) _ _ _ (@pw _ 0 _ _ (Or.inl k_l_is_fraction_l_thing) (by rfl) (by decide) (by decide)) (by rfl)) (fun _ _ _ _ _ _ => (@pg_name _ _ (0) _ (@nodupS _ (by kernel_rfl)) rfl (Or.inl (by kernel_rfl)) (by first | exact .inl rfl | exact .inr rfl | assumption))) (fun _ _ _ _ _ _ => @pifs_nil _) (fun _ _ _ _ _ _ => (@pe_call _ _ _ _ _ _ _ _ _ _ _ _ _ _ _ _ G_l_is_number (hr.mono (by decide)) (by show _ = _; kernel_rfl) T.m_l_is_number T.F_l_is_number.kp T.B_l_is_number .nil (@pass0 _) (@pa_c _ _ _ _ _ (@pw _ 0 _ _ (Or.inl (by kernel_rfl)) (by rfl) (by decide) (by decide)) (@pa_nil _) rfl) (by decide) (by rfl) (by rfl))) (by intro _; rfl)) (@pa_nil _) rfl) (by decide) (by decide) (by rfl) (by rfl)) (by intro _; rfl))))))) (@pss_one _ _ _ (@ps_ret _ _ _ _ (@pe_bl _ _ _ _))) (@pss_nil _)) (@pss_one _ _ _ (@ps_ret _ _ _ _ (@pe_and _ _ _ _ _ _ _ (@pe_cmpR _ _ _ _ _ _ _ _ (@op_ge _) (@pe_ix _ _ _ _ _ _ _ (@ixT_k _ (K) (by rfl)) (@pw _ 0 _ _ (Or.inl k_l_is_fraction_l_thing) (by rfl) (by decide) (by decide)) (@pe_int _ _ _ _) (fun _ _ => rfl)) (@pe_int _ _ _ _) (@nomark _ _ (by decide) (by decide))) (@pe_one _ _ _ _ _ (@pe_cmpR _ _ _ _ _ _ _ _ (@op_eqD _ hr.units) (@pe_call _ _ _ _ _ _ _ _ _ _ _ _ _ _ _ _ G_l_lowest (hr.mono (by decide)) k_l_is_fraction_l_lowest T.m_l_lowest T.F_l_lowest.kp T.B_l_lowest .nil (@pass0 _) (@pa_c _ _ _ _ _ (@pe_ix _ _ _ _ _ _ _ (@ixT_k _ (K) (by rfl)) (@pw _ 0 _ _ (Or.inl k_l_is_fraction_l_thing) (by rfl) (by decide) (by decide)) (@pe_int _ _ _ _) (fun _ _ => rfl)) (@pa_c _ _ _ _ _ (@pe_ix _ _ _ _ _ _ _ (@ixT_k _ (K) (by rfl)) (@pw _ 0 _ _ (Or.inl k_l_is_fraction_l_thing) (by rfl) (by decide) (by decide)) (@pe_int _ _ _ _) (fun _ _ => rfl)) (@pa_nil _) rfl) rfl) (by decide) (by rfl) (by rfl)) (@pw _ 0 _ _ (Or.inl k_l_is_fraction_l_thing) (by rfl) (by decide) (by decide)) (@nomark _ _ (by decide) (by decide)))))))), ?_⟩
    refine ⟨_, rfl, _, _, _, _, rfl, hx.ty, kit_tuple d, _, rfl, ?_⟩
    have k0 := k H (Same.refl _)
    cases hx with
    | non => exact iteT (iteT k0)
    | bl b => exact iteT (iteT k0)
    | int i => exact iteT (iteT k0)
    | str y => exact iteT (iteT k0)
    | lst h ne r => exact iteT (iteT k0)
    | @tup a xs ds h r =>
      have hl := r.length
      refine iteF ⟨_, rfl, a, xs, rfl, .inr (SqT.of h), rfl, _, rfl, ?_⟩
      by_cases h2 : xs.length = 2
      · rw [h2]
        obtain ⟨v1, v2, rfl⟩ : ∃ v1 v2, xs = [v1, v2] := by
          match xs, h2 with
          | [a, b], _ => exact ⟨a, b, rfl⟩
        cases r with
        | @cons _ _ d1 _ r1 r =>
        cases r with
        | @cons _ _ d2 _ r2 r =>
        cases r
        refine iteF ⟨_, rfl, a, rfl, ⟨_, SqT.of h⟩, fun D hD => comp_each (n := 2) (fun i H' zs => zs = (([isNum d1, isNum d2]).take i).map V.bl ∧ H' D = some (.lst zs) ∧ Same H H') ?_ ⟨by simp, upd_same, same_lst hD (Same.refl _)⟩ ?_ ?_ ?_ ?_ ?_⟩
        · rw [sizeLine_eq]; omega
        · rintro i H' zs ⟨rfl, q1, _⟩
          exact ⟨q1, by rw [List.length_map, List.length_take]; omega⟩
        · rintro i H' zs hi ⟨_, _, sm⟩
          exact ⟨[v1, v2], [v1, v2][i], SqT.of (sm _ _ h), by simp [hi]⟩
        · rintro H' zs ⟨_, _, sm⟩
          exact ⟨[v1, v2], SqT.of (sm _ _ h), by simp⟩
        · rintro i H' zs x H'' hi ⟨rfl, q1, sm⟩ ⟨rfl, e1⟩
          have e1' := e1 [v1, v2] (SqT.of (sm _ _ h))
          obtain ⟨du, f1, g1⟩ := (IsAll.cons r1 (.cons r2 .nil)).get e1'
          refine ⟨back1, _, rfl, x, du, F, rfl, g1.mono sm.toE, ?_⟩
          refine ⟨q1, ?_, upd_same, same_lst hD sm⟩
          obtain rfl | rfl : i = 0 ∨ i = 1 := by omega
          · cases f1; rfl
          · cases f1; rfl
        · rintro H' zs ⟨rfl, q1, sm⟩
          refine ⟨D, _, rfl, SqL.of q1, _, rfl, ?_⟩
          have ka := k H' sm
          cases r1 with
          | non => exact iteT ka
          | bl b => exact iteT ka
          | str y => exact iteT ka
          | lst _ _ _ => exact iteT ka
          | tup _ _ => exact iteT ka
          | int n =>
            cases r2 with
            | non => exact iteT ka
            | bl b => exact iteT ka
            | str y => exact iteT ka
            | lst _ _ _ => exact iteT ka
            | tup _ _ => exact iteT ka
            | int e =>
              have ha := sm _ _ h
              obtain ⟨z1, z2⟩ := wt_pair wd
              refine iteF ⟨_, rfl, a, _, _, _, rfl, rfl, SqT.of ha, rfl, _, _, rfl, rfl, _, rfl, ite2 (fun c1 => ?_) (fun c1 => ?_)⟩
              · have h1 : 1 ≤ e := of_decide_eq_true c1
                refine ⟨_, rfl, a, _, _, _, rfl, rfl, SqT.of ha, rfl, _, rfl, a, _, _, _, rfl, rfl, SqT.of ha, rfl, n, e, rfl, by omega, z2.mono (by decide), fun p H2 n2 => ?_⟩
                have f := Fb.low z1 z2 (show e ≠ 0 by omega)
                refine ⟨_, rfl, frD (KM.low n e), .tuple [.int n, .int e], ED, ED, 3, 3, 1, 1, isF n2.at', isF (p := (n, e)) (n2.sm _ _ ha), wt_fr f (by decide), .tuple (.cons (.int z1) (.cons (.int z2) .nil)), by decide, ?_⟩
                have kb := k H2 (sm.trans n2.sm)
                have e0 : isFr (.tuple [.int n, .int e]) = decide (Int.gcd n e = 1) := by
                  show (decide (1 ≤ e) && decide (Int.gcd n e = 1)) = _
                  rw [decide_eq_true h1, Bool.true_and]
                rw [e0, ← eqv_low h1] at kb
                exact kb
              · have h1 : ¬ 1 ≤ e := fun z => c1 (decide_eq_true z)
                have e0 : isFr (.tuple [.int n, .int e]) = false := by
                  show (decide (1 ≤ e) && decide (Int.gcd n e = 1)) = _
                  rw [decide_eq_false h1, Bool.false_and]
                rw [e0] at ka
                have : decide (1 ≤ e) = false := decide_eq_false h1
                first
                  | exact (by rw [this]; exact ka)
                  | exact ka
      · rw [show (!decide (V.int (xs.length : Int) = V.int 2)) = true from ne_len h2]
        rw [isFr_len (by omega)] at k0
        exact iteT (iteT k0)
theorem ok_l_is_much (T : Txt K mg) : FnOk P w K mg base CX0 3 T.f_l_is_much T.d_l_is_much ["_law_thing"] (fun vs H Q _ => ∃ (x : V) (d : PyData) (E : Addr → Prop) (wn wk : Nat), vs = [x] ∧ IsD E H x d ∧ Wt d wn wk ∧ ∀ H', Same H H' → Q (.bl (isFr0 d)) H') := by
  have G_l_is_fraction := ok_l_is_fraction (P := P) (w := w) (base := base) T
  refine T.F_l_is_much.ok sc_l_is_much (fun vs H Q E h => ?_) (fun cdv A outer s H vs Q E hr h => ?_)
  · obtain ⟨x, d, F, wn, wk, rfl, _⟩ := h
    rfl
  · obtain ⟨x, d, F, wn, wk, rfl, hx, wd, k⟩ := h
    refine ⟨_, (@pss_one _ _ _ (@ps_ret _ _ _ _ (@pe_and _ _ _ _ _ _ _ (@pe_call _ _ _ _ _ _ _ _ _ _ _ _ _ _ _ _ G_l_is_fraction (hr.mono (by decide)) k_l_is_much_l_is_fraction T.m_l_is_fraction T.F_l_is_fraction.kp T.B_l_is_fraction .nil (@pass0 _) (@pa_c _ _ _ _ _ (@pw _ 0 _ _ (Or.inl k_l_is_much_l_thing) (by rfl) (by decide) (by decide)) (@pa_nil _) rfl) (by decide) (by rfl) (by rfl)) (@pe_one _ _ _ _ _ (@pe_cmpR _ _ _ _ _ _ _ _ (@op_ge _) (@pe_ix _ _ _ _ _ _ _ (@ixT_k _ (K) (by rfl)) (@pw _ 0 _ _ (Or.inl k_l_is_much_l_thing) (by rfl) (by decide) (by decide)) (@pe_int _ _ _ _) (fun _ _ => rfl)) (@pe_int _ _ _ _) (@nomark _ _ (by decide) (by decide))))))), ?_⟩
    refine ⟨_, rfl, x, d, F, wn, wk, rfl, hx, wd, fun H1 s1 => ⟨_, rfl, ?_⟩⟩
    have k1 := k H1 s1
    cases hb : isFr d with
    | false =>
      rw [(fr0_false hb).1] at k1
      exact iteF k1
    | true =>
      obtain ⟨n, e, rfl, h1, h2⟩ := isFr_inv hb
      obtain ⟨o, rfl, ho⟩ := pair_inv (hx.mono s1.toE)
      refine iteT ⟨_, rfl, o, _, _, _, rfl, rfl, SqT.of ho, rfl, _, _, rfl, rfl, ?_⟩
      have e0 : isFr0 (.tuple [.int n, .int e]) = decide (0 ≤ n) := by
        show (isFr (.tuple [.int n, .int e]) && decide (0 ≤ n)) = _
        rw [hb]; rfl
      rw [e0] at k1
      exact k1
end
end K04

namespace K04
open PySem L2
section
variable {P : Program} {w : World} {K : PySem.W.Frag} {mg : Str → Option Value} {base : Heap}
theorem ok_net_by (T : Txt K mg) : FnOk P w K mg base CX0 4 T.f_l_net_by T.d_l_net_by ["_law_box", "_law_most_places", "_law_most_ties"] spNet := by
  have G_l_take := ok_take (P := P) (w := w) (base := base) T
  have G_l_names_by := ok_names_by (P := P) (w := w) (base := base) T
  have G_l_tie_by := ok_tie_by (P := P) (w := w) (base := base) T
  refine T.F_l_net_by.ok sc_l_net_by (fun vs H Q E h => ?_) (fun cdv A outer s H vs Q E hr h => ?_)
  · obtain ⟨b, t, rfl, _⟩ := h
    rfl
  · obtain ⟨b, t, rfl, B, ht0, ht1, k⟩ := h
    refine ⟨_, (@pss_cons _ _ _ _ _ (@ps_par _ _ (3) (4) _ _ _ _ _ _ _ _ _ _ _ rfl sc_l_net_by.nd rfl rfl (by decide) k_l_net_by_l_great k_l_net_by_l_calm (@pa_c _ _ _ _ _ (@pe_cmpR _ _ _ _ _ _ _ _ (@op_eq _) (@pe_call _ _ _ _ _ _ _ _ _ _ _ _ _ _ _ _ G_l_take (hr.mono (by decide)) k_l_net_by_l_take T.m_l_take T.F_l_take.kp T.B_l_take .nil (@pass0 _) (@pa_c _ _ _ _ _ (@pw _ 0 _ _ (Or.inr (Or.inl k_l_net_by_l_box)) (by rfl) (by decide) (by decide)) (@pa_c _ _ _ _ _ (@pe_int _ _ _ _) (@pa_nil _) rfl) rfl) (by decide) (by rfl) (by rfl)) (@pe_int _ _ _ _) (@nomark _ _ (by decide) (by decide))) (@pa_c _ _ _ _ _ (@pe_cmpR _ _ _ _ _ _ _ _ (@op_eq _) (@pe_call _ _ _ _ _ _ _ _ _ _ _ _ _ _ _ _ G_l_take (hr.mono (by decide)) k_l_net_by_l_take T.m_l_take T.F_l_take.kp T.B_l_take .nil (@pass0 _) (@pa_c _ _ _ _ _ (@pw _ 0 _ _ (Or.inr (Or.inl k_l_net_by_l_box)) (by rfl) (by decide) (by decide)) (@pa_c _ _ _ _ _ (@pe_int _ _ _ _) (@pa_nil _) rfl) rfl) (by decide) (by rfl) (by rfl)) (@pe_int _ _ _ _) (@nomark _ _ (by decide) (by decide))) (@pa_nil _) rfl) rfl) (by kernel_rfl) (by rfl)) (@pss_cons _ _ _ _ _ (@ps_set _ _ (5) _ _ _ _ sc_l_net_by.nd rfl (Or.inl k_l_net_by_l_many) (@pe_ifExp _ _ _ _ _ _ _ _ (@pt_val _ _ _ (@pw _ 3 _ _ (Or.inl k_l_net_by_l_great) (by rfl) (by decide) (by decide)) (by intro _; rfl)) (@pe_op _ _ _ _ _ _ _ _ (@op_sub _) (@pw _ 1 _ _ (Or.inl k_l_net_by_l_most_places) (by rfl) (by decide) (by decide)) (@pe_call _ _ _ _ _ _ _ _ _ _ _ _ _ _ _ _ G_l_take (hr.mono (by decide)) k_l_net_by_l_take T.m_l_take T.F_l_take.kp T.B_l_take .nil (@pass0 _) (@pa_c _ _ _ _ _ (@pw _ 0 _ _ (Or.inr (Or.inl k_l_net_by_l_box)) (by rfl) (by decide) (by decide)) (@pa_c _ _ _ _ _ (@pe_int _ _ _ _) (@pa_nil _) rfl) rfl) (by decide) (by rfl) (by rfl))) (@pe_op _ _ _ _ _ _ _ _ (@op_add _) (@pe_int _ _ _ _) (@pe_call _ _ _ _ _ _ _ _ _ _ _ _ _ _ _ _ G_l_take (hr.mono (by decide)) k_l_net_by_l_take T.m_l_take T.F_l_take.kp T.B_l_take .nil (@pass0 _) (@pa_c _ _ _ _ _ (@pw _ 0 _ _ (Or.inr (Or.inl k_l_net_by_l_box)) (by rfl) (by decide) (by decide)) (@pa_c _ _ _ _ _ (@pe_int _ _ _ _) (@pa_nil _) rfl) rfl) (by decide) (by rfl) (by rfl)))) (by rfl) (by first | exact .inl rfl | exact .inr rfl | assumption)) (@pss_cons _ _ _ _ _ (@ps_asg _ _ _ _ _ _ (@pe_tupA _ _ _ _ _ (@pa_c _ _ _ _ _ (@pe_call _ _ _ _ _ _ _ _ _ _ _ _ _ _ _ _ G_l_names_by (hr.mono (by decide)) k_l_net_by_l_names_by T.m_l_names_by T.F_l_names_by.kp T.B_l_names_by .nil (@pass0 _) (@pa_c _ _ _ _ _ (@pw _ 0 _ _ (Or.inr (Or.inl k_l_net_by_l_box)) (by rfl) (by decide) (by decide)) (@pa_c _ _ _ _ _ (@pw _ 5 _ _ (Or.inl k_l_net_by_l_many) (by rfl) (by decide) (by decide)) (@pa_nil _) rfl) rfl) (by decide) (by rfl) (by rfl)) (@pa_c _ _ _ _ _ (@pe_ifExp _ _ _ _ _ _ _ _ (@pt_val _ _ _ (@pw _ 3 _ _ (Or.inl k_l_net_by_l_great) (by rfl) (by decide) (by decide)) (by intro _; rfl)) (@pe_op _ _ _ _ _ _ _ _ (@op_sub _) (@pw _ 2 _ _ (Or.inl k_l_net_by_l_most_ties) (by rfl) (by decide) (by decide)) (@pe_call _ _ _ _ _ _ _ _ _ _ _ _ _ _ _ _ G_l_take (hr.mono (by decide)) k_l_net_by_l_take T.m_l_take T.F_l_take.kp T.B_l_take .nil (@pass0 _) (@pa_c _ _ _ _ _ (@pw _ 0 _ _ (Or.inr (Or.inl k_l_net_by_l_box)) (by rfl) (by decide) (by decide)) (@pa_c _ _ _ _ _ (@pe_int _ _ _ _) (@pa_nil _) rfl) rfl) (by decide) (by rfl) (by rfl))) (@pe_call _ _ _ _ _ _ _ _ _ _ _ _ _ _ _ _ G_l_take (hr.mono (by decide)) k_l_net_by_l_take T.m_l_take T.F_l_take.kp T.B_l_take .nil (@pass0 _) (@pa_c _ _ _ _ _ (@pw _ 0 _ _ (Or.inr (Or.inl k_l_net_by_l_box)) (by rfl) (by decide) (by decide)) (@pa_c _ _ _ _ _ (@pe_int _ _ _ _) (@pa_nil _) rfl) rfl) (by decide) (by rfl) (by rfl))) (@pa_nil _) rfl) rfl)) (@pg_tup_k _ (K) _ _ _ _ (2) rfl (@pgs_cons _ _ _ _ _ (@pg_name _ _ (6) _ sc_l_net_by.nd rfl (Or.inr k_l_net_by_l_places) (by first | exact .inl rfl | exact .inr rfl | assumption)) (@pgs_cons _ _ _ _ _ (@pg_name _ _ (7) _ sc_l_net_by.nd rfl (Or.inl k_l_net_by_l_count) (by first | exact .inl rfl | exact .inr rfl | assumption)) (@pgs_nil _) (by rfl)) (by rfl)) (by rfl) (by rfl) (by rfl)) (by rfl) (by rfl) (by rfl)) (@pss_cons _ _ _ _ _ (@ps_set _ _ (8) _ _ _ _ sc_l_net_by.nd rfl (Or.inr k_l_net_by_l_held) (@pe_ifExp _ _ _ _ _ _ _ _ (@pt_val _ _ _ (@pw _ 4 _ _ (Or.inl k_l_net_by_l_calm) (by rfl) (by decide) (by decide)) (by intro _; rfl)) (@pe_comp _ _ _ _ _ _ _ (["_law_place", "_law_box"]) (1) ([0]) _ _ _ _ rfl (by kernel_rfl) (@pi_list_k _ (K) _ _ _ (@pw _ 6 _ _ (Or.inr (Or.inl k_l_net_by_l_places)) (by rfl) (by decide) (by decide)) (by rfl)) (fun _ _ _ _ _ _ => (@pg_name _ _ (0) _ (@nodupS _ (by kernel_rfl)) rfl (Or.inl (by kernel_rfl)) (by first | exact .inl rfl | exact .inr rfl | assumption))) (fun _ _ _ _ _ _ => @pifs_nil _) (fun _ _ _ _ _ _ => (@pe_op _ _ _ _ _ _ _ _ (@op_add _) (@pe_int _ _ _ _) (@pe_call _ _ _ _ _ _ _ _ _ _ _ _ _ _ _ _ G_l_take (hr.mono (by decide)) (by show _ = _; kernel_rfl) T.m_l_take T.F_l_take.kp T.B_l_take .nil (@pass0 _) (@pa_c _ _ _ _ _ (@pw _ 1 _ _ (Or.inr (Or.inl (by kernel_rfl))) (by rfl) (by decide) (by decide)) (@pa_c _ _ _ _ _ (@pe_int _ _ _ _) (@pa_nil _) rfl) rfl) (by decide) (by rfl) (by rfl)))) (by intro _; rfl)) (@pe_lstA _ _ _ _ (@pa_nil _))) (by rfl) (by first | exact .inl rfl | exact .inr rfl | assumption)) (@pss_cons _ _ _ _ _ (@ps_setComp _ _ _ _ _ _ _ (["_law_turn", "_law_box", "_law_held", "_law_places"]) (1) ([0, 8, 6]) _ _ _ _ (9) _ _ _ sc_l_net_by.nd rfl k_l_net_by_l_ties (by kernel_rfl) rfl (by kernel_rfl) (@pi_range1 _ _ _ _ _ _ k_l_net_by_range T.b_range (@pa_c _ _ _ _ _ (@pw _ 7 _ _ (Or.inl k_l_net_by_l_count) (by rfl) (by decide) (by decide)) (@pa_nil _) rfl) (by rfl)) (fun _ _ _ _ _ _ => (@pg_name _ _ (0) _ (@nodupS _ (by kernel_rfl)) rfl (Or.inl (by kernel_rfl)) (by first | exact .inl rfl | exact .inr rfl | assumption))) (fun _ _ _ _ _ _ => @pifs_nil _) (fun _ _ _ _ _ _ => (@pe_call _ _ _ _ _ _ _ _ _ _ _ _ _ _ _ _ G_l_tie_by (hr.mono (by decide)) (by show _ = _; kernel_rfl) T.m_l_tie_by T.F_l_tie_by.kp T.B_l_tie_by .nil (@pass0 _) (@pa_c _ _ _ _ _ (@pw _ 1 _ _ (Or.inr (Or.inl (by kernel_rfl))) (by rfl) (by decide) (by decide)) (@pa_c _ _ _ _ _ (@pw _ 3 _ _ (Or.inr (Or.inl (by kernel_rfl))) (by rfl) (by decide) (by decide)) (@pa_c _ _ _ _ _ (@pw _ 2 _ _ (Or.inr (Or.inl (by kernel_rfl))) (by rfl) (by decide) (by decide)) (@pa_nil _) rfl) rfl) rfl) (by decide) (by rfl) (by rfl))) (by intro _; rfl)) (@pss_cons _ _ _ _ _ (@ps_set _ _ (10) _ _ _ _ sc_l_net_by.nd rfl (Or.inl k_l_net_by_l_again) (@pe_op _ _ _ _ _ _ _ _ (@op_repA _) (@pe_slice _ _ _ _ _ _ _ _ _ _ (@sl_listA _ (K) (by rfl)) (@pw _ 9 _ _ (Or.inl k_l_net_by_l_ties) (by rfl) (by decide) (by decide)) (@po_none _) (@po_some _ _ _ (@pe_int _ _ _ _))) (@pe_callTy _ _ _ _ _ _ _ _ _ (@call_int1 _) k_l_net_by_int T.b_int (@boot_ty_int) (@pa_c _ _ _ _ _ (@pe_and _ _ _ _ _ _ _ (@pe_chain _ _ _ _ _ _ _ _ _ _ _ _ (@op_lt _) (@op_lt _) (@pe_int _ _ _ _) (@pe_callB _ _ _ _ _ _ _ _ _ (@len_k _ (K) (by rfl)) k_l_net_by_len T.b_len (@boot_b_len) (@pa_c _ _ _ _ _ (@pw _ 9 _ _ (Or.inl k_l_net_by_l_ties) (by rfl) (by decide) (by decide)) (@pa_nil _) rfl) (by decide) (by decide) (by rfl) (by rfl)) (@pw _ 2 _ _ (Or.inl k_l_net_by_l_most_ties) (by rfl) (by decide) (by decide)) (by with_unfolding_all rfl)) (@pe_one _ _ _ _ _ (@pe_cmpR _ _ _ _ _ _ _ _ (@op_eq _) (@pe_call _ _ _ _ _ _ _ _ _ _ _ _ _ _ _ _ G_l_take (hr.mono (by decide)) k_l_net_by_l_take T.m_l_take T.F_l_take.kp T.B_l_take .nil (@pass0 _) (@pa_c _ _ _ _ _ (@pw _ 0 _ _ (Or.inr (Or.inl k_l_net_by_l_box)) (by rfl) (by decide) (by decide)) (@pa_c _ _ _ _ _ (@pe_int _ _ _ _) (@pa_nil _) rfl) rfl) (by decide) (by rfl) (by rfl)) (@pe_int _ _ _ _) (@nomark _ _ (by decide) (by decide))))) (@pa_nil _) rfl) (by decide) (by decide) (by rfl) (by rfl))) (by rfl) (by first | exact .inl rfl | exact .inr rfl | assumption)) (@pss_one _ _ _ (@ps_ret _ _ _ _ (@pe_tupA _ _ _ _ _ (@pa_c _ _ _ _ _ (@pe_callTy _ _ _ _ _ _ _ _ _ (@call_tuple_ofA _ (K) (by rfl)) k_l_net_by_tuple T.b_tuple (@boot_ty_tuple) (@pa_c _ _ _ _ _ (@pw _ 6 _ _ (Or.inr (Or.inl k_l_net_by_l_places)) (by rfl) (by decide) (by decide)) (@pa_nil _) rfl) (by decide) (by decide) (by rfl) (by rfl)) (@pa_c _ _ _ _ _ (@pe_callTy _ _ _ _ _ _ _ _ _ (@call_tuple_ofA _ (K) (by rfl)) k_l_net_by_tuple T.b_tuple (@boot_ty_tuple) (@pa_c _ _ _ _ _ (@pe_op _ _ _ _ _ _ _ _ (@op_catA _) (@pw _ 9 _ _ (Or.inl k_l_net_by_l_ties) (by rfl) (by decide) (by decide)) (@pw _ 10 _ _ (Or.inl k_l_net_by_l_again) (by rfl) (by decide) (by decide))) (@pa_nil _) rfl) (by decide) (by decide) (by rfl) (by rfl)) (@pa_nil _) rfl) rfl)))))))))), ?_⟩
    refine ⟨_, rfl, b, 8, t, rfl, B, by decide, by decide, ht0, by omega, fun r1 t1 H1 a10 a11 _ _ s1 B1 => ⟨rfl, _, rfl, b, 3, t1, rfl, B1, by decide, by decide, by omega, by omega, fun r2 t2 H2 a20 a21 _ _ s2 B2 => ⟨rfl, _, _, rfl, ?_⟩⟩⟩
    have s02 := s1.trans s2
    generalize decide (V.int r1 = V.int 0) = great
    generalize decide (V.int r2 = V.int 0) = calm
    -- many
    have many : ∀ {Q' : VK}, (∀ m t3 H3, 2 ≤ m → m ≤ 10 → SameE (Eb b) H H3 → Bx H3 b t3 → t ≤ t3 → t3 ≤ t + 3 → Q' (.int m) H3) →
        (if great = true then tOp (rI0 fun i j => .int (i - j)) (tVar 1) (tCall spTake [] E0 (tCons (tVar 0) (tCons (tC (.int 3)) tNil))) [some (.ref b), some (.int 10), some (.int 24), some (.bl great), some (.bl calm), none, none, none, none, none, none] H2 Q'
          else tOp (rI0 fun i j => .int (i + j)) (tC (.int 2)) (tCall spTake [] E0 (tCons (tVar 0) (tCons (tC (.int 4)) tNil))) [some (.ref b), some (.int 10), some (.int 24), some (.bl great), some (.bl calm), none, none, none, none, none, none] H2 Q') := by
      intro Q' q
      cases great with
      | true => exact iteT ⟨_, rfl, _, rfl, b, 3, t2, rfl, B2, by decide, by decide, by omega, by omega, fun r3 t3 H3 a30 a31 _ _ s3 B3 => ⟨_, _, rfl, rfl, q _ t3 H3 (by omega) (by omega) (s02.trans s3) B3 (by omega) (by omega)⟩⟩
      | false => exact iteF ⟨_, rfl, b, 4, t2, rfl, B2, by decide, by decide, by omega, by omega, fun r3 t3 H3 a30 a31 _ _ s3 B3 => ⟨_, _, rfl, rfl, q _ t3 H3 (by omega) (by omega) (s02.trans s3) B3 (by omega) (by omega)⟩⟩
    refine ⟨_, rfl, _, rfl, many fun m t3 H3 m2 m10 s3 B3 h3a h3b => ?_⟩
    refine ⟨_, rfl, _, rfl, b, m, t3, rfl, B3, by omega, by omega, by omega, by omega, fun D ls t4 H4 hD s4 e4 l4 nd4 nc4 B4 h4a h4b => ?_⟩
    have s04 := s3.trans s4
    have nDb : ¬ D = b := fun z => B3.ne hD z.symm
    have hDH : H D = none := SameE.free s3 B3 hD
    have count : ∀ {Q' : VK}, (∀ c t5 H5, 0 ≤ c → c ≤ 24 → (c = 24 ∨ c ≤ 23) → SameE (Eb b) H4 H5 → Bx H5 b t5 → t4 ≤ t5 → t5 ≤ t4 + 1 → Q' (.int c) H5) →
        (if great = true then tOp (rI0 fun i j => .int (i - j)) (tVar 2) (tCall spTake [] E0 (tCons (tVar 0) (tCons (tC (.int 4)) tNil))) [some (.ref b), some (.int 10), some (.int 24), some (.bl great), some (.bl calm), some (.int m), none, none, none, none, none] H4 Q'
          else tCall spTake [] E0 (tCons (tVar 0) (tCons (tC (.int 10)) tNil)) [some (.ref b), some (.int 10), some (.int 24), some (.bl great), some (.bl calm), some (.int m), none, none, none, none, none] H4 Q') := by
      intro Q' q
      cases great with
      | true => exact iteT ⟨_, rfl, _, rfl, b, 4, t4, rfl, B4, by decide, by decide, by omega, by omega, fun r3 t3 H3 a30 a31 _ _ s3 B3 => ⟨_, _, rfl, rfl, q _ t3 H3 (by omega) (by omega) (by omega) s3 B3 (by omega) (by omega)⟩⟩
      | false => exact iteF ⟨_, rfl, b, 10, t4, rfl, B4, by decide, by decide, by omega, by omega, fun r3 t3 H3 a30 a31 _ _ s3 B3 => q _ t3 H3 (by omega) (by omega) (by omega) s3 B3 (by omega) (by omega)⟩
    refine ⟨_, rfl, _, rfl, count fun c t5 H5 c0 c24 _ s5 B5 h5a h5b => ⟨(by show 2 ≤ 10000; decide), fun q6 H6 n6 => ?_⟩⟩
    refine ⟨q6, _, rfl, SqT.of n6.at', rfl, _, _, rfl, _, _, rfl, rfl, ?_⟩
    have s46 := s5.trans n6.sm.toE
    have e6 : H6 D = some (.lst (ls.map strV)) := s46.old D _ nDb e4
    have B6 := B5.same n6.sm
    have s06 := s04.trans s46
    -- held
    refine ⟨_, rfl, _, rfl, ifE (fun v H' => ∃ Dh hs t7, v = .ref Dh ∧ H6 Dh = none ∧ SameE (Eb b) H6 H' ∧ H' Dh = some (.lst (hs.map V.int)) ∧ (hs = [] ∨ hs.length = ls.length) ∧ (∀ h ∈ hs, 1 ≤ h ∧ h ≤ 7) ∧ Bx H' b t7 ∧ t5 ≤ t7 ∧ t7 ≤ t5 + 11) ?rest ?h1 ?h2⟩
    case h2 =>
      intro _ rest
      exact ⟨(by show 0 ≤ 10000; decide), fun Dh H7 n7 => rest _ _ ⟨Dh, [], t5, rfl, n7.fr, n7.sm.toE, n7.at', .inl rfl, fun h hh => (by cases hh), B6.same n7.sm, by omega, by omega⟩⟩
    case h1 =>
      intro _ rest
      refine ⟨_, rfl, D, rfl, ⟨_, SqL.of e6⟩, fun Dh hDh => comp_each (n := ls.length) (fun i H' ys => ∃ (hs : List Int) (t7 : Int), ys = hs.map V.int ∧ H' Dh = some (.lst ys) ∧ hs.length = i ∧ (∀ h ∈ hs, 1 ≤ h ∧ h ≤ 7) ∧ Bx H' b t7 ∧ t5 ≤ t7 ∧ t7 ≤ t5 + i ∧ SameE (Eb b) H6 H') ?_ ?_ ?_ ?_ ?_ ?_ ?_⟩
      · rw [sizeLine_eq]; omega
      · exact ⟨[], t5, rfl, upd_same, rfl, fun h hh => (by cases hh), B6.same (Same.new hDh), by omega, by omega, (Same.new hDh).toE⟩
      · rintro i H' ys ⟨hs, t7, rfl, e, rfl, _⟩
        exact ⟨e, by simp⟩
      · rintro i H' ys hi ⟨hs, t7, _, _, _, _, _, _, _, s7⟩
        exact ⟨_, strV ls[i], SqL.of (s7.old D _ nDb e6), by rw [List.getElem?_map]; simp [hi]⟩
      · rintro H' ys ⟨hs, t7, _, _, _, _, _, _, _, s7⟩
        exact ⟨_, SqL.of (s7.old D _ nDb e6), by rw [List.length_map]; exact Nat.le_refl _⟩
      · have nDh : ¬ Dh = b := fun z => B6.ne hDh z.symm
        rintro i Ha ys x Hb hi ⟨hs, t7, rfl, g1, g2, g3, g4, g5, g6, g7⟩ ⟨rfl, _⟩
        refine ⟨back1, _, rfl, b, 7, t7, rfl, g4, by decide, by decide, by omega, by omega, fun r8 t8 Hc a80 a81 _ _ jc Cc => ⟨_, _, rfl, rfl, ?_⟩⟩
        have eD := jc.old Dh _ nDh g1
        refine ⟨eD, hs ++ [1 + r8], t8, by rw [List.map_append]; rfl, upd_same, by rw [List.length_append, g2]; rfl, fun h hh => ?_, ?_, by omega, by omega, (g7.trans jc).up hDh⟩
        · rcases List.mem_append.mp hh with q | q
          · exact g3 h q
          · rw [List.mem_singleton.mp q]; omega
        · have c' : Ch Hc Dh (hs.map V.int ++ [V.int (1 + r8)]) _ := Ch.mk'
          exact Cc.ch c' (Ne.symm nDh)
      rintro H7 ys ⟨hs, t7, rfl, g1, g2, g3, g4, g5, g6, g7⟩
      exact rest _ _ ⟨Dh, hs, t7, rfl, hDh, g7, g1, .inr g2, g3, g4, by omega, by omega⟩
    case rest =>
    rintro v H7 ⟨Dh, hs, t7, rfl, hDh, s7, e7, hh1, hh2, B7, h7a, h7b⟩
    have nDh : ¬ Dh = b := fun z => B6.ne hDh z.symm
    have s07 := s06.trans s7
    have eD7 : H7 D = some (.lst (ls.map strV)) := s7.old D _ nDb e6
    -- ties
    refine ⟨_, rfl, _, rfl, by omega, by omega, fun Dt hDt => comp_each (n := c.toNat) (fun i H' ys => ∃ (ts : List TieD) (t8 : Int), H' Dt = some (.lst ys) ∧ IsAll ED H' ys (ts.map tieD) ∧ ys.length = i ∧ (∀ x ∈ ts, TieC ls x) ∧ Bx H' b t8 ∧ t7 ≤ t8 ∧ t8 ≤ t7 + 30 * i ∧ SameE (Eb b) H7 H') ?_ ?_ ?_ ?_ ?_ ?_ ?_⟩
    · rw [sizeLine_eq]; omega
    · exact ⟨[], t7, upd_same, .nil, rfl, fun h hh => (by cases hh), B7.same (Same.new hDt), by omega, by omega, (Same.new hDt).toE⟩
    · rintro i H' ys ⟨ts, t8, e, _, rfl, _⟩
      exact ⟨e, Nat.le_refl _⟩
    · intro i H' ys hi _
      exact hi
    · intro H' ys _
      exact Nat.le_refl _
    · have nDt : ¬ Dt = b := fun z => B7.ne hDt z.symm
      rintro i Ha ys x Hb hi ⟨ts, t8, g1, g2, g3, g4, g5, g6, g7, g8⟩ ⟨rfl, rfl⟩
      refine ⟨back1, _, rfl, _, rfl, _, rfl, b, D, Dh, t8, ls, hs, rfl, g5, by omega, by omega, nDb, nDh, g8.old D _ nDb eD7, g8.old Dh _ nDh e7, by omega, by omega, nd4, hh1, hh2, fun v td t9 Hc jc iv tc Cc h9a h9b => ?_⟩
      have eD := jc.old Dt _ nDt g1
      have c' : Ch Hc Dt (ys ++ [v]) (upd Hc Dt (.lst (ys ++ [v]))) := Ch.mk'
      refine ⟨eD, ts ++ [td], t9, upd_same, ?_, by rw [List.length_append, g3]; rfl, fun x hx => ?_, Cc.ch c' (Ne.symm nDt), by omega, by omega, (g8.trans jc).up hDt⟩
      · rw [List.map_append]
        have k1 : IsAll ED (upd Hc Dt (.lst (ys ++ [v]))) ys (ts.map tieD) := (g2.tupS jc).mono ⟨fun _ _ n _ => absurd trivial n, fun _ _ e => c'.tup e eD⟩
        exact k1.append (.cons (iv.tupC c' eD) .nil)
      · rcases List.mem_append.mp hx with q | q
        · exact g4 x q
        · rw [List.mem_singleton.mp q]; exact tc
    rintro H8 ys ⟨ts, t8, eT, iT, lT, cT, B8, h8a, h8b, s8⟩
    have nDt : ¬ Dt = b := fun z => B7.ne hDt z.symm
    have lts : ts.length = ys.length := by rw [iT.length, List.length_map]
    -- again
    refine ⟨_, rfl, _, rfl, Dt, _, rfl, SqL.of eT, fun q9 H9 n9 => ?_⟩
    have eT9 := n9.sm _ _ eT
    have B9 := B8.same n9.sm
    have s89 := s8.trans n9.sm.toE
    change tAndV _ _ _ _ _
    refine joinE (t := tAndV _ _) (fun v H' => ∃ kb t10, v = .bl kb ∧ (kb = true → ys.length ≤ 23) ∧ SameE (Eb b) H9 H' ∧ Bx H' b t10 ∧ t8 ≤ t10 ∧ t10 ≤ t8 + 1) ?rest2 ?h3
    case h3 =>
      intro rest
      refine ⟨_, rfl, Dt, _, rfl, .inl (SqL.of eT9), _, _, rfl, rfl, _, rfl, ite2 (fun c1 => ?_) (fun c1 => ?_)⟩
      · refine ⟨_, rfl, _, _, rfl, rfl, _, rfl, ite2 (fun c2 => ?_) (fun c2 => ?_)⟩
        · have hc2 := of_decide_eq_true c2
          exact ⟨_, rfl, b, 3, t8, rfl, B9, by decide, by decide, by omega, by omega, fun r10 t10 G a0 a1 _ _ jg Cg => ⟨rfl, rest _ _ ⟨_, t10, rfl, fun _ => by omega, jg, Cg, by omega, by omega⟩⟩⟩
        · exact rest _ _ ⟨false, t8, rfl, fun z => (by cases z), SameE.refl _, B9, by omega, by omega⟩
      · exact ⟨false, rfl, iteF (rest _ _ ⟨false, t8, rfl, fun z => (by cases z), SameE.refl _, B9, by omega, by omega⟩)⟩
    case rest2 =>
    rintro v G ⟨kb, t10, rfl, hkb, sG, BG, h10a, h10b⟩
    have nq9 : ¬ q9 = b := fun z => B8.ne n9.fr z.symm
    have eq9 := sG.old q9 _ nq9 n9.at'
    refine .inr ⟨kb, rfl, q9, _, _, rfl, rfl, eq9, by cases kb <;> decide, by cases kb <;> decide, ?_, fun q11 H11 n11 => ?_⟩
    · have : (cutV ys none (some 1)).length ≤ 24 := Nat.le_trans (cutV_length _ _ _) (by omega)
      cases kb
      · simp
      · simp; omega
    have sT : SameE (Eb b) H8 H11 := (n9.sm.toE.trans sG).trans n11.sm.toE
    have eT11 : H11 Dt = some (.lst ys) := sT.old Dt _ nDt eT
    have eD11 : H11 D = some (.lst (ls.map strV)) := sT.old D _ nDb (s8.old D _ nDb eD7)
    refine ⟨_, rfl, D, _, rfl, SqL.of eD11, fun q12 H12 n12 => ⟨_, rfl, _, rfl, Dt, q11, _, _, rfl, rfl, n12.sm _ _ eT11, n12.sm _ _ n11.at', ?_, fun q13 H13 n13 => ⟨q13, _, rfl, SqL.of n13.at', fun q14 H14 n14 => ⟨(by show 2 ≤ 10000; decide), fun q15 H15 n15 => ?_⟩⟩⟩⟩
    · rw [len_rep]
      have : (cutV ys none (some 1)).length ≤ 24 := Nat.le_trans (cutV_length _ _ _) (by omega)
      cases kb
      · simp; omega
      · simp; omega
    have sE : SameE (Eb b) H8 H15 := ((((sT.trans n12.sm.toE).trans n13.sm.toE).trans n14.sm.toE).trans n15.sm.toE)
    have iT15 := iT.tupS sE
    obtain ⟨t2, i2, l2, c2⟩ : ∃ t2 : List TieD, IsAll ED H15 (List.replicate (if kb = true then (1 : Int) else 0).toNat (cutV ys none (some 1))).flatten (t2.map tieD) ∧ t2.length + ts.length ≤ 24 ∧ ∀ x ∈ t2, TieC ls x := by
      cases kb with
      | false => exact ⟨[], by simp; exact .nil, by simp; omega, fun x hx => by cases hx⟩
      | true =>
        refine ⟨ts.take 1, ?_, ?_, fun x hx => cT x (List.mem_of_mem_take hx)⟩
        · have e : (List.replicate (if true = true then (1 : Int) else 0).toNat (cutV ys none (some 1))).flatten = ys.take 1 := by
            rw [cutV_take (by decide)]
            simp
          rw [e, List.map_take]
          exact iT15.take 1
        · have := hkb rfl
          rw [List.length_take]
          omega
    refine k (.ref q15) ls (ts ++ t2) t10 H15 (((s07.trans s8).trans sE)) ?_ (by omega) (by omega) (by rw [List.length_append]; omega) nd4 nc4 (fun x hx => (List.mem_append.mp hx).elim (cT x) (c2 x)) ((((((BG.same n11.sm).same n12.sm).same n13.sm).same n14.sm).same n15.sm)) (by omega) (by omega)
    refine .tup n15.at' (.cons (.tup (n15.sm _ _ (n14.sm _ _ (n13.sm _ _ n12.at'))) (isStrs ls)) (.cons (.tup (n15.sm _ _ n14.at') ?_) .nil))
    rw [List.map_append]
    exact iT15.append i2
end
end K04

namespace K04
open PySem L2
def isFr1 (d : PyData) : Bool := match d with
  | .tuple [.int n, .int e] => isFr (.tuple [.int n, .int e]) && decide (0 < n)
  | _ => false
def strOfD : PyData → Str
  | .str x => x
  | _ => Str.ofString ""
def namesB : PyData → Bool
  | .tuple ds => (!ds.isEmpty && ds.all nameB) && decide (ds.map strOfD).Nodup
  | _ => false
def inB (ps : List PyData) (d : PyData) : Bool := ps.any fun z => PyData.eqv z d
def tieB (ps : List PyData) (d : PyData) : Bool := match d with
  | .tuple [b, e, m, g, p] => ((inB ps b && inB ps e) && !PyData.eqv b e) && (isFr0 m && (isFr1 g && isFr0 p))
  | _ => false
def netB (d : PyData) : Bool := match d with
  | .tuple [p, .tuple ts] => match p with
    | .tuple ps => namesB (.tuple ps) && ts.all (tieB ps)
    | _ => false
  | _ => false
theorem name_str {d : PyData} (h : nameB d = true) : d = .str (strOfD d) := by
  cases d <;> first | rfl | cases h
theorem names_strs {ds : List PyData} (h : ds.all nameB = true) : ds = (ds.map strOfD).map PyData.str := by
  induction ds with
  | nil => rfl
  | cons d r ih =>
    rw [List.all_cons, Bool.and_eq_true] at h
    rw [List.map_cons, List.map_cons, ← ih h.2, ← name_str h.1]
theorem isAll_strs {E : Addr → Prop} {H : Hp} : ∀ {ss : List Str} {xs : List V}, IsAll E H xs (ss.map PyData.str) → xs = ss.map V.str
  | [], _, .nil => rfl
  | n :: r, _, .cons h t => by
    cases h
    rw [isAll_strs t]; rfl
theorem keys_strs (ss : List Str) : ss.map V.str = (ss.map fun s => (Sum.inr s : Key)).map keyV := by
  rw [List.map_map]; rfl
theorem strs_nd (ss : List Str) : (ss.map fun s => (Sum.inr s : Key)).Nodup ↔ ss.Nodup := nodup_map_iff fun a b h => by
  injection h with h
theorem fr1_false {d : PyData} (h : isFr d = false) : isFr1 d = false := by
  unfold isFr1
  split
  · rw [h]; rfl
  · rfl
theorem tieB_len {ps ds : List PyData} (h : ds.length ≠ 5) : tieB ps (.tuple ds) = false := by
  unfold tieB
  split
  · rename_i z
    injection z with z
    subst z
    simp at h
  · rfl
theorem netB_len {ds : List PyData} (h : ds.length ≠ 2) : netB (.tuple ds) = false := by
  unfold netB
  split
  · rename_i z
    injection z with z
    subst z
    simp at h
  · rfl
theorem wt_tupL {ds : List PyData} {n k : Nat} (h : Wt (.tuple ds) n k) : ∀ d ∈ ds, ∃ m, m ≤ n ∧ Wt d m k := fun d hd => by
  cases h with
  | @tuple _ n' k' wl =>
    obtain ⟨m, hm, w⟩ := wtL_mem wl hd
    exact ⟨m, by omega, w.deep (by omega)⟩
theorem wt_len {ds : List PyData} {n k : Nat} (h : WtL ds n k) : ds.length ≤ n := by
  induction ds generalizing n with
  | nil => exact Nat.zero_le _
  | cons d r ih =>
    cases h with
    | cons h1 h2 =>
      have := ih h2
      have := h1.pos
      simp; omega
section
variable {P : Program} {w : World} {K : PySem.W.Frag} {mg : Str → Option Value} {base : Heap}
theorem ok_is_above_nought (T : Txt K mg) : FnOk P w K mg base CX0 3 T.f_is_above_nought T.d_is_above_nought ["thing"] (fun vs H Q _ => ∃ (x : V) (d : PyData) (E : Addr → Prop), vs = [x] ∧ IsD E H x d ∧ Q (.bl (isFr1 d)) H) := by
  have G_is_fraction := ok_is_fraction (P := P) (w := w) (base := base) T
  refine T.F_is_above_nought.ok sc_is_above_nought (fun vs H Q E h => ?_) (fun cdv A outer s H vs Q E hr h => ?_)
  · obtain ⟨x, d, E', rfl, _⟩ := h
    rfl
  · obtain ⟨x, d, E', rfl, hx, k⟩ := h
    refine ⟨_, (@pss_one _ _ _ (@ps_ret _ _ _ _ (@pe_and _ _ _ _ _ _ _ (@pe_call _ _ _ _ _ _ _ _ _ _ _ _ _ _ _ _ G_is_fraction (hr.mono (by decide)) k_is_above_nought_is_fraction T.m_is_fraction T.F_is_fraction.kp T.B_is_fraction .nil (@pass0 _) (@pa_c _ _ _ _ _ (@pw _ 0 _ _ (Or.inl k_is_above_nought_thing) (by rfl) (by decide) (by decide)) (@pa_nil _) rfl) (by decide) (by rfl) (by rfl)) (@pe_one _ _ _ _ _ (@pe_cmpR _ _ _ _ _ _ _ _ (@op_gt _) (@pe_ix _ _ _ _ _ _ _ (@ixT_k _ (K) (by rfl)) (@pw _ 0 _ _ (Or.inl k_is_above_nought_thing) (by rfl) (by decide) (by decide)) (@pe_int _ _ _ _) (fun _ _ => rfl)) (@pe_int _ _ _ _) (@nomark _ _ (by decide) (by decide))))))), ?_⟩
    refine ⟨_, rfl, x, d, E', rfl, hx, _, rfl, ?_⟩
    cases hb : isFr d with
    | false =>
      rw [fr1_false hb] at k
      exact iteF k
    | true =>
      obtain ⟨n, e, rfl, h1, h2⟩ := isFr_inv hb
      obtain ⟨o, rfl, ho⟩ := pair_inv hx
      refine iteT ⟨_, rfl, o, _, _, _, rfl, rfl, SqT.of ho, rfl, _, _, rfl, rfl, ?_⟩
      have e0 : isFr1 (.tuple [.int n, .int e]) = decide (0 < n) := by
        show (isFr (.tuple [.int n, .int e]) && decide (0 < n)) = _
        rw [hb]; rfl
      rw [e0] at k
      exact k
theorem ok_are_names (T : Txt K mg) : FnOk P w K mg base CX0 2 T.f_are_names T.d_are_names ["thing"] (spDat namesB) := by
  have G_is_name := ok_is_name (P := P) (w := w) (base := base) T
  refine T.F_are_names.ok sc_are_names (fun vs H Q E h => ?_) (fun cdv A outer s H vs Q E hr h => ?_)
  · obtain ⟨x, d, E', wn, wk, rfl, _⟩ := h
    rfl
  · obtain ⟨x, d, E', wn, wk, rfl, hx, wd, hwn, hwk, k⟩ := h
    refine ⟨_, (@pss_cons _ _ _ _ _ (@ps_if _ _ _ _ _ _ _ _ (@PW.pt _ _ _ (@pw_or _ _ _ _ _ _ _ (@pt_not _ _ _ _ (@pt_val _ _ _ (@pe_callB _ _ _ _ _ _ _ _ _ (@isinst_k _ (K) (by rfl)) k_are_names_isinstance T.b_isinstance (@boot_b_isinstance) (@pa_c _ _ _ _ _ (@pw _ 0 _ _ (Or.inl k_are_names_thing) (by rfl) (by decide) (by decide)) (@pa_c _ _ _ _ _ (@pe_ty _ _ _ _ k_are_names_tuple T.b_tuple (@boot_ty_tuple) (by decide) (by decide)) (@pa_nil _) rfl) rfl) (by decide) (by decide) (by rfl) (by rfl)) (by intro _; rfl))) (@pw_or1 _ _ _ _ (@pt_cmpR _ _ _ _ _ _ _ _ (@op_eq _) (@pe_callB _ _ _ _ _ _ _ _ _ (@len_k _ (K) (by rfl)) k_are_names_len T.b_len (@boot_b_len) (@pa_c _ _ _ _ _ (@pw _ 0 _ _ (Or.inl k_are_names_thing) (by rfl) (by decide) (by decide)) (@pa_nil _) rfl) (by decide) (by decide) (by rfl) (by rfl)) (@pe_int _ _ _ _) (@nomark _ _ (by decide) (by decide)))))) (@pss_one _ _ _ (@ps_ret _ _ _ _ (@pe_bl _ _ _ _))) (@pss_nil _)) (@pss_cons _ _ _ _ _ (@ps_if _ _ _ _ _ _ _ _ (@pt_not _ _ _ _ (@pt_val _ _ _ (@pe_callB _ _ _ _ _ _ _ _ _ (@all_k _ (K) rfl (by rfl)) k_are_names_all T.b_all (@boot_b_all) (@pa_c _ _ _ _ _ (@pe_comp _ _ _ _ _ _ _ (["name"]) (1) ([]) _ _ _ _ rfl (by kernel_rfl) (@pi_tup_k _ (K) _ _ _ (@pw _ 0 _ _ (Or.inl k_are_names_thing) (by rfl) (by decide) (by decide)) (by rfl)) (fun _ _ _ _ _ _ => (@pg_name _ _ (0) _ (@nodupS _ (by kernel_rfl)) rfl (Or.inl (by kernel_rfl)) (by first | exact .inl rfl | exact .inr rfl | assumption))) (fun _ _ _ _ _ _ => @pifs_nil _) (fun _ _ _ _ _ _ => (@pe_call _ _ _ _ _ _ _ _ _ _ _ _ _ _ _ _ G_is_name (hr.mono (by decide)) (by show _ = _; kernel_rfl) T.m_is_name T.F_is_name.kp T.B_is_name .nil (@pass0 _) (@pa_c _ _ _ _ _ (@pw _ 0 _ _ (Or.inl (by kernel_rfl)) (by rfl) (by decide) (by decide)) (@pa_nil _) rfl) (by decide) (by rfl) (by rfl))) (by intro _; rfl)) (@pa_nil _) rfl) (by decide) (by decide) (by rfl) (by rfl)) (by intro _; rfl))) (@pss_one _ _ _ (@ps_ret _ _ _ _ (@pe_bl _ _ _ _))) (@pss_nil _)) (@pss_one _ _ _ (@ps_ret _ _ _ _ (@pe_cmpR _ _ _ _ _ _ _ _ (@op_eq _) (@pe_setLen _ (K) _ _ _ _ _ _ (@pw _ 0 _ _ (Or.inl k_are_names_thing) (by rfl) (by decide) (by decide)) rfl k_are_names_len T.b_len k_are_names_set T.b_set (by rfl) (by rfl)) (@pe_callB _ _ _ _ _ _ _ _ _ (@len_k _ (K) (by rfl)) k_are_names_len T.b_len (@boot_b_len) (@pa_c _ _ _ _ _ (@pw _ 0 _ _ (Or.inl k_are_names_thing) (by rfl) (by decide) (by decide)) (@pa_nil _) rfl) (by decide) (by decide) (by rfl) (by rfl)) (@nomark _ _ (by decide) (by decide))))))), ?_⟩
    refine ⟨_, rfl, _, _, _, _, rfl, hx.ty, kit_tuple d, _, rfl, ?_⟩
    have k0 := k H (Same.refl _)
    cases hx with
    | non => exact iteT (iteT k0)
    | bl b => exact iteT (iteT k0)
    | int i => exact iteT (iteT k0)
    | str y => exact iteT (iteT k0)
    | lst h ne r => exact iteT (iteT k0)
    | @tup a xs ds h r =>
      have lx := r.length
      have lds : ds.length ≤ wn := by
        cases wd with
        | tuple wl => have := wt_len wl; omega
      refine iteF ⟨_, rfl, a, xs, rfl, .inr (SqT.of h), rfl, _, rfl, ?_⟩
      have ed : namesB (.tuple ds) = ((!ds.isEmpty && ds.all nameB) && decide (ds.map strOfD).Nodup) := rfl
      by_cases h0 : ds = []
      · subst h0
        have : xs.length = 0 := lx
        rw [this]
        exact iteT k0
      · have hp : 0 < ds.length := List.length_pos_iff.mpr h0
        rw [decV, decide_eq_false (by omega)]
        have he : ds.isEmpty = false := by cases ds with | nil => exact absurd rfl h0 | cons _ _ => rfl
        refine iteF ?_
        refine ⟨_, rfl, a, rfl, ⟨_, SqT.of h⟩, fun D hD => comp_mapT (xs := xs) (fun i => .bl (nameB ((ds[i]?).getD .none))) (by omega) hD h ?_ ?_⟩
        · intro i x H' R hxi sm kk
          obtain ⟨dx, e1, g1⟩ := r.get hxi
          rw [e1] at kk
          obtain ⟨m, hm, wx⟩ := wt_tupL wd dx (List.mem_of_getElem? e1)
          exact ⟨back1, _, rfl, x, dx, E', m, wk, rfl, g1.mono sm.toE, wx, by omega, hwk, fun H4 s4 => kk H4 s4⟩
        · intro H1 s1 hD1
          have e3 : (List.range xs.length).map (fun i => V.bl (nameB ((ds[i]?).getD .none))) = (ds.map nameB).map V.bl := by
            rw [lx, map_range_get (fun i => V.bl (nameB ((ds[i]?).getD .none))) (fun d => V.bl (nameB d)) ds (fun i x e => by rw [e]; rfl), List.map_map]
            rfl
          rw [e3] at hD1
          refine ⟨D, _, rfl, SqL.of hD1, _, rfl, ?_⟩
          have e4 : (ds.map nameB).all id = ds.all nameB := by rw [List.all_map]; rfl
          rw [e4]
          have k1 := k H1 s1
          rw [ed, he] at k1
          cases hb : ds.all nameB with
          | false =>
            rw [hb] at k1
            exact iteT k1
          | true =>
            rw [hb] at k1
            refine iteF ?_
            have es := names_strs hb
            rw [es] at r
            have ex := isAll_strs r
            have h1 := s1 _ _ h
            refine ⟨_, rfl, a, (ds.map strOfD).map fun s => (Sum.inr s : Key), rfl, .inr (SqT.of (by rw [← keys_strs, ← ex]; exact h1)), by simp; omega, _, rfl, a, xs, rfl, .inr (SqT.of h1), rfl, ?_⟩
            have e6 := dec_once ((ds.map strOfD).map fun s => (Sum.inr s : Key))
            rw [dec_congr (strs_nd (ds.map strOfD))] at e6
            have e7 : (xs.length : Int) = (((ds.map strOfD).map fun s => (Sum.inr s : Key)).length : Nat) := by simp; omega
            rw [e7, e6]
            exact k1
def spTieIs (f : List PyData → PyData → Bool) (ok : List PyData → Prop) : Sp := fun vs H Q _ => ∃ (p x : V) (ps : List PyData) (d : PyData) (E F : Addr → Prop) (pn pk wn wk : Nat), vs = [p, x] ∧ IsD F H p (.tuple ps) ∧ Wt (.tuple ps) pn pk ∧ pk ≤ 40 ∧ ok ps ∧ IsD E H x d ∧ Wt d wn wk ∧ wn ≤ 3000 ∧ wk ≤ 40 ∧ ∀ H', Same H H' → Q (.bl (f ps d)) H'
theorem ok_is_tie (T : Txt K mg) : FnOk P w K mg base CX0 4 T.f_is_tie T.d_is_tie ["places", "thing"] (spTieIs tieB fun _ => True) := by
  have G_is_from_nought := ok_is_from_nought (P := P) (w := w) (base := base) T
  have G_is_above_nought := ok_is_above_nought (P := P) (w := w) (base := base) T
  refine T.F_is_tie.ok sc_is_tie (fun vs H Q E h => ?_) (fun cdv A outer s H vs Q E hr h => ?_)
  · obtain ⟨p, x, ps, d, E', F, pn, pk, wn, wk, rfl, _⟩ := h
    rfl
  · obtain ⟨p, x, ps, d, E', F, pn, pk, wn, wk, rfl, hp, wp, hpk, _, hx, wd, hwn, hwk, k⟩ := h
    refine ⟨_, (@pss_cons _ _ _ _ _ (@ps_if _ _ _ _ _ _ _ _ (@PW.pt _ _ _ (@pw_or _ _ _ _ _ _ _ (@pt_not _ _ _ _ (@pt_val _ _ _ (@pe_callB _ _ _ _ _ _ _ _ _ (@isinst_k _ (K) (by rfl)) k_is_tie_isinstance T.b_isinstance (@boot_b_isinstance) (@pa_c _ _ _ _ _ (@pw _ 1 _ _ (Or.inl k_is_tie_thing) (by rfl) (by decide) (by decide)) (@pa_c _ _ _ _ _ (@pe_ty _ _ _ _ k_is_tie_tuple T.b_tuple (@boot_ty_tuple) (by decide) (by decide)) (@pa_nil _) rfl) rfl) (by decide) (by decide) (by rfl) (by rfl)) (by intro _; rfl))) (@pw_or1 _ _ _ _ (@pt_cmpR _ _ _ _ _ _ _ _ (@op_ne _) (@pe_callB _ _ _ _ _ _ _ _ _ (@len_k _ (K) (by rfl)) k_is_tie_len T.b_len (@boot_b_len) (@pa_c _ _ _ _ _ (@pw _ 1 _ _ (Or.inl k_is_tie_thing) (by rfl) (by decide) (by decide)) (@pa_nil _) rfl) (by decide) (by decide) (by rfl) (by rfl)) (@pe_int _ _ _ _) (@nomark _ _ (by decide) (by decide)))))) (@pss_one _ _ _ (@ps_ret _ _ _ _ (@pe_bl _ _ _ _))) (@pss_nil _)) (@pss_cons _ _ _ _ _ (@ps_asg _ _ _ _ _ _ (@pw _ 1 _ _ (Or.inl k_is_tie_thing) (by rfl) (by decide) (by decide)) (@pg_tup_k _ (K) _ _ _ _ (5) rfl (@pgs_cons _ _ _ _ _ (@pg_name _ _ (2) _ sc_is_tie.nd rfl (Or.inl k_is_tie_begin) (by first | exact .inl rfl | exact .inr rfl | assumption)) (@pgs_cons _ _ _ _ _ (@pg_name _ _ (3) _ sc_is_tie.nd rfl (Or.inl k_is_tie_end) (by first | exact .inl rfl | exact .inr rfl | assumption)) (@pgs_cons _ _ _ _ _ (@pg_name _ _ (4) _ sc_is_tie.nd rfl (Or.inl k_is_tie_most) (by first | exact .inl rfl | exact .inr rfl | assumption)) (@pgs_cons _ _ _ _ _ (@pg_name _ _ (5) _ sc_is_tie.nd rfl (Or.inl k_is_tie_gain) (by first | exact .inl rfl | exact .inr rfl | assumption)) (@pgs_cons _ _ _ _ _ (@pg_name _ _ (6) _ sc_is_tie.nd rfl (Or.inl k_is_tie_price) (by first | exact .inl rfl | exact .inr rfl | assumption)) (@pgs_nil _) (by rfl)) (by rfl)) (by rfl)) (by rfl)) (by rfl)) (by rfl) (by rfl) (by rfl)) (by rfl) (by rfl) (by rfl)) (@pss_cons _ _ _ _ _ (@ps_if _ _ _ _ _ _ _ _ (@PW.pt _ _ _ (@pw_or _ _ _ _ _ _ _ (@pt_cmpR _ _ _ _ _ _ _ _ (@op_notInD _ hr.units) (@pw _ 2 _ _ (Or.inl k_is_tie_begin) (by rfl) (by decide) (by decide)) (@pw _ 0 _ _ (Or.inl k_is_tie_places) (by rfl) (by decide) (by decide)) rfl) (@pw_or _ _ _ _ _ _ _ (@pt_cmpR _ _ _ _ _ _ _ _ (@op_notInD _ hr.units) (@pw _ 3 _ _ (Or.inl k_is_tie_end) (by rfl) (by decide) (by decide)) (@pw _ 0 _ _ (Or.inl k_is_tie_places) (by rfl) (by decide) (by decide)) rfl) (@pw_or1 _ _ _ _ (@pt_cmpR _ _ _ _ _ _ _ _ (@op_eqD _ hr.units) (@pw _ 2 _ _ (Or.inl k_is_tie_begin) (by rfl) (by decide) (by decide)) (@pw _ 3 _ _ (Or.inl k_is_tie_end) (by rfl) (by decide) (by decide)) (@nomark _ _ (by decide) (by decide))))))) (@pss_one _ _ _ (@ps_ret _ _ _ _ (@pe_bl _ _ _ _))) (@pss_nil _)) (@pss_one _ _ _ (@ps_ret _ _ _ _ (@pe_and _ _ _ _ _ _ _ (@pe_call _ _ _ _ _ _ _ _ _ _ _ _ _ _ _ _ G_is_from_nought (hr.mono (by decide)) k_is_tie_is_from_nought T.m_is_from_nought T.F_is_from_nought.kp T.B_is_from_nought .nil (@pass0 _) (@pa_c _ _ _ _ _ (@pw _ 4 _ _ (Or.inl k_is_tie_most) (by rfl) (by decide) (by decide)) (@pa_nil _) rfl) (by decide) (by rfl) (by rfl)) (@pe_and _ _ _ _ _ _ _ (@pe_call _ _ _ _ _ _ _ _ _ _ _ _ _ _ _ _ G_is_above_nought (hr.mono (by decide)) k_is_tie_is_above_nought T.m_is_above_nought T.F_is_above_nought.kp T.B_is_above_nought .nil (@pass0 _) (@pa_c _ _ _ _ _ (@pw _ 5 _ _ (Or.inl k_is_tie_gain) (by rfl) (by decide) (by decide)) (@pa_nil _) rfl) (by decide) (by rfl) (by rfl)) (@pe_one _ _ _ _ _ (@pe_call _ _ _ _ _ _ _ _ _ _ _ _ _ _ _ _ G_is_from_nought (hr.mono (by decide)) k_is_tie_is_from_nought T.m_is_from_nought T.F_is_from_nought.kp T.B_is_from_nought .nil (@pass0 _) (@pa_c _ _ _ _ _ (@pw _ 6 _ _ (Or.inl k_is_tie_price) (by rfl) (by decide) (by decide)) (@pa_nil _) rfl) (by decide) (by rfl) (by rfl)))))))))), ?_⟩
    refine ⟨_, rfl, _, _, _, _, rfl, hx.ty, kit_tuple d, _, rfl, ?_⟩
    have k0 := k H (Same.refl _)
    cases hx with
    | non => exact iteT (iteT k0)
    | bl b => exact iteT (iteT k0)
    | int i => exact iteT (iteT k0)
    | str y => exact iteT (iteT k0)
    | lst h ne r => exact iteT (iteT k0)
    | @tup a xs ds h r =>
      have lx := r.length
      refine iteF ⟨_, rfl, a, xs, rfl, .inr (SqT.of h), rfl, _, rfl, ?_⟩
      by_cases h5 : ds.length = 5
      · obtain ⟨d1, d2, d3, d4, d5, rfl⟩ : ∃ d1 d2 d3 d4 d5, ds = [d1, d2, d3, d4, d5] := by
          match ds, h5 with
          | [d1, d2, d3, d4, d5], _ => exact ⟨d1, d2, d3, d4, d5, rfl⟩
        have wall := wt_tupL wd
        obtain ⟨m1, _, w1⟩ := wall d1 (by simp)
        obtain ⟨m2, _, w2⟩ := wall d2 (by simp)
        cases r with
        | @cons x1 _ _ _ r1 r =>
        cases r with
        | @cons x2 _ _ _ r2 r =>
        cases r with
        | @cons x3 _ _ _ r3 r =>
        cases r with
        | @cons x4 _ _ _ r4 r =>
        cases r with
        | @cons x5 _ _ _ r5 r =>
        cases r
        refine iteF ?_
        refine ⟨_, rfl, a, [x1, x2, x3, x4, x5], rfl, SqT.of h, rfl, _, _, rfl, _, _, rfl, _, _, rfl, _, _, rfl, _, _, rfl, rfl, ?_⟩
        have et : tieB ps (.tuple [d1, d2, d3, d4, d5]) = (((inB ps d1 && inB ps d2) && !PyData.eqv d1 d2) && (isFr0 d3 && (isFr1 d4 && isFr0 d5))) := rfl
        rw [et] at k0
        refine ⟨_, rfl, _, rfl, d1, .tuple ps, E', F, _, _, _, _, ps, r1, hp, w1, wp, by omega, rfl, _, rfl, ?_⟩
        cases hb1 : inB ps d1 with
        | false =>
          rw [hb1] at k0
          have : (if true = true then !(ps.any fun z => PyData.eqv z d1) else ps.any fun z => PyData.eqv z d1) = true := by
            show (!inB ps d1) = true
            rw [hb1]; rfl
          rw [this]
          exact iteT (iteT k0)
        | true =>
          rw [hb1] at k0
          have : (if true = true then !(ps.any fun z => PyData.eqv z d1) else ps.any fun z => PyData.eqv z d1) = false := by
            show (!inB ps d1) = false
            rw [hb1]; rfl
          rw [this]
          refine iteF ⟨_, rfl, _, rfl, d2, .tuple ps, E', F, _, _, _, _, ps, r2, hp, w2, wp, by omega, rfl, _, rfl, ?_⟩
          cases hb2 : inB ps d2 with
          | false =>
            rw [hb2] at k0
            have : (if true = true then !(ps.any fun z => PyData.eqv z d2) else ps.any fun z => PyData.eqv z d2) = true := by
              show (!inB ps d2) = true
              rw [hb2]; rfl
            rw [this]
            exact iteT (iteT k0)
          | true =>
            rw [hb2] at k0
            have : (if true = true then !(ps.any fun z => PyData.eqv z d2) else ps.any fun z => PyData.eqv z d2) = false := by
              show (!inB ps d2) = false
              rw [hb2]; rfl
            rw [this]
            refine iteF ⟨_, rfl, _, rfl, d1, d2, E', E', _, _, _, _, r1, r2, w1, w2, by omega, _, rfl, ?_⟩
            cases hb3 : PyData.eqv d1 d2 with
            | true =>
              rw [hb3] at k0
              exact iteT k0
            | false =>
              rw [hb3] at k0
              refine iteF ?_
              refine ⟨_, rfl, x3, d3, E', rfl, r3, _, rfl, ?_⟩
              cases hb4 : isFr0 d3 with
              | false =>
                rw [hb4] at k0
                exact iteF k0
              | true =>
                rw [hb4] at k0
                refine iteT ⟨_, rfl, x4, d4, E', rfl, r4, _, rfl, ?_⟩
                cases hb5 : isFr1 d4 with
                | false =>
                  rw [hb5] at k0
                  exact iteF k0
                | true =>
                  rw [hb5] at k0
                  exact iteT ⟨_, rfl, x5, d5, E', rfl, r5, k0⟩
      · rw [tieB_len h5] at k0
        have : (!decide (V.int (xs.length : Int) = V.int 5)) = true := ne_len (b := 5) (by omega)
        rw [this]
        exact iteT k0
theorem ok_is_net (T : Txt K mg) : FnOk P w K mg base CX0 5 T.f_is_net T.d_is_net ["thing"] (spDat netB) := by
  have G_are_names := ok_are_names (P := P) (w := w) (base := base) T
  have G_is_tie := ok_is_tie (P := P) (w := w) (base := base) T
  refine T.F_is_net.ok sc_is_net (fun vs H Q E h => ?_) (fun cdv A outer s H vs Q E hr h => ?_)
  · obtain ⟨x, d, E', wn, wk, rfl, _⟩ := h
    rfl
  · obtain ⟨x, d, E', wn, wk, rfl, hx, wd, hwn, hwk, k⟩ := h
    refine ⟨_, (@pss_cons _ _ _ _ _ (@ps_if _ _ _ _ _ _ _ _ (@PW.pt _ _ _ (@pw_or _ _ _ _ _ _ _ (@pt_not _ _ _ _ (@pt_val _ _ _ (@pe_callB _ _ _ _ _ _ _ _ _ (@isinst_k _ (K) (by rfl)) k_is_net_isinstance T.b_isinstance (@boot_b_isinstance) (@pa_c _ _ _ _ _ (@pw _ 0 _ _ (Or.inl k_is_net_thing) (by rfl) (by decide) (by decide)) (@pa_c _ _ _ _ _ (@pe_ty _ _ _ _ k_is_net_tuple T.b_tuple (@boot_ty_tuple) (by decide) (by decide)) (@pa_nil _) rfl) rfl) (by decide) (by decide) (by rfl) (by rfl)) (by intro _; rfl))) (@pw_or1 _ _ _ _ (@pt_cmpR _ _ _ _ _ _ _ _ (@op_ne _) (@pe_callB _ _ _ _ _ _ _ _ _ (@len_k _ (K) (by rfl)) k_is_net_len T.b_len (@boot_b_len) (@pa_c _ _ _ _ _ (@pw _ 0 _ _ (Or.inl k_is_net_thing) (by rfl) (by decide) (by decide)) (@pa_nil _) rfl) (by decide) (by decide) (by rfl) (by rfl)) (@pe_int _ _ _ _) (@nomark _ _ (by decide) (by decide)))))) (@pss_one _ _ _ (@ps_ret _ _ _ _ (@pe_bl _ _ _ _))) (@pss_nil _)) (@pss_cons _ _ _ _ _ (@ps_asg _ _ _ _ _ _ (@pw _ 0 _ _ (Or.inl k_is_net_thing) (by rfl) (by decide) (by decide)) (@pg_tup_k _ (K) _ _ _ _ (2) rfl (@pgs_cons _ _ _ _ _ (@pg_name _ _ (1) _ sc_is_net.nd rfl (Or.inr k_is_net_places) (by first | exact .inl rfl | exact .inr rfl | assumption)) (@pgs_cons _ _ _ _ _ (@pg_name _ _ (2) _ sc_is_net.nd rfl (Or.inl k_is_net_ties) (by first | exact .inl rfl | exact .inr rfl | assumption)) (@pgs_nil _) (by rfl)) (by rfl)) (by rfl) (by rfl) (by rfl)) (by rfl) (by rfl) (by rfl)) (@pss_cons _ _ _ _ _ (@ps_if _ _ _ _ _ _ _ _ (@PW.pt _ _ _ (@pw_or _ _ _ _ _ _ _ (@pt_not _ _ _ _ (@pt_val _ _ _ (@pe_call _ _ _ _ _ _ _ _ _ _ _ _ _ _ _ _ G_are_names (hr.mono (by decide)) k_is_net_are_names T.m_are_names T.F_are_names.kp T.B_are_names .nil (@pass0 _) (@pa_c _ _ _ _ _ (@pw _ 1 _ _ (Or.inr (Or.inl k_is_net_places)) (by rfl) (by decide) (by decide)) (@pa_nil _) rfl) (by decide) (by rfl) (by rfl)) (by intro _; rfl))) (@pw_or1 _ _ _ _ (@pt_not _ _ _ _ (@pt_val _ _ _ (@pe_callB _ _ _ _ _ _ _ _ _ (@isinst_k _ (K) (by rfl)) k_is_net_isinstance T.b_isinstance (@boot_b_isinstance) (@pa_c _ _ _ _ _ (@pw _ 2 _ _ (Or.inl k_is_net_ties) (by rfl) (by decide) (by decide)) (@pa_c _ _ _ _ _ (@pe_ty _ _ _ _ k_is_net_tuple T.b_tuple (@boot_ty_tuple) (by decide) (by decide)) (@pa_nil _) rfl) rfl) (by decide) (by decide) (by rfl) (by rfl)) (by intro _; rfl)))))) (@pss_one _ _ _ (@ps_ret _ _ _ _ (@pe_bl _ _ _ _))) (@pss_nil _)) (@pss_one _ _ _ (@ps_ret _ _ _ _ (@pe_callB _ _ _ _ _ _ _ _ _ (@all_k _ (K) rfl (by rfl)) k_is_net_all T.b_all (@boot_b_all) (@pa_c _ _ _ _ _ (@pe_comp _ _ _ _ _ _ _ (["tie", "places"]) (1) ([1]) _ _ _ _ rfl (by kernel_rfl) (@pi_tup_k _ (K) _ _ _ (@pw _ 2 _ _ (Or.inl k_is_net_ties) (by rfl) (by decide) (by decide)) (by rfl)) (fun _ _ _ _ _ _ => (@pg_name _ _ (0) _ (@nodupS _ (by kernel_rfl)) rfl (Or.inl (by kernel_rfl)) (by first | exact .inl rfl | exact .inr rfl | assumption))) (fun _ _ _ _ _ _ => @pifs_nil _) (fun _ _ _ _ _ _ => (@pe_call _ _ _ _ _ _ _ _ _ _ _ _ _ _ _ _ G_is_tie (hr.mono (by decide)) (by show _ = _; kernel_rfl) T.m_is_tie T.F_is_tie.kp T.B_is_tie .nil (@pass0 _) (@pa_c _ _ _ _ _ (@pw _ 1 _ _ (Or.inr (Or.inl (by kernel_rfl))) (by rfl) (by decide) (by decide)) (@pa_c _ _ _ _ _ (@pw _ 0 _ _ (Or.inl (by kernel_rfl)) (by rfl) (by decide) (by decide)) (@pa_nil _) rfl) rfl) (by decide) (by rfl) (by rfl))) (by intro _; rfl)) (@pa_nil _) rfl) (by decide) (by decide) (by rfl) (by rfl))))))), ?_⟩
    refine ⟨_, rfl, _, _, _, _, rfl, hx.ty, kit_tuple d, _, rfl, ?_⟩
    have k0 := k H (Same.refl _)
    cases hx with
    | non => exact iteT (iteT k0)
    | bl b => exact iteT (iteT k0)
    | int i => exact iteT (iteT k0)
    | str y => exact iteT (iteT k0)
    | lst h ne r => exact iteT (iteT k0)
    | @tup a xs ds h r =>
      have lx := r.length
      refine iteF ⟨_, rfl, a, xs, rfl, .inr (SqT.of h), rfl, _, rfl, ?_⟩
      by_cases h2 : ds.length = 2
      · obtain ⟨d1, d2, rfl⟩ : ∃ d1 d2, ds = [d1, d2] := by
          match ds, h2 with
          | [d1, d2], _ => exact ⟨d1, d2, rfl⟩
        have wall := wt_tupL wd
        obtain ⟨m1, q1, w1⟩ := wall d1 (by simp)
        obtain ⟨m2, q2, w2⟩ := wall d2 (by simp)
        cases r with
        | @cons x1 _ _ _ r1 r =>
        cases r with
        | @cons x2 _ _ _ r2 r =>
        cases r
        refine iteF ?_
        refine ⟨_, rfl, a, [x1, x2], rfl, SqT.of h, rfl, _, _, rfl, _, _, rfl, rfl, ?_⟩
        refine ⟨_, rfl, x1, d1, E', m1, wk, rfl, r1, w1, by omega, hwk, fun H1 s1 => ⟨_, rfl, ?_⟩⟩
        have k1 := k H1 s1
        cases hb : namesB d1 with
        | false =>
          have e0 : netB (.tuple [d1, d2]) = false := by
            unfold netB
            split
            · rename_i z
              injection z with z
              injection z with z1 z2
              subst z1
              split
              · rw [hb]; rfl
              · rfl
            · rfl
          rw [e0] at k1
          exact iteT (iteT k1)
        | true =>
          refine iteF ?_
          refine ⟨_, rfl, _, _, _, _, rfl, (r2.sm s1).ty, kit_tuple d2, _, rfl, ?_⟩
          cases r1 with
          | non => cases hb
          | bl b => cases hb
          | int i => cases hb
          | str y => cases hb
          | lst h ne r => cases hb
          | @tup p ys ps hps rps =>
          cases r2 with
          | non => exact iteT k1
          | bl b => exact iteT k1
          | int i => exact iteT k1
          | str y => exact iteT k1
          | lst h ne r => exact iteT k1
          | @tup q zs ts hts rts =>
            have lz := rts.length
            have lts : ts.length ≤ m2 := by
              cases w2 with
              | tuple wl => have := wt_len wl; omega
            have en : netB (.tuple [.tuple ps, .tuple ts]) = ts.all (tieB ps) := by
              show (namesB (.tuple ps) && ts.all (tieB ps)) = _
              rw [hb]; rfl
            refine iteF ?_
            have hts1 := s1 _ _ hts
            refine ⟨_, rfl, q, rfl, ⟨_, SqT.of hts1⟩, fun D hD => comp_mapT (xs := zs) (fun i => .bl (tieB ps ((ts[i]?).getD .none))) (by omega) hD hts1 ?_ ?_⟩
            · intro i x H' R hxi sm kk
              obtain ⟨dx, e1, g1⟩ := rts.get hxi
              rw [e1] at kk
              obtain ⟨m, hm, wx⟩ := wt_tupL w2 dx (List.mem_of_getElem? e1)
              have sn := s1.trans sm
              exact ⟨back1, _, rfl, _, rfl, .ref p, x, ps, dx, E', E', m1, wk, m, wk, rfl, .tup (sn _ _ hps) (rps.mono sn.toE), w1, hwk, trivial, g1.mono sn.toE, wx, by omega, hwk, fun H4 s4 => kk H4 s4⟩
            · intro H2 s2 hD2
              have e3 : (List.range zs.length).map (fun i => V.bl (tieB ps ((ts[i]?).getD .none))) = (ts.map (tieB ps)).map V.bl := by
                rw [lz, map_range_get (fun i => V.bl (tieB ps ((ts[i]?).getD .none))) (fun d => V.bl (tieB ps d)) ts (fun i x e => by rw [e]; rfl), List.map_map]
                rfl
              rw [e3] at hD2
              refine ⟨D, _, rfl, SqL.of hD2, ?_⟩
              have e4 : (ts.map (tieB ps)).all id = ts.all (tieB ps) := by rw [List.all_map]; rfl
              rw [e4, ← en]
              exact k H2 (s1.trans s2)
      · rw [netB_len h2] at k0
        have : (!decide (V.int (xs.length : Int) = V.int 2)) = true := ne_len (b := 2) (by omega)
        rw [this]
        exact iteT k0
end
end K04

namespace K04
open PySem L2
def posB (d : PyData) : Bool := match d with
  | .tuple [.int n, .int _] => decide (0 < n)
  | _ => false
theorem fr1_of (d : PyData) : isFr1 d = (isFr0 d && posB d) := by
  cases h : isFr d with
  | false => rw [fr1_false h, (fr0_false h).1]; rfl
  | true =>
    obtain ⟨n, e, rfl, _⟩ := isFr_inv h
    show (isFr (.tuple [.int n, .int e]) && decide (0 < n)) = ((isFr (.tuple [.int n, .int e]) && decide (0 ≤ n)) && decide (0 < n))
    rw [h]
    by_cases h0 : 0 < n
    · rw [decide_eq_true h0, decide_eq_true (by omega : (0 : Int) ≤ n)]; rfl
    · rw [decide_eq_false h0, Bool.and_false, Bool.and_false]
theorem fr0_inv {d : PyData} (h : isFr0 d = true) : ∃ n e, d = .tuple [.int n, .int e] := by
  have hb' : isFr d = true := by
    cases hc : isFr d with
    | true => rfl
    | false => rw [(fr0_false hc).1] at h; cases h
  obtain ⟨n, e, rfl, _⟩ := isFr_inv hb'
  exact ⟨n, e, rfl⟩
theorem eqv_strl (s : Str) (d : PyData) (h : isStrB d = false) : PyData.eqv (.str s) d = false := by
  cases d <;> first | rfl | cases h
theorem inB_str {ps : List PyData} {d : PyData} (hp : ps.all nameB = true) (h : isStrB d = false) : inB ps d = false := by
  unfold inB
  rw [List.any_eq_false]
  intro z hz
  have := (List.all_eq_true.mp hp) z hz
  rw [name_str this, eqv_strl _ _ h]
  decide
theorem eqv_ss (a b : Str) : PyData.eqv (.str a) (.str b) = decide (a = b) := by
  show (a == b) = _
  by_cases h : a = b
  · subst h; simp
  · rw [decide_eq_false h]; exact beq_eq_false_iff_ne.mpr h
theorem count_ss (ss : List Str) (s : Str) : ((ss.map PyData.str).countP fun z => PyData.eqv z (.str s)) = ss.count s := by
  rw [List.countP_map, List.count]
  apply List.countP_congr
  intro x _
  show (PyData.eqv (.str x) (.str s)) = true ↔ (x == s) = true
  rw [eqv_ss, decide_eq_true_iff, beq_iff_eq]
theorem any_counts {ss : List Str} : (ss.map fun s => decide (1 < ss.count s)).any id = !decide ss.Nodup := by
  rw [List.any_map]
  by_cases h : ss.Nodup
  · rw [decide_eq_true h]
    show _ = false
    rw [List.any_eq_false]
    intro x hx z
    have := List.nodup_iff_count.mp h x
    have z' := of_decide_eq_true z
    omega
  · rw [decide_eq_false h]
    show _ = true
    rw [List.any_eq_true]
    refine Classical.byContradiction fun q => h (List.nodup_iff_count.mpr fun a => ?_)
    by_cases ha : a ∈ ss
    · refine Nat.le_of_not_lt fun z => q ⟨a, ha, decide_eq_true z⟩
    · rw [List.count_eq_zero.mpr ha]; omega
section
variable {P : Program} {w : World} {K : PySem.W.Frag} {mg : Str → Option Value} {base : Heap}
theorem ok_l_is_tie (T : Txt K mg) : FnOk P w K mg base CX0 4 T.f_l_is_tie T.d_l_is_tie ["_law_places", "_law_thing"] (spTieIs tieB fun ps => ps.all nameB = true) := by
  have G_l_is_much := ok_l_is_much (P := P) (w := w) (base := base) T
  refine T.F_l_is_tie.ok sc_l_is_tie (fun vs H Q E h => ?_) (fun cdv A outer s H vs Q E hr h => ?_)
  · obtain ⟨p, x, ps, d, E', F, pn, pk, wn, wk, rfl, _⟩ := h
    rfl
  · obtain ⟨p, x, ps, d, E', F, pn, pk, wn, wk, rfl, hp, wp, hpk, hnm, hx, wd, hwn, hwk, k⟩ := h
    refine ⟨_, (@pss_cons _ _ _ _ _ (@ps_if _ _ _ _ _ _ _ _ (@PW.pt _ _ _ (@pw_or _ _ _ _ _ _ _ (@pt_not _ _ _ _ (@pt_val _ _ _ (@pe_callB _ _ _ _ _ _ _ _ _ (@isinst_k _ (K) (by rfl)) k_l_is_tie_isinstance T.b_isinstance (@boot_b_isinstance) (@pa_c _ _ _ _ _ (@pw _ 1 _ _ (Or.inl k_l_is_tie_l_thing) (by rfl) (by decide) (by decide)) (@pa_c _ _ _ _ _ (@pe_ty _ _ _ _ k_l_is_tie_tuple T.b_tuple (@boot_ty_tuple) (by decide) (by decide)) (@pa_nil _) rfl) rfl) (by decide) (by decide) (by rfl) (by rfl)) (by intro _; rfl))) (@pw_or _ _ _ _ _ _ _ (@pt_cmpR _ _ _ _ _ _ _ _ (@op_ne _) (@pe_callB _ _ _ _ _ _ _ _ _ (@len_k _ (K) (by rfl)) k_l_is_tie_len T.b_len (@boot_b_len) (@pa_c _ _ _ _ _ (@pw _ 1 _ _ (Or.inl k_l_is_tie_l_thing) (by rfl) (by decide) (by decide)) (@pa_nil _) rfl) (by decide) (by decide) (by rfl) (by rfl)) (@pe_int _ _ _ _) (@nomark _ _ (by decide) (by decide))) (@pw_or1 _ _ _ _ (@pt_not _ _ _ _ (@pt_val _ _ _ (@pe_callB _ _ _ _ _ _ _ _ _ (@all_k _ (K) rfl (by rfl)) k_l_is_tie_all T.b_all (@boot_b_all) (@pa_c _ _ _ _ _ (@pe_comp _ _ _ _ _ _ _ (["_law_one"]) (1) ([]) _ _ _ _ rfl (by kernel_rfl) (@pi_tup_k _ (K) _ _ _ (@pe_slice _ _ _ _ _ _ _ _ _ _ (@sl_tupA _ (K) (by rfl)) (@pw _ 1 _ _ (Or.inl k_l_is_tie_l_thing) (by rfl) (by decide) (by decide)) (@po_none _) (@po_some _ _ _ (@pe_int _ _ _ _))) (by rfl)) (fun _ _ _ _ _ _ => (@pg_name _ _ (0) _ (@nodupS _ (by kernel_rfl)) rfl (Or.inl (by kernel_rfl)) (by first | exact .inl rfl | exact .inr rfl | assumption))) (fun _ _ _ _ _ _ => @pifs_nil _) (fun _ _ _ _ _ _ => (@pe_callB _ _ _ _ _ _ _ _ _ (@isinst_k _ (K) (by rfl)) (by show _ = _; kernel_rfl) T.b_isinstance (@boot_b_isinstance) (@pa_c _ _ _ _ _ (@pw _ 0 _ _ (Or.inl (by kernel_rfl)) (by rfl) (by decide) (by decide)) (@pa_c _ _ _ _ _ (@pe_ty _ _ _ _ (by show _ = _; kernel_rfl) T.b_str (@boot_ty_str) (by decide) (by decide)) (@pa_nil _) rfl) rfl) (by decide) (by decide) (by rfl) (by rfl))) (by intro _; rfl)) (@pa_nil _) rfl) (by decide) (by decide) (by rfl) (by rfl)) (by intro _; rfl))))))) (@pss_one _ _ _ (@ps_ret _ _ _ _ (@pe_bl _ _ _ _))) (@pss_nil _)) (@pss_cons _ _ _ _ _ (@ps_if _ _ _ _ _ _ _ _ (@PW.pt _ _ _ (@pw_or _ _ _ _ _ _ _ (@pt_cmpR _ _ _ _ _ _ _ _ (@op_notInD _ hr.units) (@pe_ix _ _ _ _ _ _ _ (@ixT_k _ (K) (by rfl)) (@pw _ 1 _ _ (Or.inl k_l_is_tie_l_thing) (by rfl) (by decide) (by decide)) (@pe_int _ _ _ _) (fun _ _ => rfl)) (@pw _ 0 _ _ (Or.inl k_l_is_tie_l_places) (by rfl) (by decide) (by decide)) rfl) (@pw_or _ _ _ _ _ _ _ (@pt_cmpR _ _ _ _ _ _ _ _ (@op_notInD _ hr.units) (@pe_ix _ _ _ _ _ _ _ (@ixT_k _ (K) (by rfl)) (@pw _ 1 _ _ (Or.inl k_l_is_tie_l_thing) (by rfl) (by decide) (by decide)) (@pe_int _ _ _ _) (fun _ _ => rfl)) (@pw _ 0 _ _ (Or.inl k_l_is_tie_l_places) (by rfl) (by decide) (by decide)) rfl) (@pw_or1 _ _ _ _ (@pt_cmpR _ _ _ _ _ _ _ _ (@op_eqD _ hr.units) (@pe_ix _ _ _ _ _ _ _ (@ixT_k _ (K) (by rfl)) (@pw _ 1 _ _ (Or.inl k_l_is_tie_l_thing) (by rfl) (by decide) (by decide)) (@pe_int _ _ _ _) (fun _ _ => rfl)) (@pe_ix _ _ _ _ _ _ _ (@ixT_k _ (K) (by rfl)) (@pw _ 1 _ _ (Or.inl k_l_is_tie_l_thing) (by rfl) (by decide) (by decide)) (@pe_int _ _ _ _) (fun _ _ => rfl)) (@nomark _ _ (by decide) (by decide))))))) (@pss_one _ _ _ (@ps_ret _ _ _ _ (@pe_bl _ _ _ _))) (@pss_nil _)) (@pss_one _ _ _ (@ps_ret _ _ _ _ (@pe_and _ _ _ _ _ _ _ (@pe_callB _ _ _ _ _ _ _ _ _ (@all_k _ (K) rfl (by rfl)) k_l_is_tie_all T.b_all (@boot_b_all) (@pa_c _ _ _ _ _ (@pe_comp _ _ _ _ _ _ _ (["_law_one"]) (1) ([]) _ _ _ _ rfl (by kernel_rfl) (@pi_tup_k _ (K) _ _ _ (@pe_slice _ _ _ _ _ _ _ _ _ _ (@sl_tupA _ (K) (by rfl)) (@pw _ 1 _ _ (Or.inl k_l_is_tie_l_thing) (by rfl) (by decide) (by decide)) (@po_some _ _ _ (@pe_int _ _ _ _)) (@po_none _)) (by rfl)) (fun _ _ _ _ _ _ => (@pg_name _ _ (0) _ (@nodupS _ (by kernel_rfl)) rfl (Or.inl (by kernel_rfl)) (by first | exact .inl rfl | exact .inr rfl | assumption))) (fun _ _ _ _ _ _ => @pifs_nil _) (fun _ _ _ _ _ _ => (@pe_call _ _ _ _ _ _ _ _ _ _ _ _ _ _ _ _ G_l_is_much (hr.mono (by decide)) (by show _ = _; kernel_rfl) T.m_l_is_much T.F_l_is_much.kp T.B_l_is_much .nil (@pass0 _) (@pa_c _ _ _ _ _ (@pw _ 0 _ _ (Or.inl (by kernel_rfl)) (by rfl) (by decide) (by decide)) (@pa_nil _) rfl) (by decide) (by rfl) (by rfl))) (by intro _; rfl)) (@pa_nil _) rfl) (by decide) (by decide) (by rfl) (by rfl)) (@pe_one _ _ _ _ _ (@pe_cmpR _ _ _ _ _ _ _ _ (@op_gt _) (@pe_ix _ _ _ _ _ _ _ (@ixT_k _ (K) (by rfl)) (@pe_ix _ _ _ _ _ _ _ (@ixT_k _ (K) (by rfl)) (@pw _ 1 _ _ (Or.inl k_l_is_tie_l_thing) (by rfl) (by decide) (by decide)) (@pe_int _ _ _ _) (fun _ _ => rfl)) (@pe_int _ _ _ _) (fun _ _ => rfl)) (@pe_int _ _ _ _) (@nomark _ _ (by decide) (by decide))))))))), ?_⟩
    refine ⟨_, rfl, _, _, _, _, rfl, hx.ty, kit_tuple d, _, rfl, ?_⟩
    have k0 := k H (Same.refl _)
    cases hx with
    | non => exact iteT (iteT k0)
    | bl b => exact iteT (iteT k0)
    | int i => exact iteT (iteT k0)
    | str y => exact iteT (iteT k0)
    | lst h ne r => exact iteT (iteT k0)
    | @tup a xs ds h r =>
      have lx := r.length
      refine iteF ⟨_, rfl, a, xs, rfl, .inr (SqT.of h), rfl, _, rfl, ?_⟩
      by_cases h5 : ds.length = 5
      · obtain ⟨d1, d2, d3, d4, d5, rfl⟩ : ∃ d1 d2 d3 d4 d5, ds = [d1, d2, d3, d4, d5] := by
          match ds, h5 with
          | [d1, d2, d3, d4, d5], _ => exact ⟨d1, d2, d3, d4, d5, rfl⟩
        have wall := wt_tupL wd
        obtain ⟨m1, _, w1⟩ := wall d1 (by simp)
        obtain ⟨m2, _, w2⟩ := wall d2 (by simp)
        cases r with
        | @cons x1 _ _ _ r1 r =>
        cases r with
        | @cons x2 _ _ _ r2 r =>
        cases r with
        | @cons x3 _ _ _ r3 r =>
        cases r with
        | @cons x4 _ _ _ r4 r =>
        cases r with
        | @cons x5 _ _ _ r5 r =>
        cases r
        have et : tieB ps (.tuple [d1, d2, d3, d4, d5]) = (((inB ps d1 && inB ps d2) && !PyData.eqv d1 d2) && (isFr0 d3 && (isFr1 d4 && isFr0 d5))) := rfl
        have l5 : (!decide (V.int (([x1, x2, x3, x4, x5] : List V).length : Int) = V.int 5)) = false := rfl
        rw [l5]
        refine iteF ?_
        refine ⟨_, rfl, _, rfl, a, _, rfl, SqT.of h, h, fun u1 H1 s1 hu1 => ?_⟩
        have hu : H1 u1 = some (.tup [x1, x2]) := hu1
        refine ⟨u1, rfl, ⟨_, SqT.of hu⟩, fun D hD => comp_mapT (xs := [x1, x2]) (fun i => .bl (([isStrB d1, isStrB d2][i]?).getD false)) (by show 2 ≤ 10000; decide) hD hu ?_ ?_⟩
        · intro i x H' R hxi sm kk
          have sn := s1.trans sm
          match i, hxi with
          | 0, hxi =>
            simp at hxi
            subst hxi
            exact ⟨back1, _, rfl, _, _, _, _, rfl, (r1.sm sn).ty, kit_str d1, kk H' (Same.refl _)⟩
          | 1, hxi =>
            simp at hxi
            subst hxi
            exact ⟨back1, _, rfl, _, _, _, _, rfl, (r2.sm sn).ty, kit_str d2, kk H' (Same.refl _)⟩
          | i + 2, hxi => simp at hxi
        intro H2 s2 hD2
        have sn := s1.trans s2
        refine ⟨D, [isStrB d1, isStrB d2], rfl, SqL.of hD2, _, rfl, ?_⟩
        have k2 := k H2 sn
        rw [et] at k2
        have b12 : ([isStrB d1, isStrB d2] : List Bool).all id = (isStrB d1 && isStrB d2) := by simp
        rw [b12]
        cases hs1 : isStrB d1 with
        | false =>
          rw [inB_str hnm hs1] at k2
          exact iteT k2
        | true =>
        cases hs2 : isStrB d2 with
        | false =>
          rw [inB_str hnm hs2, Bool.and_false] at k2
          exact iteT k2
        | true =>
        refine iteF ?_
        have h2 := sn _ _ h
        have hp2 := hp.sm sn
        refine ⟨_, rfl, a, _, _, _, rfl, rfl, SqT.of h2, rfl, _, rfl, d1, .tuple ps, E', F, _, _, _, _, ps, r1.sm sn, hp2, w1, wp, by omega, rfl, _, rfl, ?_⟩
        cases hb1 : inB ps d1 with
        | false =>
          rw [hb1] at k2
          have : (if true = true then !(ps.any fun z => PyData.eqv z d1) else ps.any fun z => PyData.eqv z d1) = true := by
            show (!inB ps d1) = true
            rw [hb1]; rfl
          rw [this]
          exact iteT (iteT k2)
        | true =>
          rw [hb1] at k2
          have : (if true = true then !(ps.any fun z => PyData.eqv z d1) else ps.any fun z => PyData.eqv z d1) = false := by
            show (!inB ps d1) = false
            rw [hb1]; rfl
          rw [this]
          refine iteF ⟨_, rfl, a, _, _, _, rfl, rfl, SqT.of h2, rfl, _, rfl, d2, .tuple ps, E', F, _, _, _, _, ps, r2.sm sn, hp2, w2, wp, by omega, rfl, _, rfl, ?_⟩
          cases hb2 : inB ps d2 with
          | false =>
            rw [hb2] at k2
            have : (if true = true then !(ps.any fun z => PyData.eqv z d2) else ps.any fun z => PyData.eqv z d2) = true := by
              show (!inB ps d2) = true
              rw [hb2]; rfl
            rw [this]
            exact iteT (iteT k2)
          | true =>
            rw [hb2] at k2
            have : (if true = true then !(ps.any fun z => PyData.eqv z d2) else ps.any fun z => PyData.eqv z d2) = false := by
              show (!inB ps d2) = false
              rw [hb2]; rfl
            rw [this]
            refine iteF ⟨_, rfl, a, _, _, _, rfl, rfl, SqT.of h2, rfl, _, rfl, a, _, _, _, rfl, rfl, SqT.of h2, rfl, d1, d2, E', E', _, _, _, _, r1.sm sn, r2.sm sn, w1, w2, by omega, _, rfl, ?_⟩
            cases hb3 : PyData.eqv d1 d2 with
            | true =>
              rw [hb3] at k2
              exact iteT k2
            | false =>
              refine iteF ?_
              refine ⟨_, rfl, _, rfl, a, _, rfl, SqT.of h2, h2, fun u3 H3 s3 hu3 => ?_⟩
              have hu' : H3 u3 = some (.tup [x3, x4, x5]) := hu3
              have s03 := sn.trans s3
              obtain ⟨m3, _, w3⟩ := wall d3 (by simp)
              obtain ⟨m4, _, w4⟩ := wall d4 (by simp)
              obtain ⟨m5, _, w5⟩ := wall d5 (by simp)
              refine ⟨u3, rfl, ⟨_, SqT.of hu'⟩, fun D4 hD4 => comp_mapT (xs := [x3, x4, x5]) (fun i => .bl (([isFr0 d3, isFr0 d4, isFr0 d5][i]?).getD false)) (by show 3 ≤ 10000; decide) hD4 hu' ?_ ?_⟩
              · intro i x H' R hxi sm kk
                have s0 := s03.trans sm
                match i, hxi with
                | 0, hxi =>
                  simp at hxi
                  subst hxi
                  exact ⟨back1, _, rfl, x3, d3, E', m3, wk, rfl, r3.sm s0, w3, fun H4 s4 => kk H4 s4⟩
                | 1, hxi =>
                  simp at hxi
                  subst hxi
                  exact ⟨back1, _, rfl, x4, d4, E', m4, wk, rfl, r4.sm s0, w4, fun H4 s4 => kk H4 s4⟩
                | 2, hxi =>
                  simp at hxi
                  subst hxi
                  exact ⟨back1, _, rfl, x5, d5, E', m5, wk, rfl, r5.sm s0, w5, fun H4 s4 => kk H4 s4⟩
                | i + 3, hxi => simp at hxi
              intro H4 s4 hD4'
              have s04 := s03.trans s4
              refine ⟨D4, [isFr0 d3, isFr0 d4, isFr0 d5], rfl, SqL.of hD4', _, rfl, ?_⟩
              have k4 := k H4 s04
              rw [et, hb1, hb2, hb3, fr1_of] at k4
              have b3 : ([isFr0 d3, isFr0 d4, isFr0 d5] : List Bool).all id = (isFr0 d3 && (isFr0 d4 && isFr0 d5)) := by simp
              rw [b3]
              cases g3 : isFr0 d3 with
              | false =>
                rw [g3] at k4
                exact iteF k4
              | true =>
              cases g4 : isFr0 d4 with
              | false =>
                rw [g3, g4] at k4
                exact iteF k4
              | true =>
              cases g5 : isFr0 d5 with
              | false =>
                rw [g3, g4, g5] at k4
                simp only [Bool.and_false] at k4
                exact iteF k4
              | true =>
                rw [g3, g4, g5] at k4
                obtain ⟨n, e, rfl⟩ := fr0_inv g4
                obtain ⟨o4, rfl, ho4⟩ := pair_inv (r4.sm s04)
                refine iteT ⟨_, rfl, a, _, _, _, rfl, rfl, SqT.of (s04 _ _ h), rfl, o4, _, _, _, rfl, rfl, SqT.of ho4, rfl, _, _, rfl, rfl, ?_⟩
                have e9 : (true && true && !false && (true && (true && posB (.tuple [.int n, .int e]) && true))) = decide (0 < n) := by
                  show (decide (0 < n) && true) = _
                  rw [Bool.and_true]
                rw [e9] at k4
                exact k4
      · rw [tieB_len h5] at k0
        have : (!decide (V.int (xs.length : Int) = V.int 5)) = true := ne_len (b := 5) (by omega)
        rw [this]
        exact iteT (iteT k0)
end
end K04

namespace K04
open PySem L2
theorem eqv_unit (ds : List PyData) : PyData.eqv (.tuple ds) (.tuple []) = ds.isEmpty := by cases ds <;> simp [PyData.eqv, PyData.eqvAll]
theorem netB_parts {d1 d2 : PyData} (h : (isTupB d1 && isTupB d2) = false) : netB (.tuple [d1, d2]) = false := by
  unfold netB
  split
  · rename_i z
    injection z with z
    injection z with z1 z2
    injection z2 with z2 _
    subst z1 z2
    split
    · cases h
    · rfl
  · rfl
section
variable {P : Program} {w : World} {K : PySem.W.Frag} {mg : Str → Option Value} {base : Heap}
theorem ok_l_due4 (T : Txt K mg) : FnOk P w K mg base CX0 5 T.f_l_due T.d_l_due ["_law_thing"] (spDat netB) := by
  have G_l_is_name := ok_l_is_name (P := P) (w := w) (base := base) T
  have G_l_is_tie := ok_l_is_tie (P := P) (w := w) (base := base) T
  refine T.F_l_due.ok sc_l_due (fun vs H Q E h => ?_) (fun cdv A outer s H vs Q E hr h => ?_)
  · obtain ⟨x, d, E', wn, wk, rfl, _⟩ := h
    rfl
  · obtain ⟨x, d, E', wn, wk, rfl, hx, wd, hwn, hwk, k⟩ := h
    refine ⟨_, (@pss_cons _ _ _ _ _ (@ps_if _ _ _ _ _ _ _ _ (@PW.pt _ _ _ (@pw_or _ _ _ _ _ _ _ (@pt_not _ _ _ _ (@pt_val _ _ _ (@pe_callB _ _ _ _ _ _ _ _ _ (@isinst_k _ (K) (by rfl)) k_l_due_isinstance T.b_isinstance (@boot_b_isinstance) (@pa_c _ _ _ _ _ (@pw _ 0 _ _ (Or.inl k_l_due_l_thing) (by rfl) (by decide) (by decide)) (@pa_c _ _ _ _ _ (@pe_ty _ _ _ _ k_l_due_tuple T.b_tuple (@boot_ty_tuple) (by decide) (by decide)) (@pa_nil _) rfl) rfl) (by decide) (by decide) (by rfl) (by rfl)) (by intro _; rfl))) (@pw_or _ _ _ _ _ _ _ (@pt_cmpR _ _ _ _ _ _ _ _ (@op_ne _) (@pe_callB _ _ _ _ _ _ _ _ _ (@len_k _ (K) (by rfl)) k_l_due_len T.b_len (@boot_b_len) (@pa_c _ _ _ _ _ (@pw _ 0 _ _ (Or.inl k_l_due_l_thing) (by rfl) (by decide) (by decide)) (@pa_nil _) rfl) (by decide) (by decide) (by rfl) (by rfl)) (@pe_int _ _ _ _) (@nomark _ _ (by decide) (by decide))) (@pw_or1 _ _ _ _ (@pt_not _ _ _ _ (@pt_val _ _ _ (@pe_callB _ _ _ _ _ _ _ _ _ (@all_k _ (K) rfl (by rfl)) k_l_due_all T.b_all (@boot_b_all) (@pa_c _ _ _ _ _ (@pe_comp _ _ _ _ _ _ _ (["_law_one"]) (1) ([]) _ _ _ _ rfl (by kernel_rfl) (@pi_tup_k _ (K) _ _ _ (@pw _ 0 _ _ (Or.inl k_l_due_l_thing) (by rfl) (by decide) (by decide)) (by rfl)) (fun _ _ _ _ _ _ => (@pg_name _ _ (0) _ (@nodupS _ (by kernel_rfl)) rfl (Or.inl (by kernel_rfl)) (by first | exact .inl rfl | exact .inr rfl | assumption))) (fun _ _ _ _ _ _ => @pifs_nil _) (fun _ _ _ _ _ _ => (@pe_callB _ _ _ _ _ _ _ _ _ (@isinst_k _ (K) (by rfl)) (by show _ = _; kernel_rfl) T.b_isinstance (@boot_b_isinstance) (@pa_c _ _ _ _ _ (@pw _ 0 _ _ (Or.inl (by kernel_rfl)) (by rfl) (by decide) (by decide)) (@pa_c _ _ _ _ _ (@pe_ty _ _ _ _ (by show _ = _; kernel_rfl) T.b_tuple (@boot_ty_tuple) (by decide) (by decide)) (@pa_nil _) rfl) rfl) (by decide) (by decide) (by rfl) (by rfl))) (by intro _; rfl)) (@pa_nil _) rfl) (by decide) (by decide) (by rfl) (by rfl)) (by intro _; rfl))))))) (@pss_one _ _ _ (@ps_ret _ _ _ _ (@pe_bl _ _ _ _))) (@pss_nil _)) (@pss_cons _ _ _ _ _ (@ps_asg _ _ _ _ _ _ (@pw _ 0 _ _ (Or.inl k_l_due_l_thing) (by rfl) (by decide) (by decide)) (@pg_tup_k _ (K) _ _ _ _ (2) rfl (@pgs_cons _ _ _ _ _ (@pg_name _ _ (1) _ sc_l_due.nd rfl (Or.inr k_l_due_l_places) (by first | exact .inl rfl | exact .inr rfl | assumption)) (@pgs_cons _ _ _ _ _ (@pg_name _ _ (2) _ sc_l_due.nd rfl (Or.inl k_l_due_l_ties) (by first | exact .inl rfl | exact .inr rfl | assumption)) (@pgs_nil _) (by rfl)) (by rfl)) (by rfl) (by rfl) (by rfl)) (by rfl) (by rfl) (by rfl)) (@pss_cons _ _ _ _ _ (@ps_if _ _ _ _ _ _ _ _ (@PW.pt _ _ _ (@pw_or _ _ _ _ _ _ _ (@pt_cmpR _ _ _ _ _ _ _ _ (@op_eqD _ hr.units) (@pw _ 1 _ _ (Or.inr (Or.inl k_l_due_l_places)) (by rfl) (by decide) (by decide)) (@pe_tupA _ _ _ _ _ (@pa_nil _)) (@nomark _ _ (by decide) (by decide))) (@pw_or1 _ _ _ _ (@pt_not _ _ _ _ (@pt_val _ _ _ (@pe_callB _ _ _ _ _ _ _ _ _ (@all_k _ (K) rfl (by rfl)) k_l_due_all T.b_all (@boot_b_all) (@pa_c _ _ _ _ _ (@pe_comp _ _ _ _ _ _ _ (["_law_one"]) (1) ([]) _ _ _ _ rfl (by kernel_rfl) (@pi_tup_k _ (K) _ _ _ (@pw _ 1 _ _ (Or.inr (Or.inl k_l_due_l_places)) (by rfl) (by decide) (by decide)) (by rfl)) (fun _ _ _ _ _ _ => (@pg_name _ _ (0) _ (@nodupS _ (by kernel_rfl)) rfl (Or.inl (by kernel_rfl)) (by first | exact .inl rfl | exact .inr rfl | assumption))) (fun _ _ _ _ _ _ => @pifs_nil _) (fun _ _ _ _ _ _ => (@pe_call _ _ _ _ _ _ _ _ _ _ _ _ _ _ _ _ G_l_is_name (hr.mono (by decide)) (by show _ = _; kernel_rfl) T.m_l_is_name T.F_l_is_name.kp T.B_l_is_name .nil (@pass0 _) (@pa_c _ _ _ _ _ (@pw _ 0 _ _ (Or.inl (by kernel_rfl)) (by rfl) (by decide) (by decide)) (@pa_nil _) rfl) (by decide) (by rfl) (by rfl))) (by intro _; rfl)) (@pa_nil _) rfl) (by decide) (by decide) (by rfl) (by rfl)) (by intro _; rfl)))))) (@pss_one _ _ _ (@ps_ret _ _ _ _ (@pe_bl _ _ _ _))) (@pss_nil _)) (@pss_cons _ _ _ _ _ (@ps_if _ _ _ _ _ _ _ _ (@pt_val _ _ _ (@pe_callB _ _ _ _ _ _ _ _ _ (@any_k _ (K) rfl (by rfl)) k_l_due_any T.b_any (@boot_b_any) (@pa_c _ _ _ _ _ (@pe_comp _ _ _ _ _ _ _ (["_law_one", "_law_places"]) (1) ([1]) _ _ _ _ rfl (by kernel_rfl) (@pi_tup_k _ (K) _ _ _ (@pw _ 1 _ _ (Or.inr (Or.inl k_l_due_l_places)) (by rfl) (by decide) (by decide)) (by rfl)) (fun _ _ _ _ _ _ => (@pg_name _ _ (0) _ (@nodupS _ (by kernel_rfl)) rfl (Or.inl (by kernel_rfl)) (by first | exact .inl rfl | exact .inr rfl | assumption))) (fun _ _ _ _ _ _ => @pifs_nil _) (fun _ _ _ _ _ _ => (@pe_cmpR _ _ _ _ _ _ _ _ (@op_gt _) (@pe_bmT _ _ _ _ _ _ _ _ _ _ _ PySem.F.plainAttrs_tuple PySem.F.slot_tuple_count PySem.F.type_tuple_count (@mt_countT _ hr.units) (@pw _ 1 _ _ (Or.inr (Or.inl (by kernel_rfl))) (by rfl) (by decide) (by decide)) (@pa_c _ _ _ _ _ (@pw _ 0 _ _ (Or.inl (by kernel_rfl)) (by rfl) (by decide) (by decide)) (@pa_nil _) rfl) (by rfl) (by rfl) (by rfl) (by rfl) (by rfl)) (@pe_int _ _ _ _) (@nomark _ _ (by decide) (by decide)))) (by intro _; rfl)) (@pa_nil _) rfl) (by decide) (by decide) (by rfl) (by rfl)) (by intro _; rfl)) (@pss_one _ _ _ (@ps_ret _ _ _ _ (@pe_bl _ _ _ _))) (@pss_nil _)) (@pss_one _ _ _ (@ps_ret _ _ _ _ (@pe_callB _ _ _ _ _ _ _ _ _ (@all_k _ (K) rfl (by rfl)) k_l_due_all T.b_all (@boot_b_all) (@pa_c _ _ _ _ _ (@pe_comp _ _ _ _ _ _ _ (["_law_one", "_law_places"]) (1) ([1]) _ _ _ _ rfl (by kernel_rfl) (@pi_tup_k _ (K) _ _ _ (@pw _ 2 _ _ (Or.inl k_l_due_l_ties) (by rfl) (by decide) (by decide)) (by rfl)) (fun _ _ _ _ _ _ => (@pg_name _ _ (0) _ (@nodupS _ (by kernel_rfl)) rfl (Or.inl (by kernel_rfl)) (by first | exact .inl rfl | exact .inr rfl | assumption))) (fun _ _ _ _ _ _ => @pifs_nil _) (fun _ _ _ _ _ _ => (@pe_call _ _ _ _ _ _ _ _ _ _ _ _ _ _ _ _ G_l_is_tie (hr.mono (by decide)) (by show _ = _; kernel_rfl) T.m_l_is_tie T.F_l_is_tie.kp T.B_l_is_tie .nil (@pass0 _) (@pa_c _ _ _ _ _ (@pw _ 1 _ _ (Or.inr (Or.inl (by kernel_rfl))) (by rfl) (by decide) (by decide)) (@pa_c _ _ _ _ _ (@pw _ 0 _ _ (Or.inl (by kernel_rfl)) (by rfl) (by decide) (by decide)) (@pa_nil _) rfl) rfl) (by decide) (by rfl) (by rfl))) (by intro _; rfl)) (@pa_nil _) rfl) (by decide) (by decide) (by rfl) (by rfl)))))))), ?_⟩
    refine ⟨_, rfl, _, _, _, _, rfl, hx.ty, kit_tuple d, _, rfl, ?_⟩
    have k0 := k H (Same.refl _)
    cases hx with
    | non => exact iteT (iteT k0)
    | bl b => exact iteT (iteT k0)
    | int i => exact iteT (iteT k0)
    | str y => exact iteT (iteT k0)
    | lst h ne r => exact iteT (iteT k0)
    | @tup a xs ds h r =>
      have lx := r.length
      refine iteF ⟨_, rfl, a, xs, rfl, .inr (SqT.of h), rfl, _, rfl, ?_⟩
      by_cases h2 : ds.length = 2
      · obtain ⟨d1, d2, rfl⟩ : ∃ d1 d2, ds = [d1, d2] := by
          match ds, h2 with
          | [d1, d2], _ => exact ⟨d1, d2, rfl⟩
        have wall := wt_tupL wd
        obtain ⟨m1, q1, w1⟩ := wall d1 (by simp)
        obtain ⟨m2, q2, w2⟩ := wall d2 (by simp)
        cases r with
        | @cons x1 _ _ _ r1 r =>
        cases r with
        | @cons x2 _ _ _ r2 r =>
        cases r
        have l2 : (!decide (V.int (([x1, x2] : List V).length : Int) = V.int 2)) = false := rfl
        rw [l2]
        refine iteF ?_
        refine ⟨_, rfl, a, rfl, ⟨_, SqT.of h⟩, fun D hD => comp_mapT (xs := [x1, x2]) (fun i => .bl (([isTupB d1, isTupB d2][i]?).getD false)) (by show 2 ≤ 10000; decide) hD h ?_ ?_⟩
        · intro i x H' R hxi sm kk
          match i, hxi with
          | 0, hxi =>
            simp at hxi
            subst hxi
            exact ⟨back1, _, rfl, _, _, _, _, rfl, (r1.sm sm).ty, kit_tuple d1, kk H' (Same.refl _)⟩
          | 1, hxi =>
            simp at hxi
            subst hxi
            exact ⟨back1, _, rfl, _, _, _, _, rfl, (r2.sm sm).ty, kit_tuple d2, kk H' (Same.refl _)⟩
          | i + 2, hxi => simp at hxi
        intro H1 s1 hD1
        refine ⟨D, [isTupB d1, isTupB d2], rfl, SqL.of hD1, _, rfl, ?_⟩
        have k1 := k H1 s1
        have b12 : ([isTupB d1, isTupB d2] : List Bool).all id = (isTupB d1 && isTupB d2) := by simp
        rw [b12]
        cases hb : (isTupB d1 && isTupB d2) with
        | false =>
          rw [netB_parts hb] at k1
          exact iteT k1
        | true =>
        rw [Bool.and_eq_true] at hb
        cases r1 with
        | non => cases hb.1
        | bl b => cases hb.1
        | int i => cases hb.1
        | str y => cases hb.1
        | lst h ne r => cases hb.1
        | @tup p ys ps hps rps =>
        cases r2 with
        | non => cases hb.2
        | bl b => cases hb.2
        | int i => cases hb.2
        | str y => cases hb.2
        | lst h ne r => cases hb.2
        | @tup q zs ts hts rts =>
        refine iteF ?_
        have ly := rps.length
        have lz := rts.length
        have lps : ps.length ≤ m1 := by
          cases w1 with
          | tuple wl => have := wt_len wl; omega
        have lts : ts.length ≤ m2 := by
          cases w2 with
          | tuple wl => have := wt_len wl; omega
        have en : netB (.tuple [.tuple ps, .tuple ts]) = (((!ps.isEmpty && ps.all nameB) && decide (ps.map strOfD).Nodup) && ts.all (tieB ps)) := rfl
        refine ⟨_, rfl, a, _, rfl, SqT.of (s1 _ _ h), rfl, _, _, rfl, _, _, rfl, rfl, ?_⟩
        have hp0 : IsD E' H (.ref p) (.tuple ps) := .tup hps rps
        refine ⟨_, rfl, (by show 0 ≤ 10000; decide), fun u2 H2 n2 => ⟨.tuple ps, .tuple [], E', ED, _, _, _, 1, (hp0.sm s1).sm n2.sm, .tup n2.at' .nil, w1, .tuple .nil, by omega, _, rfl, ?_⟩⟩
        have s2 := s1.trans n2.sm
        have k2 := k H2 s2
        rw [en] at k2
        have ee : (if false = true then !PyData.eqv (.tuple ps) (.tuple []) else PyData.eqv (.tuple ps) (.tuple [])) = ps.isEmpty := eqv_unit ps
        rw [ee]
        cases he : ps.isEmpty with
        | true =>
          rw [he] at k2
          exact iteT (iteT k2)
        | false =>
          rw [he] at k2
          refine iteF ?_
          have hps2 := s2 _ _ hps
          refine ⟨_, rfl, p, rfl, ⟨_, SqT.of hps2⟩, fun D3 hD3 => comp_mapT (xs := ys) (fun i => .bl (nameB ((ps[i]?).getD .none))) (by omega) hD3 hps2 ?_ ?_⟩
          · intro i x H' R hxi sm kk
            obtain ⟨dx, e1, g1⟩ := rps.get hxi
            rw [e1] at kk
            obtain ⟨m, hm, wx⟩ := wt_tupL w1 dx (List.mem_of_getElem? e1)
            exact ⟨back1, _, rfl, x, dx, E', m, wk, rfl, (g1.sm s2).sm sm, wx, by omega, hwk, fun H4 s4 => kk H4 s4⟩
          intro H3 s3 hD3'
          have e3 : (List.range ys.length).map (fun i => V.bl (nameB ((ps[i]?).getD .none))) = (ps.map nameB).map V.bl := by
            rw [ly, map_range_get (fun i => V.bl (nameB ((ps[i]?).getD .none))) (fun d => V.bl (nameB d)) ps (fun i x e => by rw [e]; rfl), List.map_map]
            rfl
          rw [e3] at hD3'
          refine ⟨D3, _, rfl, SqL.of hD3', _, rfl, ?_⟩
          have e4 : (ps.map nameB).all id = ps.all nameB := by rw [List.all_map]; rfl
          rw [e4]
          have s03 := s2.trans s3
          have k3 := k H3 s03
          rw [en, he] at k3
          cases hn : ps.all nameB with
          | false =>
            rw [hn] at k3
            exact iteT k3
          | true =>
            refine iteF ?_
            have es := names_strs hn
            generalize hss : ps.map strOfD = ss at es
            have lss : ss.length = ps.length := by rw [← hss]; simp
            have rps' := rps
            rw [es] at rps'
            have ex := isAll_strs rps'
            have hps3 := s03 _ _ hps
            refine ⟨_, rfl, p, rfl, ⟨_, SqT.of hps3⟩, fun D5 hD5 => comp_mapT (xs := ys) (fun i => .bl (decide (1 < ss.count ((ss[i]?).getD (Str.ofString ""))))) (by omega) hD5 hps3 ?_ ?_⟩
            · intro i x H' R hxi sm kk
              rw [ex, List.getElem?_map] at hxi
              obtain ⟨st, est, rfl⟩ := Option.map_eq_some_iff.mp hxi
              rw [est] at kk
              have hpp := (hp0.sm s03).sm sm
              have hpt := sm _ _ hps3
              obtain ⟨m, hm, wx⟩ := wt_tupL w1 (.str st) (by rw [es]; exact List.mem_map.mpr ⟨st, List.mem_of_getElem? est, rfl⟩)
              refine ⟨back1, _, rfl, ⟨p, _, rfl, hpt⟩, _, rfl, ⟨p, _, rfl, hpt⟩, .str st, .str st, .tuple ps, ED, E', m, m1, wk, wk, ps, rfl, .str st, hpp, wx, w1, by omega, rfl, _, _, rfl, rfl, ?_⟩
              have k5 := kk H' (Same.refl _)
              simp only [Option.getD_some] at k5
              have e6 : (ps.countP fun z => PyData.eqv z (.str st)) = ss.count st := by
                rw [es]; exact count_ss ss st
              rw [e6]
              have e7 : decide (1 < ((ss.count st : Nat) : Int)) = decide (1 < ss.count st) := dec_congr (by omega)
              show R (.bl (decide (1 < ((ss.count st : Nat) : Int)))) H'
              rw [e7]
              exact k5
            intro H5 s5 hD5'
            have e8 : (List.range ys.length).map (fun i => V.bl (decide (1 < ss.count ((ss[i]?).getD (Str.ofString ""))))) = (ss.map fun st => decide (1 < ss.count st)).map V.bl := by
              rw [ly, ← lss, map_range_get (fun i => V.bl (decide (1 < ss.count ((ss[i]?).getD (Str.ofString ""))))) (fun st => V.bl (decide (1 < ss.count st))) ss (fun i x e => by rw [e]; rfl), List.map_map]
              rfl
            rw [e8] at hD5'
            refine ⟨D5, _, rfl, SqL.of hD5', _, rfl, ?_⟩
            rw [any_counts]
            have s05 := s03.trans s5
            have k5 := k H5 s05
            rw [en, he, hn, hss] at k5
            by_cases nd : ss.Nodup
            · rw [decide_eq_true nd] at k5
              rw [decide_eq_true nd]
              refine iteF ?_
              have hts5 := s05 _ _ hts
              refine ⟨_, rfl, q, rfl, ⟨_, SqT.of hts5⟩, fun D6 hD6 => comp_mapT (xs := zs) (fun i => .bl (tieB ps ((ts[i]?).getD .none))) (by omega) hD6 hts5 ?_ ?_⟩
              · intro i x H' R hxi sm kk
                obtain ⟨dx, e1, g1⟩ := rts.get hxi
                rw [e1] at kk
                obtain ⟨m, hm, wx⟩ := wt_tupL w2 dx (List.mem_of_getElem? e1)
                exact ⟨back1, _, rfl, _, rfl, .ref p, x, ps, dx, E', E', m1, wk, m, wk, rfl, (hp0.sm s05).sm sm, w1, hwk, hn, (g1.sm s05).sm sm, wx, by omega, hwk, fun H4 s4 => kk H4 s4⟩
              · intro H6 s6 hD6'
                have e9 : (List.range zs.length).map (fun i => V.bl (tieB ps ((ts[i]?).getD .none))) = (ts.map (tieB ps)).map V.bl := by
                  rw [lz, map_range_get (fun i => V.bl (tieB ps ((ts[i]?).getD .none))) (fun d => V.bl (tieB ps d)) ts (fun i x e => by rw [e]; rfl), List.map_map]
                  rfl
                rw [e9] at hD6'
                refine ⟨D6, _, rfl, SqL.of hD6', ?_⟩
                have e10 : (ts.map (tieB ps)).all id = ts.all (tieB ps) := by rw [List.all_map]; rfl
                rw [e10]
                have k6 := k H6 (s05.trans s6)
                rw [en, he, hn, hss, decide_eq_true nd] at k6
                exact k6
            · rw [decide_eq_false nd] at k5
              rw [decide_eq_false nd]
              exact iteT k5
      · rw [netB_len h2] at k0
        have : (!decide (V.int (xs.length : Int) = V.int 2)) = true := ne_len (b := 2) (by omega)
        rw [this]
        exact iteT (iteT k0)
def spAsk4 : Sp := fun vs H Q _ => ∃ (x : V) (d : PyData) (E : Addr → Prop) (wn wk : Nat), vs = [x] ∧ IsD E H x d ∧ Wt d wn wk ∧ wn ≤ 3000 ∧ wk ≤ 40 ∧ ∀ H', Same H H' → Q (.bl true) H'
theorem ok_asked4 (T : Txt K mg) : FnOk P w K mg base CX0 6 T.f_l_asked T.d_l_asked ["_law_thing"] spAsk4 := by
  have G_is_net := ok_is_net (P := P) (w := w) (base := base) T
  have G_l_due := ok_l_due4 (P := P) (w := w) (base := base) T
  refine T.F_l_asked.ok sc_l_asked (fun vs H Q E h => ?_) (fun cdv A outer s H vs Q E hr h => ?_)
  · obtain ⟨x, d, E', wn, wk, rfl, _⟩ := h
    rfl
  · obtain ⟨x, d, E', wn, wk, rfl, hx, wd, hwn, hwk, k⟩ := h
    refine ⟨_, (@pss_cons _ _ _ _ _ (@ps_set _ _ (1) _ _ _ _ sc_l_asked.nd rfl (Or.inl k_l_asked_l_kept) (@pe_callTy _ _ _ _ _ _ _ _ _ (@call_strD _ _ hr) k_l_asked_str T.b_str (@boot_ty_str) (@pa_c _ _ _ _ _ (@pw _ 0 _ _ (Or.inl k_l_asked_l_thing) (by rfl) (by decide) (by decide)) (@pa_nil _) rfl) (by decide) (by decide) (by rfl) (by rfl)) (by rfl) (by first | exact .inl rfl | exact .inr rfl | assumption)) (@pss_cons _ _ _ _ _ (@ps_set _ _ (2) _ _ _ _ sc_l_asked.nd rfl (Or.inl k_l_asked_l_found) (@pe_call _ _ _ _ _ _ _ _ _ _ _ _ _ _ _ _ G_is_net (hr.mono (by decide)) k_l_asked_is_net T.m_is_net T.F_is_net.kp T.B_is_net .nil (@pass0 _) (@pa_c _ _ _ _ _ (@pw _ 0 _ _ (Or.inl k_l_asked_l_thing) (by rfl) (by decide) (by decide)) (@pa_nil _) rfl) (by decide) (by rfl) (by rfl)) (by rfl) (by first | exact .inl rfl | exact .inr rfl | assumption)) (@pss_one _ _ _ (@ps_ret _ _ _ _ (@pe_and _ _ _ _ _ _ _ (@pe_callB _ _ _ _ _ _ _ _ _ (@isinst_k _ (K) (by rfl)) k_l_asked_isinstance T.b_isinstance (@boot_b_isinstance) (@pa_c _ _ _ _ _ (@pw _ 2 _ _ (Or.inl k_l_asked_l_found) (by rfl) (by decide) (by decide)) (@pa_c _ _ _ _ _ (@pe_ty _ _ _ _ k_l_asked_bool T.b_bool (@boot_ty_bool) (by decide) (by decide)) (@pa_nil _) rfl) rfl) (by decide) (by decide) (by rfl) (by rfl)) (@pe_and _ _ _ _ _ _ _ (@pe_cmpR _ _ _ _ _ _ _ _ (@op_eq _) (@pw _ 2 _ _ (Or.inl k_l_asked_l_found) (by rfl) (by decide) (by decide)) (@pe_call _ _ _ _ _ _ _ _ _ _ _ _ _ _ _ _ G_l_due (hr.mono (by decide)) k_l_asked_l_due T.m_l_due T.F_l_due.kp T.B_l_due .nil (@pass0 _) (@pa_c _ _ _ _ _ (@pw _ 0 _ _ (Or.inl k_l_asked_l_thing) (by rfl) (by decide) (by decide)) (@pa_nil _) rfl) (by decide) (by rfl) (by rfl)) (@nomark _ _ (by decide) (by decide))) (@pe_one _ _ _ _ _ (@pe_cmpR _ _ _ _ _ _ _ _ (@op_eq _) (@pe_callTy _ _ _ _ _ _ _ _ _ (@call_strD _ _ hr) k_l_asked_str T.b_str (@boot_ty_str) (@pa_c _ _ _ _ _ (@pw _ 0 _ _ (Or.inl k_l_asked_l_thing) (by rfl) (by decide) (by decide)) (@pa_nil _) rfl) (by decide) (by decide) (by rfl) (by rfl)) (@pw _ 1 _ _ (Or.inl k_l_asked_l_kept) (by rfl) (by decide) (by decide)) (@nomark _ _ (by decide) (by decide)))))))))), ?_⟩
    refine ⟨_, rfl, x, d, E', _, _, rfl, hx, wd, by omega, by omega, ?_⟩
    refine ⟨_, rfl, x, d, E', wn, wk, rfl, hx, wd, hwn, hwk, fun H1 s1 => ?_⟩
    refine ⟨_, rfl, _, _, _, _, rfl, (IsD.bl (E := ED) _).ty, kit_bool (.bool _), _, rfl, iteT ?_⟩
    refine ⟨_, rfl, _, rfl, x, d, E', wn, wk, rfl, hx.sm s1, wd, hwn, hwk, fun H2 s2 => ⟨rfl, _, rfl, ?_⟩⟩
    rw [decide_eq_true rfl]
    have s12 := s1.trans s2
    refine iteT ⟨_, rfl, x, d, E', _, _, rfl, hx.sm s12, wd, by omega, by omega, _, rfl, rfl, ?_⟩
    have k2 := k H2 s12
    rw [decide_eq_true rfl]
    exact k2
end
end K04

namespace K04
open PySem L2
theorem kind3 {z N k : Nat} {E : Addr → Prop} {H : Hp} {x : V} {d : PyData} (h : IsD E H x d) (w : Wg z d N k) :
    (∃ y, x = .str y ∧ isStrB d = true ∧ y.length + 1 ≤ 4 ^ z ∧ ∀ c ∈ y.cps.toList, c < 128) ∨
    (isStrB d = false ∧ isSeqB d = false ∧ (isIntB d = true → ∃ i, nOf x = some i ∧ Sz (200 + z) i ∧ Dt z E H x 1 0)) ∨
    (isStrB d = false ∧ isSeqB d = true ∧ ∃ (o : Addr) (c : Bool) (ys : List V) (m l : Nat), x = .ref o ∧ isTupB d = (!c) ∧ isLstB d = c ∧ (∀ K H', SameE E H H' → SqC K H' o ys c) ∧ Ds z E H ys m l ∧ m + 1 ≤ N ∧ l + 1 ≤ k) := by
  cases h with
  | str y => cases w with | str h1 h2 h3 => exact .inl ⟨y, rfl, rfl, h1, h2⟩
  | non => exact .inr (.inl ⟨rfl, rfl, fun z => by cases z⟩)
  | bl b => exact .inr (.inl ⟨rfl, rfl, fun _ => ⟨_, rfl, by
      cases b
      · show (0 : Int).natAbs < _; exact Nat.lt_of_lt_of_le (show 0 < 2 ^ 1 by decide) (Nat.pow_le_pow_right (by decide) (by omega))
      · show (1 : Int).natAbs < _; exact Nat.lt_of_lt_of_le (show 1 < 2 ^ 1 by decide) (Nat.pow_le_pow_right (by decide) (by omega)), Dt.bl b⟩⟩)
  | int i => cases w with | int h1 h2 => exact .inr (.inl ⟨rfl, rfl, fun _ => ⟨i, rfl, h1, Dt.int h1⟩⟩)
  | @lst o ys ds h ne r => cases w with | list h1 h2 h3 => exact .inr (.inr ⟨rfl, rfl, o, true, ys, _, _, rfl, rfl, rfl, fun K H' s => SqL.of (s.old _ _ ne h), ⟨ds, r, h1⟩, h2, h3⟩)
  | @tup o ys ds h r => cases w with | tuple h1 h2 h3 => exact .inr (.inr ⟨rfl, rfl, o, false, ys, _, _, rfl, rfl, rfl, fun K H' s => SqT.of (s.tup _ _ h), ⟨ds, r, h1⟩, h2, h3⟩)
theorem sz_up {z : Nat} {i j : Int} (h : Sz (200 + z) i) (hj : j.natAbs ≤ i.natAbs + 4 ∨ j.natAbs ≤ 2 * i.natAbs) : Sz (200 + (z + 1)) j := by
  have h1 : i.natAbs < 2 ^ (200 + z) := h
  have h2 : 2 ^ (200 + (z + 1)) = 2 * 2 ^ (200 + z) := by rw [show 200 + (z + 1) = (200 + z) + 1 from by omega, Nat.pow_succ, Nat.mul_comm]
  have h3 : 2 ^ 200 ≤ 2 ^ (200 + z) := Nat.pow_le_pow_right (by decide) (by omega)
  have h4 : 8 ≤ 2 ^ 200 := by decide +kernel
  show j.natAbs < 2 ^ (200 + (z + 1))
  rw [h2]
  generalize 2 ^ (200 + z) = A at h1 h3 ⊢
  generalize 2 ^ 200 = B at h3 h4
  omega
theorem dtS {z n k L : Nat} {E : Addr → Prop} {H : Hp} {c : Str} (h : txt L c) (hL : L + 1 ≤ 4 ^ (z + 1)) : Dt (z + 1) E H (.str c) (n + 1) k := Dt.str (by have := h.1; omega) h.2
theorem txa : txt 1 (Str.ofString "a") := ⟨by decide +kernel, by decide +kernel⟩
theorem tx1 : txt 1 (Str.ofString "1") := ⟨by decide +kernel, by decide +kernel⟩
theorem tx0 : txt 1 (Str.ofString "") := ⟨by decide +kernel, by decide +kernel⟩
theorem txn : txt 1 (Str.ofString "\n") := ⟨by decide +kernel, by decide +kernel⟩
theorem sign_at {i : Int} (h0 : 0 ≤ i) (h1 : i < 5) : ∃ c, atI (Str.ofString "A 7_-").cps.toList i = some c ∧ c < 128 := by
  obtain rfl | rfl | rfl | rfl | rfl : i = 0 ∨ i = 1 ∨ i = 2 ∨ i = 3 ∨ i = 4 := by omega
  · exact ⟨65, by decide +kernel, by decide⟩
  · exact ⟨32, by decide +kernel, by decide⟩
  · exact ⟨55, by decide +kernel, by decide⟩
  · exact ⟨95, by decide +kernel, by decide⟩
  · exact ⟨45, by decide +kernel, by decide⟩
section
variable {P : Program} {w : World} {K : PySem.W.Frag} {mg : Str → Option Value} {base : Heap}
def spBent : Sp := fun vs H Q _ => ∃ (b : Addr) (x : V) (t : Int) (E : Addr → Prop) (z N k : Nat), vs = [.ref b, x] ∧ Bx H b t ∧ 0 ≤ t ∧ t ≤ 900000 ∧ E b ∧ Al E H ∧ Dt z E H x N k ∧ z ≤ 3 ∧ N ≤ 1500 ∧ k ≤ 20 ∧
  ∀ y t' H', SameE (Eb b) H H' → Dt (z + 1) E H' y (3 * N + 10) (k + 2) → Bx H' b t' → t ≤ t' → t' ≤ t + 3 → Q y H'
theorem ok_bent (T : Txt K mg) : FnOk P w K mg base CX0 2 T.f_l_bent_part T.d_l_bent_part ["_law_box", "_law_thing"] spBent := by
  have G_l_take := ok_take (P := P) (w := w) (base := base) T
  refine T.F_l_bent_part.ok sc_l_bent_part (fun vs H Q E h => ?_) (fun cdv A outer s H vs Q E hr h => ?_)
  · obtain ⟨b, x, t, E', z, N, k, rfl, _⟩ := h
    rfl
  · obtain ⟨b, x, t, E', z, N, k, rfl, B, ht0, ht1, hEb, hal, hx0, hz, hN, hk, K'⟩ := h
    refine ⟨_, (@pss_cons _ _ _ _ _ (@ps_par _ _ (2) (3) _ _ _ _ _ _ _ _ _ _ _ rfl sc_l_bent_part.nd rfl rfl (by decide) k_l_bent_part_l_way k_l_bent_part_l_spot (@pa_c _ _ _ _ _ (@pe_call _ _ _ _ _ _ _ _ _ _ _ _ _ _ _ _ G_l_take (hr.mono (by decide)) k_l_bent_part_l_take T.m_l_take T.F_l_take.kp T.B_l_take .nil (@pass0 _) (@pa_c _ _ _ _ _ (@pw _ 0 _ _ (Or.inl k_l_bent_part_l_box) (by rfl) (by decide) (by decide)) (@pa_c _ _ _ _ _ (@pe_int _ _ _ _) (@pa_nil _) rfl) rfl) (by decide) (by rfl) (by rfl)) (@pa_c _ _ _ _ _ (@pe_call _ _ _ _ _ _ _ _ _ _ _ _ _ _ _ _ G_l_take (hr.mono (by decide)) k_l_bent_part_l_take T.m_l_take T.F_l_take.kp T.B_l_take .nil (@pass0 _) (@pa_c _ _ _ _ _ (@pw _ 0 _ _ (Or.inl k_l_bent_part_l_box) (by rfl) (by decide) (by decide)) (@pa_c _ _ _ _ _ (@pe_int _ _ _ _) (@pa_nil _) rfl) rfl) (by decide) (by rfl) (by rfl)) (@pa_nil _) rfl) rfl) (by kernel_rfl) (by rfl)) (@pss_cons _ _ _ _ _ (@ps_if _ _ _ _ _ _ _ _ (@pt_val _ _ _ (@pe_callB _ _ _ _ _ _ _ _ _ (@isinst_k _ (K) (by rfl)) k_l_bent_part_isinstance T.b_isinstance (@boot_b_isinstance) (@pa_c _ _ _ _ _ (@pw _ 1 _ _ (Or.inl k_l_bent_part_l_thing) (by rfl) (by decide) (by decide)) (@pa_c _ _ _ _ _ (@pe_ty _ _ _ _ k_l_bent_part_str T.b_str (@boot_ty_str) (by decide) (by decide)) (@pa_nil _) rfl) rfl) (by decide) (by decide) (by rfl) (by rfl)) (by intro _; rfl)) (@pss_cons _ _ _ _ _ (@ps_set _ _ (4) _ _ _ _ sc_l_bent_part.nd rfl (Or.inl k_l_bent_part_l_k) (@pe_op _ _ _ _ _ _ _ _ (@op_mod _) (@pw _ 3 _ _ (Or.inl k_l_bent_part_l_spot) (by rfl) (by decide) (by decide)) (@pe_op _ _ _ _ _ _ _ _ (@op_add _) (@pe_callB _ _ _ _ _ _ _ _ _ (@call_len _) k_l_bent_part_len T.b_len (@boot_b_len) (@pa_c _ _ _ _ _ (@pw _ 1 _ _ (Or.inl k_l_bent_part_l_thing) (by rfl) (by decide) (by decide)) (@pa_nil _) rfl) (by decide) (by decide) (by rfl) (by rfl)) (@pe_int _ _ _ _))) (by rfl) (by first | exact .inl rfl | exact .inr rfl | assumption)) (@pss_cons _ _ _ _ _ (@ps_set _ _ (5) _ _ _ _ sc_l_bent_part.nd rfl (Or.inl k_l_bent_part_l_sign) (@pe_ix _ _ _ _ _ _ _ (@ix_str _) (@pe_str _ _ _ _) (@pe_call _ _ _ _ _ _ _ _ _ _ _ _ _ _ _ _ G_l_take (hr.mono (by decide)) k_l_bent_part_l_take T.m_l_take T.F_l_take.kp T.B_l_take .nil (@pass0 _) (@pa_c _ _ _ _ _ (@pw _ 0 _ _ (Or.inl k_l_bent_part_l_box) (by rfl) (by decide) (by decide)) (@pa_c _ _ _ _ _ (@pe_int _ _ _ _) (@pa_nil _) rfl) rfl) (by decide) (by rfl) (by rfl)) (fun _ _ => rfl)) (by rfl) (by first | exact .inl rfl | exact .inr rfl | assumption)) (@pss_cons _ _ _ _ _ (@ps_set _ _ (6) _ _ _ _ sc_l_bent_part.nd rfl (Or.inl k_l_bent_part_l_some) (@pe_lstA _ _ _ _ (@pa_c _ _ _ _ _ (@pe_op _ _ _ _ _ _ _ _ (@op_addT _) (@pw _ 1 _ _ (Or.inl k_l_bent_part_l_thing) (by rfl) (by decide) (by decide)) (@pe_str _ _ _ _)) (@pa_c _ _ _ _ _ (@pe_slice _ _ _ _ _ _ _ _ _ _ (@sl_str _) (@pw _ 1 _ _ (Or.inl k_l_bent_part_l_thing) (by rfl) (by decide) (by decide)) (@po_some _ _ _ (@pe_int _ _ _ _)) (@po_none _)) (@pa_c _ _ _ _ _ (@pe_op _ _ _ _ _ _ _ _ (@op_addT _) (@pe_op _ _ _ _ _ _ _ _ (@op_addT _) (@pe_slice _ _ _ _ _ _ _ _ _ _ (@sl_str _) (@pw _ 1 _ _ (Or.inl k_l_bent_part_l_thing) (by rfl) (by decide) (by decide)) (@po_none _) (@po_some _ _ _ (@pw _ 4 _ _ (Or.inl k_l_bent_part_l_k) (by rfl) (by decide) (by decide)))) (@pw _ 5 _ _ (Or.inl k_l_bent_part_l_sign) (by rfl) (by decide) (by decide))) (@pe_slice _ _ _ _ _ _ _ _ _ _ (@sl_str _) (@pw _ 1 _ _ (Or.inl k_l_bent_part_l_thing) (by rfl) (by decide) (by decide)) (@po_some _ _ _ (@pw _ 4 _ _ (Or.inl k_l_bent_part_l_k) (by rfl) (by decide) (by decide))) (@po_none _))) (@pa_c _ _ _ _ _ (@pe_op _ _ _ _ _ _ _ _ (@op_addT _) (@pe_op _ _ _ _ _ _ _ _ (@op_addT _) (@pe_slice _ _ _ _ _ _ _ _ _ _ (@sl_str _) (@pw _ 1 _ _ (Or.inl k_l_bent_part_l_thing) (by rfl) (by decide) (by decide)) (@po_none _) (@po_some _ _ _ (@pw _ 4 _ _ (Or.inl k_l_bent_part_l_k) (by rfl) (by decide) (by decide)))) (@pw _ 5 _ _ (Or.inl k_l_bent_part_l_sign) (by rfl) (by decide) (by decide))) (@pe_slice _ _ _ _ _ _ _ _ _ _ (@sl_str _) (@pw _ 1 _ _ (Or.inl k_l_bent_part_l_thing) (by rfl) (by decide) (by decide)) (@po_some _ _ _ (@pe_op _ _ _ _ _ _ _ _ (@op_add _) (@pw _ 4 _ _ (Or.inl k_l_bent_part_l_k) (by rfl) (by decide) (by decide)) (@pe_int _ _ _ _))) (@po_none _))) (@pa_c _ _ _ _ _ (@pe_str _ _ _ _) (@pa_c _ _ _ _ _ (@pe_op _ _ _ _ _ _ _ _ (@op_mulT _) (@pw _ 1 _ _ (Or.inl k_l_bent_part_l_thing) (by rfl) (by decide) (by decide)) (@pe_int _ _ _ _)) (@pa_nil _) rfl) rfl) rfl) rfl) rfl) rfl)) (by rfl) (by first | exact .inl rfl | exact .inr rfl | assumption)) (@pss_one _ _ _ (@ps_ret _ _ _ _ (@pe_ix _ _ _ _ _ _ _ (@ixL_k _ (K) (by rfl)) (@pe_op _ _ _ _ _ _ _ _ (@op_catA _) (@pw _ 6 _ _ (Or.inl k_l_bent_part_l_some) (by rfl) (by decide) (by decide)) (@pe_lstA _ _ _ _ (@pa_c _ _ _ _ _ (@pe_non _ _ _) (@pa_c _ _ _ _ _ (@pe_lstA _ _ _ _ (@pa_c _ _ _ _ _ (@pw _ 1 _ _ (Or.inl k_l_bent_part_l_thing) (by rfl) (by decide) (by decide)) (@pa_nil _) rfl)) (@pa_c _ _ _ _ _ (@pe_tupA _ _ _ _ _ (@pa_c _ _ _ _ _ (@pw _ 1 _ _ (Or.inl k_l_bent_part_l_thing) (by rfl) (by decide) (by decide)) (@pa_nil _) rfl)) (@pa_c _ _ _ _ _ (@pe_op _ _ _ _ _ _ _ _ (@op_addT _) (@pw _ 1 _ _ (Or.inl k_l_bent_part_l_thing) (by rfl) (by decide) (by decide)) (@pe_str _ _ _ _)) (@pa_nil _) rfl) rfl) rfl) rfl))) (@pw _ 2 _ _ (Or.inl k_l_bent_part_l_way) (by rfl) (by decide) (by decide)) (fun _ _ => rfl))))))) (@pss_nil _)) (@pss_cons _ _ _ _ _ (@ps_if _ _ _ _ _ _ _ _ (@pt_not _ _ _ _ (@pt_val _ _ _ (@pe_callB _ _ _ _ _ _ _ _ _ (@isinstT_k _ (K) (by rfl)) k_l_bent_part_isinstance T.b_isinstance (@boot_b_isinstance) (@pa_c _ _ _ _ _ (@pw _ 1 _ _ (Or.inl k_l_bent_part_l_thing) (by rfl) (by decide) (by decide)) (@pa_c _ _ _ _ _ (@pe_tupA _ _ _ _ _ (@pa_c _ _ _ _ _ (@pe_ty _ _ _ _ k_l_bent_part_list T.b_list (@boot_ty_list) (by decide) (by decide)) (@pa_c _ _ _ _ _ (@pe_ty _ _ _ _ k_l_bent_part_tuple T.b_tuple (@boot_ty_tuple) (by decide) (by decide)) (@pa_nil _) rfl) rfl)) (@pa_nil _) rfl) rfl) (by decide) (by decide) (by rfl) (by rfl)) (by intro _; rfl))) (@pss_cons _ _ _ _ _ (@ps_set _ _ (7) _ _ _ _ sc_l_bent_part.nd rfl (Or.inl k_l_bent_part_l_n) (@pe_ifExp _ _ _ _ _ _ _ _ (@pt_val _ _ _ (@pe_callB _ _ _ _ _ _ _ _ _ (@isinst_k _ (K) (by rfl)) k_l_bent_part_isinstance T.b_isinstance (@boot_b_isinstance) (@pa_c _ _ _ _ _ (@pw _ 1 _ _ (Or.inl k_l_bent_part_l_thing) (by rfl) (by decide) (by decide)) (@pa_c _ _ _ _ _ (@pe_ty _ _ _ _ k_l_bent_part_int T.b_int (@boot_ty_int) (by decide) (by decide)) (@pa_nil _) rfl) rfl) (by decide) (by decide) (by rfl) (by rfl)) (by intro _; rfl)) (@pw _ 1 _ _ (Or.inl k_l_bent_part_l_thing) (by rfl) (by decide) (by decide)) (@pe_int _ _ _ _)) (by rfl) (by first | exact .inl rfl | exact .inr rfl | assumption)) (@pss_one _ _ _ (@ps_ret _ _ _ _ (@pe_ix _ _ _ _ _ _ _ (@ixL_k _ (K) (by rfl)) (@pe_lstA _ _ _ _ (@pa_c _ _ _ _ _ (@pe_op _ _ _ _ _ _ _ _ (@op_addX _) (@pw _ 7 _ _ (Or.inl k_l_bent_part_l_n) (by rfl) (by decide) (by decide)) (@pe_int _ _ _ _)) (@pa_c _ _ _ _ _ (@pe_op _ _ _ _ _ _ _ _ (@op_subX _) (@pw _ 7 _ _ (Or.inl k_l_bent_part_l_n) (by rfl) (by decide) (by decide)) (@pe_int _ _ _ _)) (@pa_c _ _ _ _ _ (@pe_op _ _ _ _ _ _ _ _ (@op_addX _) (@pw _ 7 _ _ (Or.inl k_l_bent_part_l_n) (by rfl) (by decide) (by decide)) (@pe_int _ _ _ _)) (@pa_c _ _ _ _ _ (@pe_un _ _ _ _ _ _ (@un_negX _) (@pw _ 7 _ _ (Or.inl k_l_bent_part_l_n) (by rfl) (by decide) (by decide))) (@pa_c _ _ _ _ _ (@pe_op _ _ _ _ _ _ _ _ (@op_mulX _) (@pe_int _ _ _ _) (@pw _ 7 _ _ (Or.inl k_l_bent_part_l_n) (by rfl) (by decide) (by decide))) (@pa_c _ _ _ _ _ (@pe_cmpR _ _ _ _ _ _ _ _ (@op_eqD _ hr.units) (@pw _ 7 _ _ (Or.inl k_l_bent_part_l_n) (by rfl) (by decide) (by decide)) (@pe_int _ _ _ _) (@nomark _ _ (by decide) (by decide))) (@pa_c _ _ _ _ _ (@pe_non _ _ _) (@pa_c _ _ _ _ _ (@pe_str _ _ _ _) (@pa_c _ _ _ _ _ (@pe_int _ _ _ _) (@pa_c _ _ _ _ _ (@pe_lstA _ _ _ _ (@pa_c _ _ _ _ _ (@pw _ 7 _ _ (Or.inl k_l_bent_part_l_n) (by rfl) (by decide) (by decide)) (@pa_nil _) rfl)) (@pa_nil _) rfl) rfl) rfl) rfl) rfl) rfl) rfl) rfl) rfl) rfl)) (@pw _ 2 _ _ (Or.inl k_l_bent_part_l_way) (by rfl) (by decide) (by decide)) (fun _ _ => rfl))))) (@pss_nil _)) (@pss_cons _ _ _ _ _ (@ps_par _ _ (4) (6) _ _ _ _ _ _ _ _ _ _ _ rfl sc_l_bent_part.nd rfl rfl (by decide) k_l_bent_part_l_k k_l_bent_part_l_some (@pa_c _ _ _ _ _ (@pe_op _ _ _ _ _ _ _ _ (@op_mod _) (@pw _ 3 _ _ (Or.inl k_l_bent_part_l_spot) (by rfl) (by decide) (by decide)) (@pe_op _ _ _ _ _ _ _ _ (@op_add _) (@pe_callB _ _ _ _ _ _ _ _ _ (@call_len _) k_l_bent_part_len T.b_len (@boot_b_len) (@pa_c _ _ _ _ _ (@pw _ 1 _ _ (Or.inl k_l_bent_part_l_thing) (by rfl) (by decide) (by decide)) (@pa_nil _) rfl) (by decide) (by decide) (by rfl) (by rfl)) (@pe_int _ _ _ _))) (@pa_c _ _ _ _ _ (@pe_callTy _ _ _ _ _ _ _ _ _ (@call_list_ofA _ (K) (by rfl)) k_l_bent_part_list T.b_list (@boot_ty_list) (@pa_c _ _ _ _ _ (@pw _ 1 _ _ (Or.inl k_l_bent_part_l_thing) (by rfl) (by decide) (by decide)) (@pa_nil _) rfl) (by decide) (by decide) (by rfl) (by rfl)) (@pa_nil _) rfl) rfl) (by kernel_rfl) (by rfl)) (@pss_cons _ _ _ _ _ (@ps_par _ _ (8) (9) _ _ _ _ _ _ _ _ _ _ _ rfl sc_l_bent_part.nd rfl rfl (by decide) k_l_bent_part_l_a k_l_bent_part_l_b (@pa_c _ _ _ _ _ (@pe_slice _ _ _ _ _ _ _ _ _ _ (@sl_listA _ (K) (by rfl)) (@pw _ 6 _ _ (Or.inl k_l_bent_part_l_some) (by rfl) (by decide) (by decide)) (@po_none _) (@po_some _ _ _ (@pw _ 4 _ _ (Or.inl k_l_bent_part_l_k) (by rfl) (by decide) (by decide)))) (@pa_c _ _ _ _ _ (@pe_slice _ _ _ _ _ _ _ _ _ _ (@sl_listA _ (K) (by rfl)) (@pw _ 6 _ _ (Or.inl k_l_bent_part_l_some) (by rfl) (by decide) (by decide)) (@po_some _ _ _ (@pw _ 4 _ _ (Or.inl k_l_bent_part_l_k) (by rfl) (by decide) (by decide))) (@po_none _)) (@pa_nil _) rfl) rfl) (by kernel_rfl) (by rfl)) (@pss_cons _ _ _ _ _ (@ps_set _ _ (10) _ _ _ _ sc_l_bent_part.nd rfl (Or.inl k_l_bent_part_l_bent) (@pe_lstA _ _ _ _ (@pa_c _ _ _ _ _ (@pe_op _ _ _ _ _ _ _ _ (@op_catA _) (@pw _ 8 _ _ (Or.inl k_l_bent_part_l_a) (by rfl) (by decide) (by decide)) (@pe_slice _ _ _ _ _ _ _ _ _ _ (@sl_listA _ (K) (by rfl)) (@pw _ 9 _ _ (Or.inl k_l_bent_part_l_b) (by rfl) (by decide) (by decide)) (@po_some _ _ _ (@pe_int _ _ _ _)) (@po_none _))) (@pa_c _ _ _ _ _ (@pe_op _ _ _ _ _ _ _ _ (@op_catA _) (@pe_op _ _ _ _ _ _ _ _ (@op_catA _) (@pw _ 8 _ _ (Or.inl k_l_bent_part_l_a) (by rfl) (by decide) (by decide)) (@pe_slice _ _ _ _ _ _ _ _ _ _ (@sl_listA _ (K) (by rfl)) (@pw _ 9 _ _ (Or.inl k_l_bent_part_l_b) (by rfl) (by decide) (by decide)) (@po_none _) (@po_some _ _ _ (@pe_int _ _ _ _)))) (@pw _ 9 _ _ (Or.inl k_l_bent_part_l_b) (by rfl) (by decide) (by decide))) (@pa_c _ _ _ _ _ (@pe_op _ _ _ _ _ _ _ _ (@op_catA _) (@pe_op _ _ _ _ _ _ _ _ (@op_catA _) (@pw _ 8 _ _ (Or.inl k_l_bent_part_l_a) (by rfl) (by decide) (by decide)) (@pe_revA _ _ _ _ _ _ _ _ (@pe_slice _ _ _ _ _ _ _ _ _ _ (@sl_listA _ (K) (by rfl)) (@pw _ 9 _ _ (Or.inl k_l_bent_part_l_b) (by rfl) (by decide) (by decide)) (@po_none _) (@po_some _ _ _ (@pe_int _ _ _ _))) (@po_some _ _ _ (@pe_un _ _ _ _ _ _ (@un_neg _) (@pe_int _ _ _ _))) (by rfl))) (@pe_slice _ _ _ _ _ _ _ _ _ _ (@sl_listA _ (K) (by rfl)) (@pw _ 9 _ _ (Or.inl k_l_bent_part_l_b) (by rfl) (by decide) (by decide)) (@po_some _ _ _ (@pe_int _ _ _ _)) (@po_none _))) (@pa_c _ _ _ _ _ (@pe_op _ _ _ _ _ _ _ _ (@op_catA _) (@pe_op _ _ _ _ _ _ _ _ (@op_catA _) (@pw _ 8 _ _ (Or.inl k_l_bent_part_l_a) (by rfl) (by decide) (by decide)) (@pe_lstA _ _ _ _ (@pa_c _ _ _ _ _ (@pe_tupA _ _ _ _ _ (@pa_c _ _ _ _ _ (@pe_int _ _ _ _) (@pa_c _ _ _ _ _ (@pe_int _ _ _ _) (@pa_nil _) rfl) rfl)) (@pa_nil _) rfl))) (@pw _ 9 _ _ (Or.inl k_l_bent_part_l_b) (by rfl) (by decide) (by decide))) (@pa_c _ _ _ _ _ (@pe_revA _ _ _ _ _ _ _ _ (@pw _ 6 _ _ (Or.inl k_l_bent_part_l_some) (by rfl) (by decide) (by decide)) (@po_some _ _ _ (@pe_un _ _ _ _ _ _ (@un_neg _) (@pe_int _ _ _ _))) (by rfl)) (@pa_c _ _ _ _ _ (@pe_op _ _ _ _ _ _ _ _ (@op_catA _) (@pw _ 9 _ _ (Or.inl k_l_bent_part_l_b) (by rfl) (by decide) (by decide)) (@pw _ 8 _ _ (Or.inl k_l_bent_part_l_a) (by rfl) (by decide) (by decide))) (@pa_c _ _ _ _ _ (@pe_op _ _ _ _ _ _ _ _ (@op_catA _) (@pe_op _ _ _ _ _ _ _ _ (@op_catA _) (@pw _ 8 _ _ (Or.inl k_l_bent_part_l_a) (by rfl) (by decide) (by decide)) (@pe_lstA _ _ _ _ (@pa_c _ _ _ _ _ (@pe_non _ _ _) (@pa_nil _) rfl))) (@pe_slice _ _ _ _ _ _ _ _ _ _ (@sl_listA _ (K) (by rfl)) (@pw _ 9 _ _ (Or.inl k_l_bent_part_l_b) (by rfl) (by decide) (by decide)) (@po_some _ _ _ (@pe_int _ _ _ _)) (@po_none _))) (@pa_nil _) rfl) rfl) rfl) rfl) rfl) rfl) rfl)) (by rfl) (by first | exact .inl rfl | exact .inr rfl | assumption)) (@pss_cons _ _ _ _ _ (@ps_if _ _ _ _ _ _ _ _ (@pt_cmpR _ _ _ _ _ _ _ _ (@op_lt _) (@pw _ 2 _ _ (Or.inl k_l_bent_part_l_way) (by rfl) (by decide) (by decide)) (@pe_int _ _ _ _) (@nomark _ _ (by decide) (by decide))) (@pss_one _ _ _ (@ps_ret _ _ _ _ (@pe_ifExp _ _ _ _ _ _ _ _ (@pt_val _ _ _ (@pe_callB _ _ _ _ _ _ _ _ _ (@isinst_k _ (K) (by rfl)) k_l_bent_part_isinstance T.b_isinstance (@boot_b_isinstance) (@pa_c _ _ _ _ _ (@pw _ 1 _ _ (Or.inl k_l_bent_part_l_thing) (by rfl) (by decide) (by decide)) (@pa_c _ _ _ _ _ (@pe_ty _ _ _ _ k_l_bent_part_tuple T.b_tuple (@boot_ty_tuple) (by decide) (by decide)) (@pa_nil _) rfl) rfl) (by decide) (by decide) (by rfl) (by rfl)) (by intro _; rfl)) (@pe_callTy _ _ _ _ _ _ _ _ _ (@call_tuple_ofA _ (K) (by rfl)) k_l_bent_part_tuple T.b_tuple (@boot_ty_tuple) (@pa_c _ _ _ _ _ (@pe_ix _ _ _ _ _ _ _ (@ixL_k _ (K) (by rfl)) (@pw _ 10 _ _ (Or.inl k_l_bent_part_l_bent) (by rfl) (by decide) (by decide)) (@pw _ 2 _ _ (Or.inl k_l_bent_part_l_way) (by rfl) (by decide) (by decide)) (fun _ _ => rfl)) (@pa_nil _) rfl) (by decide) (by decide) (by rfl) (by rfl)) (@pe_ix _ _ _ _ _ _ _ (@ixL_k _ (K) (by rfl)) (@pw _ 10 _ _ (Or.inl k_l_bent_part_l_bent) (by rfl) (by decide) (by decide)) (@pw _ 2 _ _ (Or.inl k_l_bent_part_l_way) (by rfl) (by decide) (by decide)) (fun _ _ => rfl))))) (@pss_nil _)) (@pss_one _ _ _ (@ps_ret _ _ _ _ (@pe_ix _ _ _ _ _ _ _ (@ixL_k _ (K) (by rfl)) (@pe_lstA _ _ _ _ (@pa_c _ _ _ _ _ (@pe_ifExp _ _ _ _ _ _ _ _ (@pt_val _ _ _ (@pe_callB _ _ _ _ _ _ _ _ _ (@isinst_k _ (K) (by rfl)) k_l_bent_part_isinstance T.b_isinstance (@boot_b_isinstance) (@pa_c _ _ _ _ _ (@pw _ 1 _ _ (Or.inl k_l_bent_part_l_thing) (by rfl) (by decide) (by decide)) (@pa_c _ _ _ _ _ (@pe_ty _ _ _ _ k_l_bent_part_list T.b_list (@boot_ty_list) (by decide) (by decide)) (@pa_nil _) rfl) rfl) (by decide) (by decide) (by rfl) (by rfl)) (by intro _; rfl)) (@pe_callTy _ _ _ _ _ _ _ _ _ (@call_tuple_ofA _ (K) (by rfl)) k_l_bent_part_tuple T.b_tuple (@boot_ty_tuple) (@pa_c _ _ _ _ _ (@pw _ 6 _ _ (Or.inl k_l_bent_part_l_some) (by rfl) (by decide) (by decide)) (@pa_nil _) rfl) (by decide) (by decide) (by rfl) (by rfl)) (@pw _ 6 _ _ (Or.inl k_l_bent_part_l_some) (by rfl) (by decide) (by decide))) (@pa_c _ _ _ _ _ (@pe_non _ _ _) (@pa_c _ _ _ _ _ (@pe_tupA _ _ _ _ _ (@pa_c _ _ _ _ _ (@pe_tupA _ _ _ _ _ (@pa_c _ _ _ _ _ (@pw _ 6 _ _ (Or.inl k_l_bent_part_l_some) (by rfl) (by decide) (by decide)) (@pa_nil _) rfl)) (@pa_nil _) rfl)) (@pa_nil _) rfl) rfl) rfl)) (@pe_op _ _ _ _ _ _ _ _ (@op_sub _) (@pw _ 2 _ _ (Or.inl k_l_bent_part_l_way) (by rfl) (by decide) (by decide)) (@pe_int _ _ _ _)) (fun _ _ => rfl))))))))))), ?_⟩
    refine ⟨_, rfl, b, 10, t, rfl, B, by decide, by decide, ht0, by omega, fun wy t1 H1 w0 w1 h1a h1b s1 B1 => ⟨_, rfl, b, 9, t1, rfl, B1, by decide, by decide, by omega, by omega, fun sp t2 H2 p0 p1 h2a h2b s2 B2 => ⟨_, _, rfl, ?_⟩⟩⟩
    have s12 := s1.trans s2
    obtain ⟨d, hx, wg⟩ := hx0.sE (s12.weak hEb)
    have al2 := hal.sE s12 B2
    have KK : ∀ y J, Same H2 J → Dt (z + 1) E' J y (3 * N + 10) (k + 2) → Q y J := fun y J sJ hy => K' y t2 J (s12.trans sJ.toE) hy (B2.same sJ) (by omega) (by omega)
    refine ⟨_, rfl, _, _, _, _, rfl, hx.ty, kit_str d, _, rfl, ?_⟩
    rcases kind3 hx wg with ⟨y, rfl, hs, hy, hyc⟩ | ⟨hs, hq, hi⟩ | ⟨hs, hq, o, c, ys, m, l, rfl, htp, hls, sq, dys, hm, hl⟩
    · -- a text
      rw [hs]
      have p4 : 4 ^ z ≤ 64 := Nat.le_trans (pow4_le hz) (by decide)
      have q4 : 4 ^ (z + 1) = 4 * 4 ^ z := by rw [Nat.pow_succ, Nat.mul_comm]
      have q1 : 1 ≤ 4 ^ z := Nat.one_le_pow _ _ (by decide)
      have ty : txt y.length y := ⟨Nat.le_refl _, hyc⟩
      have sub : ∀ (u : Str), u.length ≤ y.length → (∀ c ∈ u.cps.toList, c ∈ y.cps.toList) → txt y.length u := fun u h1 h2 => ⟨h1, fun c hc => hyc c (h2 c hc)⟩
      refine iteT ⟨_, rfl, _, rfl, _, _, rfl, ⟨by rw [sizeLine_eq]; omega, rfl⟩, _, _, rfl, rfl, _, _, rfl, rfl, by omega, ?_⟩
      generalize sp % ((y.length : Int) + 1) = kk
      refine ⟨_, rfl, b, 5, t2, rfl, B2, by decide, by decide, by omega, by omega, fun sg t3 H3 g0 g1 h3a h3b s3 B3 => ?_⟩
      obtain ⟨sc, hsc, hsl⟩ := sign_at g0 g1
      refine ⟨_, _, _, rfl, rfl, (by decide +kernel), hsc, ?_⟩
      have txs : txt 1 ⟨#[sc]⟩ := ⟨Nat.le_refl _, fun c hc => by
        have e : c = sc := by simpa using hc
        rw [e]; exact hsl⟩
      generalize (⟨#[sc]⟩ : Str) = sgn at txs ⊢
      have s13 := s12.trans s3
      have al3 := hal.sE s13 B3
      have KK : ∀ y J, Same H3 J → Dt (z + 1) E' J y (3 * N + 10) (k + 2) → Q y J := fun y J sJ hy => K' y t3 J (s13.trans sJ.toE) hy (B3.same sJ) (by omega) (by omega)
      refine ⟨_, rfl, _, _, _, _, rfl, rfl, ty, txa, by omega, fun c1 tc1 => ?_⟩
      refine ⟨_, rfl, _, rfl, y, rfl, by omega, fun c2 l2 m2 => ?_⟩
      refine ⟨_, rfl, _, rfl, _, rfl, y, rfl, by omega, fun c3 l3 m3 => ⟨_, rfl, _, _, _, _, rfl, rfl, sub c3 l3 m3, txs, by omega, fun c4 tc4 => ⟨_, rfl, _, rfl, _, rfl, y, rfl, by omega, fun c5 l5 m5 => ⟨_, _, _, _, rfl, rfl, tc4, sub c5 l5 m5, by omega, fun c6 tc6 => ?_⟩⟩⟩⟩
      refine ⟨_, rfl, _, rfl, _, rfl, y, rfl, by omega, fun c7 l7 m7 => ⟨_, rfl, _, _, _, _, rfl, rfl, sub c7 l7 m7, txs, by omega, fun c8 tc8 => ⟨_, rfl, _, rfl, _, _, rfl, rfl, _, rfl, y, rfl, by omega, fun c9 l9 m9 => ⟨_, _, _, _, rfl, rfl, tc8, sub c9 l9 m9, by omega, fun c10 tc10 => ?_⟩⟩⟩⟩
      refine ⟨_, rfl, _, _, rfl, rfl, ty, by omega, fun c11 tc11 => ⟨(by show 6 ≤ 10000; decide), fun o1 J1 n1 => ?_⟩⟩
      refine ⟨_, rfl, _, rfl, (by show 1 ≤ 10000; decide), fun o2 J2 n2 => ⟨_, rfl, (by show 1 ≤ 10000; decide), fun o3 J3 n3 => ⟨_, rfl, _, _, _, _, rfl, rfl, ty, txn, by omega, fun c12 tc12 => ⟨(by show 4 ≤ 10000; decide), fun o4 J4 n4 => ?_⟩⟩⟩⟩
      refine ⟨o1, o4, _, _, rfl, rfl, n4.sm _ _ (n3.sm _ _ (n2.sm _ _ n1.at')), n4.at', (by show 6 + 4 ≤ 10000; decide), fun o5 J5 n5 => ?_⟩
      have S5 := (((n1.sm.trans n2.sm).trans n3.sm).trans n4.sm).trans n5.sm
      obtain ⟨v, ev, hv⟩ : ∃ v, atI ([V.str c1, .str c2, .str c6, .str c10, .str (Str.ofString ""), .str c11] ++ [V.non, .ref o2, .ref o3, .str c12]) wy = some v ∧ Dt (z + 1) E' J5 v (3 * N + 10) (k + 2) := by
        obtain rfl | rfl | rfl | rfl | rfl | rfl | rfl | rfl | rfl | rfl : wy = 0 ∨ wy = 1 ∨ wy = 2 ∨ wy = 3 ∨ wy = 4 ∨ wy = 5 ∨ wy = 6 ∨ wy = 7 ∨ wy = 8 ∨ wy = 9 := by omega
        · exact ⟨_, rfl, dtS tc1 (by omega)⟩
        · exact ⟨_, rfl, dtS (sub c2 l2 m2) (by omega)⟩
        · exact ⟨_, rfl, dtS ⟨by have := tc6.1; omega, tc6.2⟩ (by omega)⟩
        · exact ⟨_, rfl, dtS ⟨by have := tc10.1; omega, tc10.2⟩ (by omega)⟩
        · exact ⟨_, rfl, dtS tx0 (by omega)⟩
        · exact ⟨_, rfl, dtS tc11 (by omega)⟩
        · exact ⟨_, rfl, Dt.non⟩
        · exact ⟨_, rfl, (Dt.lst (n5.sm _ _ (n4.sm _ _ (n3.sm _ _ n2.at'))) ((al3.sm n1.sm).ne n2.fr) (Ds.one (n := 1) (k := 0) (dtS ty (by omega)))).up (by omega) (by omega)⟩
        · exact ⟨_, rfl, (Dt.tup (n5.sm _ _ (n4.sm _ _ n3.at')) (Ds.one (n := 1) (k := 0) (dtS ty (by omega)))).up (by omega) (by omega)⟩
        · exact ⟨_, rfl, dtS tc12 (by omega)⟩
      exact ⟨_, rfl, o5, _, _, _, rfl, rfl, SqL.of n5.at', ev, KK v J5 S5 hv⟩
    · -- a number, a truth, None
      rw [hs]
      refine iteF ⟨_, rfl, (by show 2 ≤ 10000; decide), fun o3 H3 n3 => ⟨x, o3, d, E', rfl, hx.mono n3.sm.toE, SqT.of n3.at', _, rfl, ?_⟩⟩
      rw [hq]
      refine iteT ⟨_, rfl, _, _, _, _, rfl, (hx.mono n3.sm.toE).ty, kit_int d, _, rfl, ifE (fun v H' => H' = H3 ∧ ∃ i, nOf v = some i ∧ Sz (200 + z) i ∧ Dt z E' H3 v 1 0) ?rest ?h1 ?h2⟩
      case h1 =>
        intro e rest
        obtain ⟨i, a1, a2, a3⟩ := hi e
        exact ⟨_, rfl, rest _ _ ⟨rfl, i, a1, a2, a3.sm n3.sm⟩⟩
      case h2 =>
        intro e rest
        have z0 : Sz (200 + z) (0 : Int) := by show (0 : Int).natAbs < _; exact Nat.lt_of_lt_of_le (show 0 < 2 ^ 1 by decide) (Nat.pow_le_pow_right (by decide) (by omega))
        exact rest _ _ ⟨rfl, 0, rfl, z0, Dt.int z0⟩
      case rest =>
      rintro v _ ⟨rfl, i, hi, hsz, hdv⟩
      obtain ⟨dv, hv1, hv2⟩ := hdv
      obtain ⟨mv, _, wv⟩ := hv2.wt (by omega)
      have o1 : Sz 1900 (1 : Int) := by show (1 : Int).natAbs < _; exact Nat.lt_of_lt_of_le (show 1 < 2 ^ 1 by decide) (Nat.pow_le_pow_right (by decide) (by decide))
      refine ⟨_, rfl, i, 1, hi, rfl, _, rfl, i, 1, hi, rfl, _, rfl, i, 4, hi, rfl, _, rfl, i, hi, _, rfl, 2, i, rfl, hi, by decide, by decide, _, rfl, dv, .int 1, E', E', _, _, _, 0, hv1, .int 1, wv, .int o1, by decide, ?_⟩
      refine ⟨_, rfl, (by show 1 ≤ 10000; decide), fun o4 J4 n4 => ⟨(by show 10 ≤ 10000; decide), fun o5 J5 n5 => ?_⟩⟩
      have S5 := (n3.sm.trans n4.sm).trans n5.sm
      obtain ⟨y, ey, hy⟩ : ∃ y, atI [V.int (i + 1), .int (i - 1), .int (i + 4), .int (-i), .int (2 * i), .bl (PyData.eqv dv (.int 1)), .non, .str (Str.ofString "1"), .int 0, .ref o4] wy = some y ∧ Dt (z + 1) E' J5 y (3 * N + 10) (k + 2) := by
        obtain rfl | rfl | rfl | rfl | rfl | rfl | rfl | rfl | rfl | rfl : wy = 0 ∨ wy = 1 ∨ wy = 2 ∨ wy = 3 ∨ wy = 4 ∨ wy = 5 ∨ wy = 6 ∨ wy = 7 ∨ wy = 8 ∨ wy = 9 := by omega
        · exact ⟨_, rfl, Dt.int (sz_up hsz (by omega))⟩
        · exact ⟨_, rfl, Dt.int (sz_up hsz (by omega))⟩
        · exact ⟨_, rfl, Dt.int (sz_up hsz (by omega))⟩
        · exact ⟨_, rfl, Dt.int (sz_up hsz (by omega))⟩
        · exact ⟨_, rfl, Dt.int (sz_up hsz (by omega))⟩
        · exact ⟨_, rfl, Dt.bl _⟩
        · exact ⟨_, rfl, Dt.non⟩
        · refine ⟨_, rfl, dtS tx1 ?_⟩
          have q4 : 4 ^ (z + 1) = 4 * 4 ^ z := by rw [Nat.pow_succ, Nat.mul_comm]
          have q1 : 1 ≤ 4 ^ z := Nat.one_le_pow _ _ (by decide)
          omega
        · exact ⟨_, rfl, Dt.int (sz_up hsz (by omega))⟩
        · refine ⟨_, rfl, (Dt.lst (n5.sm _ _ n4.at') ?_ (Ds.one (n := 1) (k := 0) ((Dt.more ⟨dv, hv1, hv2⟩ (by omega)).sm (n4.sm.trans n5.sm)))).up (by omega) (by omega)⟩
          exact (al2.sm n3.sm).ne n4.fr
      exact ⟨_, rfl, o5, _, _, _, rfl, rfl, SqL.of n5.at', ey, KK y J5 S5 hy⟩
    · -- a list or a tuple
      rw [hs]
      refine iteF ⟨_, rfl, (by show 2 ≤ 10000; decide), fun o3 H3 n3 => ⟨.ref o, o3, d, E', rfl, hx.mono n3.sm.toE, SqT.of n3.at', _, rfl, ?_⟩⟩
      rw [hq]
      have ly := dys.len
      have lq : ∀ J, Same H2 J → LenV K (.ref o) J ys.length := fun J sJ => by
        have := sq K J sJ.toE
        cases c with
        | true => exact .inl ⟨ys, this, rfl⟩
        | false => exact .inr ⟨ys, this, rfl⟩
      have lq2 : ∀ J, Same H2 J → SqL K J o ys ∨ SqT K J o ys := fun J sJ => by
        have := sq K J sJ.toE
        cases c with
        | true => exact .inl this
        | false => exact .inr this
      refine iteF ⟨_, rfl, _, rfl, _, _, rfl, lq _ n3.sm, _, _, rfl, rfl, _, _, rfl, rfl, by omega, _, rfl, o, ys, rfl, lq2 _ n3.sm, fun so H4 n4 => ⟨_, _, rfl, ?_⟩⟩
      refine ⟨_, rfl, _, rfl, _, rfl, so, ys, rfl, SqL.of n4.at', fun ao H5 n5 => ⟨_, rfl, _, rfl, _, rfl, so, ys, rfl, SqL.of (n5.sm _ _ n4.at'), fun bo J0 n6 => ⟨_, _, rfl, ?_⟩⟩⟩
      have S0 := ((n3.sm.trans n4.sm).trans n5.sm).trans n6.sm
      have hso : J0 so = some (.lst ys) := n6.sm _ _ (n5.sm _ _ n4.at')
      have hao := n6.sm _ _ n5.at'
      have hbo := n6.at'
      have D0 := dys.sm S0
      have Da := D0.cut none (some (sp % ((ys.length : Int) + 1)))
      have Db := D0.cut (some (sp % ((ys.length : Int) + 1))) none
      have al0 := al2.sm S0
      generalize cutV ys none (some (sp % ((ys.length : Int) + 1))) = as at hao Da
      generalize cutV ys (some (sp % ((ys.length : Int) + 1))) none = bs at hbo Db
      have la := Da.len
      have lb := Db.len
      have lc : ∀ lo hi, (cutV bs lo hi).length ≤ m := fun lo hi => Nat.le_trans (cutV_length _ _ _) lb
      -- 0: a + b[1:]
      refine ⟨_, rfl, _, rfl, _, rfl, bo, bs, rfl, SqL.of hbo, fun u1 J1 m1 => ⟨ao, u1, _, _, rfl, rfl, m1.sm _ _ hao, m1.at', by have := lc (some 1) none; omega, fun u2 J2 m2 => ?_⟩⟩
      -- 1: a + b[:1] + b
      have T2 := m1.sm.trans m2.sm
      refine ⟨_, rfl, _, rfl, _, rfl, bo, bs, rfl, SqL.of (T2 _ _ hbo), fun u3 J3 m3 => ⟨ao, u3, _, _, rfl, rfl, m3.sm _ _ (T2 _ _ hao), m3.at', by have := lc none (some 1); omega, fun u4 J4 m4 => ?_⟩⟩
      have T4 := (T2.trans m3.sm).trans m4.sm
      refine ⟨_, rfl, u4, bo, _, _, rfl, rfl, m4.at', T4 _ _ hbo, by have := lc none (some 1); rw [List.length_append]; omega, fun u5 J5 m5 => ?_⟩
      -- 2: a + b[:2][::-1] + b[2:]
      have T5 := T4.trans m5.sm
      refine ⟨_, rfl, _, rfl, _, rfl, bo, bs, rfl, SqL.of (T5 _ _ hbo), fun u6 J6 m6 => ⟨_, rfl, _, rfl, rfl, u6, _, rfl, SqL.of m6.at', fun u7 J7 m7 => ?_⟩⟩
      have T7 := (T5.trans m6.sm).trans m7.sm
      refine ⟨ao, u7, _, _, rfl, rfl, T7 _ _ hao, m7.at', by have := lc none (some 2); rw [List.length_reverse]; omega, fun u8 J8 m8 => ?_⟩
      have T8 := T7.trans m8.sm
      refine ⟨_, rfl, _, rfl, bo, bs, rfl, SqL.of (T8 _ _ hbo), fun u9 J9 m9 => ⟨u8, u9, _, _, rfl, rfl, m9.sm _ _ m8.at', m9.at', by have := lc none (some 2); have := lc (some 2) none; rw [List.length_append, List.length_reverse]; omega, fun u10 J10 m10 => ?_⟩⟩
      -- 3: a + [(0, 1)] + b
      have T10 := (T8.trans m9.sm).trans m10.sm
      refine ⟨_, rfl, (by show 2 ≤ 10000; decide), fun u11 J11 m11 => ⟨(by show 1 ≤ 10000; decide), fun u12 J12 m12 => ?_⟩⟩
      have T12 := (T10.trans m11.sm).trans m12.sm
      refine ⟨ao, u12, _, _, rfl, rfl, T12 _ _ hao, m12.at', by show as.length + 1 ≤ 10000; omega, fun u13 J13 m13 => ?_⟩
      have T13 := T12.trans m13.sm
      refine ⟨_, rfl, u13, bo, _, _, rfl, rfl, m13.at', T13 _ _ hbo, by rw [List.length_append]; show as.length + 1 + bs.length ≤ 10000; omega, fun u14 J14 m14 => ?_⟩
      -- 4: some[::-1]
      have T14 := T13.trans m14.sm
      refine ⟨_, rfl, _, rfl, _, rfl, rfl, so, ys, rfl, SqL.of (T14 _ _ hso), fun u15 J15 m15 => ?_⟩
      -- 5: b + a
      have T15 := T14.trans m15.sm
      refine ⟨_, rfl, _, rfl, bo, ao, _, _, rfl, rfl, T15 _ _ hbo, T15 _ _ hao, by omega, fun u16 J16 m16 => ?_⟩
      -- 6: a + [None] + b[1:]
      have T16 := T15.trans m16.sm
      refine ⟨_, rfl, (by show 1 ≤ 10000; decide), fun u17 J17 m17 => ?_⟩
      have T17 := T16.trans m17.sm
      refine ⟨ao, u17, _, _, rfl, rfl, T17 _ _ hao, m17.at', by show as.length + 1 ≤ 10000; omega, fun u18 J18 m18 => ?_⟩
      have T18 := T17.trans m18.sm
      refine ⟨_, rfl, _, rfl, bo, bs, rfl, SqL.of (T18 _ _ hbo), fun u19 J19 m19 => ⟨u18, u19, _, _, rfl, rfl, m19.sm _ _ m18.at', m19.at', by have := lc (some 1) none; rw [List.length_append]; show as.length + 1 + _ ≤ 10000; omega, fun u20 J20 m20 => ?_⟩⟩
      have T20 := (T18.trans m19.sm).trans m20.sm
      refine ⟨(by show 7 ≤ 10000; decide), fun bl J21 m21 => ?_⟩
      have T21 := T20.trans m21.sm
      have S21 := S0.trans T21
      have R20 : Same J20 J21 := m21.sm
      have R16 : Same J16 J21 := (((m17.sm.trans m18.sm).trans m19.sm).trans m20.sm).trans R20
      have R15 : Same J15 J21 := m16.sm.trans R16
      have R14 : Same J14 J21 := m15.sm.trans R15
      have R11 : Same J11 J21 := ((m12.sm.trans m13.sm).trans m14.sm).trans R14
      have R10 : Same J10 J21 := m11.sm.trans R11
      have R5 : Same J5 J21 := ((((m6.sm.trans m7.sm).trans m8.sm).trans m9.sm).trans m10.sm).trans R10
      have R2 : Same J2 J21 := ((m3.sm.trans m4.sm).trans m5.sm).trans R5
      have Ea := Da.sm T21
      have Eb' := Db.sm T21
      have z01 : ∀ i : Int, i.natAbs ≤ 1 → Sz (200 + z) i := fun i hi => by show i.natAbs < _; exact Nat.lt_of_le_of_lt hi (Nat.lt_of_lt_of_le (show 1 < 2 ^ 1 by decide) (Nat.pow_le_pow_right (by decide) (by omega)))
      have pick : ∀ wy : Int, 0 ≤ wy → wy < 7 → ∃ u zs, atI [V.ref u2, .ref u5, .ref u10, .ref u14, .ref u15, .ref u16, .ref u20] wy = some (.ref u) ∧ J21 u = some (.lst zs) ∧ ¬ E' u ∧ Ds z E' J21 zs (3 * m + 8) (l + 1) := by
        intro wy w0 w1
        obtain rfl | rfl | rfl | rfl | rfl | rfl | rfl : wy = 0 ∨ wy = 1 ∨ wy = 2 ∨ wy = 3 ∨ wy = 4 ∨ wy = 5 ∨ wy = 6 := by omega
        · exact ⟨u2, _, rfl, R2 _ _ m2.at', (al0.sm m1.sm).ne m2.fr, (Ea.append (Eb'.cut _ _)).up (by omega) (by omega)⟩
        · exact ⟨u5, _, rfl, R5 _ _ m5.at', (al0.sm T4).ne m5.fr, ((Ea.append (Eb'.cut _ _)).append Eb').up (by omega) (by omega)⟩
        · exact ⟨u10, _, rfl, R10 _ _ m10.at', (al0.sm (T8.trans m9.sm)).ne m10.fr, ((Ea.append (Eb'.cut _ _).reverse).append (Eb'.cut _ _)).up (by omega) (by omega)⟩
        · refine ⟨u14, _, rfl, R14 _ _ m14.at', (al0.sm T13).ne m14.fr, (((Ea.up (Nat.le_refl _) (Nat.le_succ _)).append (Ds.one (n := 3) (k := l + 1) ?_)).append (Eb'.up (Nat.le_refl _) (Nat.le_succ _))).up (by omega) (Nat.le_refl _)⟩
          exact (Dt.tup (R11 _ _ m11.at') ((Ds.cons (m := 1) (Dt.int (n := 0) (k := 0) (z01 0 (by decide))) (Ds.one (n := 1) (Dt.int (n := 0) (z01 1 (by decide))))))).up (by omega) (by omega)
        · exact ⟨u15, _, rfl, R15 _ _ m15.at', (al0.sm T14).ne m15.fr, ((D0.sm T21).reverse).up (by omega) (by omega)⟩
        · exact ⟨u16, _, rfl, R16 _ _ m16.at', (al0.sm T15).ne m16.fr, (Eb'.append Ea).up (by omega) (by omega)⟩
        · exact ⟨u20, _, rfl, R20 _ _ m20.at', (al0.sm (T18.trans m19.sm)).ne m20.fr, ((Ea.append (Ds.one (n := 1) (Dt.non (n := 0)))).append (Eb'.cut _ _)).up (by omega) (by omega)⟩
      refine ⟨_, rfl, _, _, rfl, rfl, _, rfl, ite2 (fun c7 => ?_) (fun c7 => ?_)⟩
      · have w7 : wy < 7 := of_decide_eq_true c7
        obtain ⟨u, zs, eu, hu, nu, du⟩ := pick wy w0 w7
        refine ⟨_, rfl, _, _, _, _, rfl, (hx.mono S21.toE).ty, kit_tuple d, _, rfl, ?_⟩
        rw [htp]
        cases c with
        | false =>
          refine iteT ⟨_, rfl, _, rfl, bl, _, _, _, rfl, rfl, SqL.of m21.at', eu, u, zs, rfl, SqL.of hu, fun q J22 m22 => KK _ J22 (S21.trans m22.sm) ?_⟩
          exact ((Dt.tup m22.at' (du.sm m22.sm)).more (by omega)).up (by omega) (by omega)
        | true =>
          refine iteF ⟨_, rfl, _, rfl, bl, _, _, _, rfl, rfl, SqL.of m21.at', eu, KK _ J21 S21 ?_⟩
          exact ((Dt.lst hu nu du).more (by omega)).up (by omega) (by omega)
      · have w7 : ¬ wy < 7 := fun z => c7 (decide_eq_true z)
        refine ⟨_, rfl, _, _, _, _, rfl, (hx.mono S21.toE).ty, kit_list d, _, rfl, ifE (fun v H' => Same J21 H' ∧ Dt z E' H' v (m + 1) (l + 1)) ?rest ?h1 ?h2⟩
        case h1 =>
          intro _ rest
          exact ⟨_, rfl, so, ys, rfl, SqL.of (T21 _ _ hso), fun q J22 m22 => rest _ _ ⟨m22.sm, Dt.tup m22.at' ((D0.sm T21).sm m22.sm)⟩⟩
        case h2 =>
          intro _ rest
          exact ⟨_, rfl, rest _ _ ⟨Same.refl _, Dt.lst (T21 _ _ hso) ((al2.sm n3.sm).ne n4.fr) (D0.sm T21)⟩⟩
        case rest =>
        rintro v J22 ⟨S22, dv⟩
        refine ⟨_, rfl, (by show 1 ≤ 10000; decide), fun q1 J23 m23 => ⟨(by show 1 ≤ 10000; decide), fun q2 J24 m24 => ⟨(by show 3 ≤ 10000; decide), fun q3 J25 m25 => ?_⟩⟩⟩
        have S25 := ((S22.trans m23.sm).trans m24.sm).trans m25.sm
        obtain ⟨y, ey, hy⟩ : ∃ y, atI [v, .non, .ref q2] (wy - 7) = some y ∧ Dt (z + 1) E' J25 y (3 * N + 10) (k + 2) := by
          obtain rfl | rfl | rfl : wy = 7 ∨ wy = 8 ∨ wy = 9 := by omega
          · exact ⟨_, rfl, ((dv.sm ((m23.sm.trans m24.sm).trans m25.sm)).more (by omega)).up (by omega) (by omega)⟩
          · exact ⟨_, rfl, Dt.non⟩
          · refine ⟨_, rfl, ((Dt.tup (m25.sm _ _ m24.at') (Ds.one (Dt.tup (m25.sm _ _ (m24.sm _ _ m23.at')) (Ds.one (Dt.lst ((T21.trans S25) _ _ hso) ((al2.sm n3.sm).ne n4.fr) ((D0.sm T21).sm S25)))))).more (by omega)).up (by omega) (by omega)⟩
        exact ⟨_, rfl, _, _, rfl, rfl, q3, _, _, _, rfl, rfl, SqL.of m25.at', ey, KK y J25 (S21.trans S25) hy⟩
end
end K04

namespace K04
open PySem L2
theorem isNts {E : Addr → Prop} {H : Hp} : ∀ r : List Nat, IsAll E H (nts r) (r.map fun i : Nat => PyData.int ((i : Nat) : Int))
  | [] => .nil
  | _ :: r => .cons (.int _) (isNts r)
theorem split2 {F : Addr → Prop} {H : Hp} {x : V} {d e : PyData} {i : Nat} (h : IsD F H x d) (hk : kid d i = some e) : ∃ (o : Addr) (c : Bool) (ys : List V) (ds : List PyData), x = .ref o ∧ isTupB d = (!c) ∧ (∀ K H', Same H H' → SqC K H' o ys c) ∧ IsAll F H ys ds ∧ ds[i]? = some e ∧ ∀ z N k, Wg z d N k → ∃ m l, WgL z ds m l ∧ m + 1 ≤ N ∧ l + 1 ≤ k := by
  cases h with
  | @lst o ys ds h ne r => exact ⟨o, true, ys, ds, rfl, rfl, fun K H' s => SqL.of (s _ _ h), r, hk, fun z N k w => by cases w with | list h1 h2 h3 => exact ⟨_, _, h1, h2, h3⟩⟩
  | @tup o ys ds h r => exact ⟨o, false, ys, ds, rfl, rfl, fun K H' s => SqT.of (s _ _ h), r, hk, fun z N k w => by cases w with | tuple h1 h2 h3 => exact ⟨_, _, h1, h2, h3⟩⟩
  | _ => cases hk
theorem ixC {K : PySem.W.Frag} {J : Hp} {o : Addr} {ys : List V} {c : Bool} {i : Int} {v : V} {Q : VK} (h : SqC K J o ys c) (e : atI ys i = some v) (q : Q v J) : rIx K (.ref o) (.int i) J Q := by
  cases c with
  | true => exact .inl ⟨o, ys, i, v, rfl, rfl, h, e, q⟩
  | false => exact .inr (.inl ⟨o, ys, i, v, rfl, rfl, h, e, q⟩)
theorem sqC2 {K : PySem.W.Frag} {J : Hp} {o : Addr} {ys : List V} {c : Bool} (h : SqC K J o ys c) : SqL K J o ys ∨ SqT K J o ys := by
  cases c with
  | true => exact .inl h
  | false => exact .inr h
theorem okP_small {z : Nat} : ∀ {r : List Nat} {d : PyData} {n k : Nat}, Wg z d n k → okP r d → ∀ i ∈ r, i < n
  | [], _, _, _, _, _, i, hi => by cases hi
  | j :: r, d, n, k, h, ⟨e, h1, h2⟩, i, hi => by
    obtain ⟨l, hl, w⟩ := Wg.kid h h1
    rcases List.mem_cons.mp hi with rfl | hi
    · cases h with
      | @list xs m l _ _ h hn hk' =>
        have h3 : xs[i]? = some e := h1
        have := (List.getElem?_eq_some_iff.mp h3).1
        have := h.len
        omega
      | @tuple xs m l _ _ h hn hk' =>
        have h3 : xs[i]? = some e := h1
        have := (List.getElem?_eq_some_iff.mp h3).1
        have := h.len
        omega
      | _ => cases h1
    · exact okP_small w h2 i hi
theorem wt_nts {r : List Nat} {n : Nat} (hn : n ≤ 5000) (h : ∀ i ∈ r, i < n) : Wt (.list (r.map fun i : Nat => PyData.int ((i : Nat) : Int))) (1 * r.length + 1) 1 :=
  .list (wtL_map (m := 1) (k := 0) fun x hx => .int (by have := h x hx; show ((x : Nat) : Int).natAbs < 2 ^ 1900; exact Nat.lt_of_lt_of_le (show ((x : Nat) : Int).natAbs < 2 ^ 13 by omega) (Nat.pow_le_pow_right (by decide) (by decide))))
theorem wgSwap {z y : Nat} (hz : z ≤ y) : ∀ {xs : List PyData} {n k i : Nat} {e : PyData}, WgL z xs n k → xs[i]? = some e → ∃ m0, m0 ≤ n ∧ Wg z e m0 k ∧ ∀ d' m1 k', k ≤ k' → Wg y d' m1 k' → WgL y (xs.set i d') (n - m0 + m1) k'
  | [], _, _, _, _, _, he => by cases he
  | x :: xs, n, k, 0, e, .cons (m := m) (l := l) h r hn, he => by
    cases he
    exact ⟨m, by omega, h, fun d' m1 k' hk w => .cons (m := m1) (l := l) w ((r.more hz).up (Nat.le_refl _) hk) (by omega)⟩
  | x :: xs, n, k, i + 1, e, .cons (m := m) (l := l) h r hn, he => by
    obtain ⟨m0, h0, we, sw⟩ := wgSwap hz r (show xs[i]? = some e from he)
    exact ⟨m0, by omega, we, fun d' m1 k' hk w => .cons (m := m) (l := l - m0 + m1) ((h.more hz).up (Nat.le_refl _) hk) (sw d' m1 k' hk w) (by omega)⟩
section
variable {P : Program} {w : World} {K : PySem.W.Frag} {mg : Str → Option Value} {base : Heap}
def spWith (n : Nat) : Sp := fun vs H Q _ => ∃ (b q : Addr) (x : V) (t : Int) (d : PyData) (E : Addr → Prop) (r : List Nat) (z N k : Nat), vs = [.ref b, x, .ref q] ∧ Bx H b t ∧ 0 ≤ t ∧ t ≤ 900000 ∧ E b ∧ Al E H ∧ IsD E H x d ∧ Wg z d N k ∧ H q = some (.lst (nts r)) ∧ q ≠ b ∧ okP r d ∧ r.length + 1 ≤ n ∧ z ≤ 3 ∧ N ≤ 1500 ∧ k ≤ 20 ∧
  ∀ y t' H', SameE (Eb b) H H' → Dt (z + 1) E H' y (3 * N + 10) (k + 2) → Bx H' b t' → t ≤ t' → t' ≤ t + 3 → Q y H'
theorem ok_with (T : Txt K mg) : ∀ n, FnOk P w K mg base CX0 (n + 2) T.f_l_with T.d_l_with ["_law_box", "_law_thing", "_law_path"] (spWith n) := by
  have G_l_bent_part := ok_bent (P := P) (w := w) (base := base) T
  intro n
  induction n with
  | zero =>
    refine T.F_l_with.ok sc_l_with (fun vs H Q E h => ?_) (fun cdv A outer s H vs Q E hr h => ?_)
    · obtain ⟨_, _, _, _, _, _, _, _, _, _, _, _, _, _, _, _, _, _, _, _, _, z, _⟩ := h
      omega
    · obtain ⟨_, _, _, _, _, _, _, _, _, _, _, _, _, _, _, _, _, _, _, _, _, z, _⟩ := h
      omega
  | succ n G_l_with =>
  refine T.F_l_with.ok sc_l_with (fun vs H Q E h => ?_) (fun cdv A outer s H vs Q E hr h => ?_)
  · obtain ⟨_, _, _, _, _, _, _, _, _, _, rfl, _⟩ := h
    rfl
  · obtain ⟨b, q, x, t, d, E', r, z, N, k, rfl, B, ht0, ht1, hEb, hal, hx, wg, hq, hqb, hok, hrn, hz, hN, hk, K'⟩ := h
    refine ⟨_, (@pss_cons _ _ _ _ _ (@ps_if _ _ _ _ _ _ _ _ (@pt_cmpR _ _ _ _ _ _ _ _ (@op_eqD _ hr.units) (@pw _ 2 _ _ (Or.inl k_l_with_l_path) (by rfl) (by decide) (by decide)) (@pe_lstA _ _ _ _ (@pa_nil _)) (@nomark _ _ (by decide) (by decide))) (@pss_one _ _ _ (@ps_ret _ _ _ _ (@pe_call _ _ _ _ _ _ _ _ _ _ _ _ _ _ _ _ G_l_bent_part (hr.mono (by omega)) k_l_with_l_bent_part T.m_l_bent_part T.F_l_bent_part.kp T.B_l_bent_part .nil (@pass0 _) (@pa_c _ _ _ _ _ (@pw _ 0 _ _ (Or.inl k_l_with_l_box) (by rfl) (by decide) (by decide)) (@pa_c _ _ _ _ _ (@pw _ 1 _ _ (Or.inl k_l_with_l_thing) (by rfl) (by decide) (by decide)) (@pa_nil _) rfl) rfl) (by decide) (by rfl) (by rfl)))) (@pss_nil _)) (@pss_cons _ _ _ _ _ (@ps_set _ _ (3) _ _ _ _ sc_l_with.nd rfl (Or.inl k_l_with_l_found) (@pe_callTy _ _ _ _ _ _ _ _ _ (@call_list_ofA _ (K) (by rfl)) k_l_with_list T.b_list (@boot_ty_list) (@pa_c _ _ _ _ _ (@pw _ 1 _ _ (Or.inl k_l_with_l_thing) (by rfl) (by decide) (by decide)) (@pa_nil _) rfl) (by decide) (by decide) (by rfl) (by rfl)) (by rfl) (by first | exact .inl rfl | exact .inr rfl | assumption)) (@pss_cons _ _ _ _ _ (@ps_asg _ _ _ _ _ _ (@pe_call _ _ _ _ _ _ _ _ _ _ _ _ _ _ _ _ G_l_with (hr.mono (by omega)) k_l_with_l_with T.m_l_with T.F_l_with.kp T.B_l_with .nil (@pass0 _) (@pa_c _ _ _ _ _ (@pw _ 0 _ _ (Or.inl k_l_with_l_box) (by rfl) (by decide) (by decide)) (@pa_c _ _ _ _ _ (@pe_ix _ _ _ _ _ _ _ (@ix_k _ (K) (by rfl)) (@pw _ 1 _ _ (Or.inl k_l_with_l_thing) (by rfl) (by decide) (by decide)) (@pe_ix _ _ _ _ _ _ _ (@ixL_k _ (K) (by rfl)) (@pw _ 2 _ _ (Or.inl k_l_with_l_path) (by rfl) (by decide) (by decide)) (@pe_int _ _ _ _) (fun _ _ => rfl)) (fun _ _ => rfl)) (@pa_c _ _ _ _ _ (@pe_slice _ _ _ _ _ _ _ _ _ _ (@sl_listA _ (K) (by rfl)) (@pw _ 2 _ _ (Or.inl k_l_with_l_path) (by rfl) (by decide) (by decide)) (@po_some _ _ _ (@pe_int _ _ _ _)) (@po_none _)) (@pa_nil _) rfl) rfl) rfl) (by decide) (by rfl) (by rfl)) (@pg_sub _ _ _ _ _ _ _ (@pw _ 3 _ _ (Or.inl k_l_with_l_found) (by rfl) (by decide) (by decide)) (@pe_ix _ _ _ _ _ _ _ (@ixL_k _ (K) (by rfl)) (@pw _ 2 _ _ (Or.inl k_l_with_l_path) (by rfl) (by decide) (by decide)) (@pe_int _ _ _ _) (fun _ _ => rfl)) (@set_listA _) (by intro _; rfl)) (by rfl) (by rfl) (by rfl)) (@pss_one _ _ _ (@ps_ret _ _ _ _ (@pe_ifExp _ _ _ _ _ _ _ _ (@pt_val _ _ _ (@pe_callB _ _ _ _ _ _ _ _ _ (@isinst_k _ (K) (by rfl)) k_l_with_isinstance T.b_isinstance (@boot_b_isinstance) (@pa_c _ _ _ _ _ (@pw _ 1 _ _ (Or.inl k_l_with_l_thing) (by rfl) (by decide) (by decide)) (@pa_c _ _ _ _ _ (@pe_ty _ _ _ _ k_l_with_tuple T.b_tuple (@boot_ty_tuple) (by decide) (by decide)) (@pa_nil _) rfl) rfl) (by decide) (by decide) (by rfl) (by rfl)) (by intro _; rfl)) (@pe_callTy _ _ _ _ _ _ _ _ _ (@call_tuple_ofA _ (K) (by rfl)) k_l_with_tuple T.b_tuple (@boot_ty_tuple) (@pa_c _ _ _ _ _ (@pw _ 3 _ _ (Or.inl k_l_with_l_found) (by rfl) (by decide) (by decide)) (@pa_nil _) rfl) (by decide) (by decide) (by rfl) (by rfl)) (@pw _ 3 _ _ (Or.inl k_l_with_l_found) (by rfl) (by decide) (by decide)))))))), ?_⟩
    refine ⟨_, rfl, (by show 0 ≤ 10000; decide), fun o1 H1 n1 => ⟨.list (r.map fun i : Nat => PyData.int ((i : Nat) : Int)), .list [], fun _ => False, fun _ => False, _, _, _, 1, .lst (n1.sm _ _ hq) id (isNts r), .lst n1.at' id .nil, wt_nts (by omega) (okP_small wg hok), .list .nil, by decide, _, rfl, ?_⟩⟩
    have s1 : SameE (Eb b) H H1 := n1.sm.toE
    cases r with
    | nil =>
      rw [eqv_nil]
      refine iteT ⟨_, rfl, _, rfl, b, x, t, E', z, N, k, rfl, B.same n1.sm, ht0, ht1, hEb, hal.sm n1.sm, ⟨d, hx.mono n1.sm.toE, wg⟩, hz, hN, hk, fun y t' H' s' dy B' h1 h2 => K' y t' H' (s1.trans s') dy B' h1 h2⟩
    | cons i r' =>
      rw [eqv_nil]
      obtain ⟨e, hkid, hok'⟩ := hok
      obtain ⟨o, c, ys, ds, rfl, htp, sq, ia, he, hw⟩ := split2 hx hkid
      obtain ⟨m, l, wl, hm, hl⟩ := hw z N k wg
      have hil : i < ys.length := by rw [ia.length]; exact (List.getElem?_eq_some_iff.mp he).1
      obtain ⟨e', he', hv⟩ := ia.get (List.getElem?_eq_getElem hil)
      rw [he] at he'
      cases he'
      obtain ⟨m0, hm0, we, swp⟩ := wgSwap (Nat.le_succ z) wl he
      have hq1 := n1.sm _ _ hq
      have hat0 : atI (nts (i :: r')) 0 = some (V.int (i : Int)) := atI_nat (xs := nts (i :: r')) (j := 0) rfl
      refine iteF ⟨_, rfl, o, ys, rfl, sqC2 (sq _ _ n1.sm), fun D H2 n2 => ?_⟩
      have hDH : H D = none := Same.free n1.sm n2.fr
      have s02 := n1.sm.trans n2.sm
      have hq2 := n2.sm _ _ hq1
      refine ⟨_, rfl, _, rfl, _, rfl, q, _, _, _, rfl, rfl, SqL.of hq2, hat0, ixC (sq _ _ s02) (atI_nat (List.getElem?_eq_getElem hil)) ?_⟩
      refine ⟨_, rfl, _, rfl, q, _, rfl, SqL.of hq2, fun q3 H3 n3 => ?_⟩
      rw [cutV_drop1] at n3
      have s03 := s02.trans n3.sm
      have B3 := B.same s03
      have hD3 : H3 D = some (.lst ys) := n3.sm _ _ n2.at'
      have nDb : ¬ D = b := fun z => B.ne hDH z.symm
      have al3 : Al (fun a => E' a ∨ a = D) H3 := fun a ha => ha.elim (fun q => hal.sm s03 a q) (fun q => by rw [q, hD3]; intro z; cases z)
      refine ⟨b, q3, ys[i], t, e, fun a => E' a ∨ a = D, r', z, m0, l, rfl, B3, ht0, ht1, .inl hEb, al3, (hv.plus hDH).mono s03.toE, we, n3.at', (fun z => (B.same s02).ne n3.fr z.symm), hok', by simp at hrn; omega, hz, by omega, by omega, fun y t4 H4 s4 dy B4 h4a h4b => ?_⟩
      have hD4 : H4 D = some (.lst ys) := s4.old D _ nDb hD3
      have hq4 := s4.old q _ hqb (n3.sm _ _ hq2)
      have s04 : SameE (Eb b) H H4 := s03.toE.trans s4
      refine ⟨_, rfl, _, rfl, q, _, _, _, rfl, rfl, SqL.of hq4, hat0, D, ys, (i : Int), i, rfl, rfl, hD4, (by unfold ixN; rw [if_pos (by omega), if_pos (by omega)]; rfl), fun H5 c5 => ?_⟩
      have s05 := s04.ch c5 hDH
      have B5 := B4.ch c5 (Ne.symm nDb)
      have dy5 : Dt (z + 1) E' H5 y (3 * m0 + 10) (l + 2) := (dy.sE ⟨fun a u ne h => c5.ol a u (fun z => ne (.inr z)) h, fun a us h => c5.tup h hD4⟩).narrow fun _ h => .inl h
      obtain ⟨dy', hy1, hy2⟩ := dy5
      have dset : Ds (z + 1) E' H5 (ys.set i y) (m - m0 + (3 * m0 + 10)) (l + 2) := ⟨ds.set i dy', (ia.mono (s05.weak hEb)).set hy1 i, swp _ _ _ (by omega) hy2⟩
      refine ⟨_, rfl, _, _, _, _, rfl, (hx.mono (s05.weak hEb)).ty, kit_tuple d, _, rfl, ?_⟩
      rw [htp]
      cases c with
      | false =>
        refine iteT ⟨_, rfl, D, _, rfl, SqL.of c5.at', fun p H6 n6 => K' _ t4 H6 (s05.trans n6.sm.toE) ?_ (B5.same n6.sm) h4a h4b⟩
        exact (Dt.tup n6.at' (dset.sm n6.sm)).up (by omega) (by omega)
      | true =>
        refine iteF ⟨_, rfl, K' _ t4 H5 s05 ?_ B5 h4a h4b⟩
        exact (Dt.lst c5.at' (hal.ne hDH) dset).up (by omega) (by omega)
def spSpoilt : Sp := fun vs H Q _ => ∃ (b : Addr) (x : V) (t : Int) (E : Addr → Prop) (z N k : Nat), vs = [.ref b, x] ∧ Bx H b t ∧ 0 ≤ t ∧ t ≤ 900000 - 1 ∧ E b ∧ Al E H ∧ Dt z E H x N k ∧ z ≤ 3 ∧ N ≤ 1500 ∧ k ≤ 8 ∧
  ∀ y t' H', SameE (Eb b) H H' → Dt (z + 1) E H' y (3 * N + 10) (k + 2) → Bx H' b t' → t ≤ t' → t' ≤ t + 4 → Q y H'
theorem ok_spoilt (T : Txt K mg) : FnOk P w K mg base CX0 14 T.f_l_spoilt T.d_l_spoilt ["_law_box", "_law_thing"] spSpoilt := by
  have G_l_paths_to := ok_paths (P := P) (w := w) (base := base) T 9
  have G_l_with := ok_with (P := P) (w := w) (base := base) T 9
  have G_l_take := ok_take (P := P) (w := w) (base := base) T
  refine T.F_l_spoilt.ok sc_l_spoilt (fun vs H Q E h => ?_) (fun cdv A outer s H vs Q E hr h => ?_)
  · obtain ⟨b, x, t, E', z, N, k, rfl, _⟩ := h
    rfl
  · obtain ⟨b, x, t, E', z, N, k, rfl, B, ht0, ht1, hEb, hal, ⟨d, hx, wg⟩, hz, hN, hk, K'⟩ := h
    refine ⟨_, (@pss_cons _ _ _ _ _ (@ps_set _ _ (2) _ _ _ _ sc_l_spoilt.nd rfl (Or.inl k_l_spoilt_l_some) (@pe_call _ _ _ _ _ _ _ _ _ _ _ _ _ _ _ _ G_l_paths_to (hr.mono (by decide)) k_l_spoilt_l_paths_to T.m_l_paths_to T.F_l_paths_to.kp T.B_l_paths_to .nil (@pass0 _) (@pa_c _ _ _ _ _ (@pw _ 1 _ _ (Or.inl k_l_spoilt_l_thing) (by rfl) (by decide) (by decide)) (@pa_c _ _ _ _ _ (@pe_lstA _ _ _ _ (@pa_nil _)) (@pa_nil _) rfl) rfl) (by decide) (by rfl) (by rfl)) (by rfl) (by first | exact .inl rfl | exact .inr rfl | assumption)) (@pss_one _ _ _ (@ps_ret _ _ _ _ (@pe_call _ _ _ _ _ _ _ _ _ _ _ _ _ _ _ _ G_l_with (hr.mono (by decide)) k_l_spoilt_l_with T.m_l_with T.F_l_with.kp T.B_l_with .nil (@pass0 _) (@pa_c _ _ _ _ _ (@pw _ 0 _ _ (Or.inl k_l_spoilt_l_box) (by rfl) (by decide) (by decide)) (@pa_c _ _ _ _ _ (@pw _ 1 _ _ (Or.inl k_l_spoilt_l_thing) (by rfl) (by decide) (by decide)) (@pa_c _ _ _ _ _ (@pe_ix _ _ _ _ _ _ _ (@ixL_k _ (K) (by rfl)) (@pw _ 2 _ _ (Or.inl k_l_spoilt_l_some) (by rfl) (by decide) (by decide)) (@pe_call _ _ _ _ _ _ _ _ _ _ _ _ _ _ _ _ G_l_take (hr.mono (by decide)) k_l_spoilt_l_take T.m_l_take T.F_l_take.kp T.B_l_take .nil (@pass0 _) (@pa_c _ _ _ _ _ (@pw _ 0 _ _ (Or.inl k_l_spoilt_l_box) (by rfl) (by decide) (by decide)) (@pa_c _ _ _ _ _ (@pe_callB _ _ _ _ _ _ _ _ _ (@len_k _ (K) (by rfl)) k_l_spoilt_len T.b_len (@boot_b_len) (@pa_c _ _ _ _ _ (@pw _ 2 _ _ (Or.inl k_l_spoilt_l_some) (by rfl) (by decide) (by decide)) (@pa_nil _) rfl) (by decide) (by decide) (by rfl) (by rfl)) (@pa_nil _) rfl) rfl) (by decide) (by rfl) (by rfl)) (fun _ _ => rfl)) (@pa_nil _) rfl) rfl) rfl) (by decide) (by rfl) (by rfl))))), ?_⟩
    refine ⟨_, rfl, (by show 0 ≤ 10000; decide), fun p H1 n1 => ?_⟩
    refine ⟨x, p, d, E', E', [], z, N, k, rfl, hx.mono n1.sm.toE, n1.at', hal.sm n1.sm, hal.ne n1.fr, wg, by omega, by omega, by show 0 + k ≤ 100; omega, fun D xs H2 s2 hD2 e2 w2 l1 l2 => ?_⟩
    have s02 := n1.sm.trans s2
    have B2 := B.same s02
    have nDb : ¬ D = b := fun z => (B.same n1.sm).ne hD2 z.symm
    refine ⟨_, rfl, _, rfl, _, rfl, _, rfl, _, rfl, D, xs, rfl, .inl (SqL.of e2), b, _, t, rfl, B2, by omega, log9 (by omega) (by omega), ht0, by omega, fun ix t3 H3 i0 i1 h3a h3b s3 B3 => ?_⟩
    obtain ⟨v, hv⟩ : ∃ v, xs[ix.toNat]? = some v := ⟨_, List.getElem?_eq_getElem (show ix.toNat < xs.length by omega)⟩
    obtain ⟨q, r, rfl, neq, hq, hok⟩ := w2 v (List.mem_of_getElem? hv)
    rw [List.nil_append] at hq
    have hat := atI_nat hv
    rw [Int.toNat_of_nonneg i0] at hat
    have nqb : q ≠ b := fun z => neq (by rw [z]; exact hEb)
    have s03 : SameE (Eb b) H H3 := s02.toE.trans s3
    have rl := okP_len wg hok
    refine ⟨D, _, _, _, rfl, rfl, SqL.of (s3.old D _ nDb e2), hat, ?_⟩
    refine ⟨b, q, x, t3, d, E', r, z, N, k, rfl, B3, by omega, by omega, hEb, hal.sE s03 B3, hx.mono (s03.weak hEb), wg, s3.old q _ nqb hq, nqb, hok, by omega, hz, hN, by omega, fun y t4 H4 s4 dy B4 h4a h4b => K' y t4 H4 (s03.trans s4) dy B4 (by omega) (by omega)⟩
end
end K04

namespace K04
open PySem L2
theorem al_b {H : Hp} {b : Addr} {t : Int} (B : Bx H b t) : Al (Eb b) H := fun a ha z => by
  rw [show a = b from ha] at z
  exact B.ne z rfl
theorem name_true {l : List Nat} (h : NameC l) : nameB (.str (S l)) = true := by
  show ((decide (1 ≤ (S l).length) && decide ((S l).length ≤ 8)) && (S l).cps.toList.all azB) = true
  rw [S_len, decide_eq_true h.lo, decide_eq_true h.hi]
  refine List.all_eq_true.mpr fun c hc => ?_
  have := h.az c (by simpa [S] using hc)
  show (decide (97 ≤ c) && decide (c ≤ 122)) = true
  rw [decide_eq_true this.1, decide_eq_true this.2]; rfl
theorem in_true {ls : List (List Nat)} {l : List Nat} (h : l ∈ ls) : inB (ls.map fun l => .str (S l)) (.str (S l)) = true :=
  List.any_eq_true.mpr ⟨.str (S l), List.mem_map_of_mem h, by rw [eqv_ss]; exact decide_eq_true rfl⟩
theorem fr0_true {p : KM.Fra} {b : Nat} (h : Fb b p.1 p.2) (h0 : 0 ≤ p.1) : isFr0 (frD p) = true := by
  show ((decide (1 ≤ p.2) && decide (Int.gcd p.1 p.2 = 1)) && decide (0 ≤ p.1)) = true
  rw [decide_eq_true h.pos, decide_eq_true h.co, decide_eq_true h0]; rfl
theorem fr1_true {p : KM.Fra} {b : Nat} (h : Fb b p.1 p.2) (h0 : 1 ≤ p.1) : isFr1 (frD p) = true := by
  show ((decide (1 ≤ p.2) && decide (Int.gcd p.1 p.2 = 1)) && decide (0 < p.1)) = true
  rw [decide_eq_true h.pos, decide_eq_true h.co, decide_eq_true (show 0 < p.1 by omega)]; rfl
theorem tie_true {ls : List (List Nat)} {t : TieD} (h : TieC ls t) : tieB (ls.map fun l => .str (S l)) (tieD t) = true := by
  show (((inB _ (.str (S t.bg)) && inB _ (.str (S t.en))) && !PyData.eqv (.str (S t.bg)) (.str (S t.en))) && (isFr0 (frD t.most) && (isFr1 (frD t.gain) && isFr0 (frD t.price)))) = true
  rw [in_true h.b, in_true h.e, eqv_ss, decide_eq_false (fun z => h.ne (S_inj z)), fr0_true h.fm h.m0, fr1_true h.fg h.g1, fr0_true h.fp h.p0]; rfl
theorem net_true {ls : List (List Nat)} {ts : List TieD} (h2 : 2 ≤ ls.length) (nd : ls.Nodup) (nc : ∀ l ∈ ls, NameC l) (tc : ∀ x ∈ ts, TieC ls x) : netB (netD ls ts) = true := by
  show (((!(ls.map fun l => PyData.str (S l)).isEmpty && (ls.map fun l => PyData.str (S l)).all nameB) && decide ((ls.map fun l => PyData.str (S l)).map strOfD).Nodup) && (ts.map tieD).all (tieB (ls.map fun l => .str (S l)))) = true
  have e1 : (ls.map fun l => PyData.str (S l)).isEmpty = false := by
    cases ls with
    | nil => simp at h2
    | cons _ _ => rfl
  have e2 : (ls.map fun l => PyData.str (S l)).all nameB = true := List.all_eq_true.mpr fun d hd => by
    obtain ⟨l, hl, rfl⟩ := List.mem_map.mp hd
    exact name_true (nc l hl)
  have e3 : ((ls.map fun l => PyData.str (S l)).map strOfD).Nodup := by
    rw [List.map_map]
    exact (nodup_map_iff (f := strOfD ∘ fun l => PyData.str (S l)) fun a b h => S_inj h).mpr nd
  have e4 : (ts.map tieD).all (tieB (ls.map fun l => .str (S l))) = true := List.all_eq_true.mpr fun d hd => by
    obtain ⟨t, ht, rfl⟩ := List.mem_map.mp hd
    exact tie_true (tc t ht)
  rw [e1, e2, decide_eq_true e3, e4]; rfl
/-! weights -/
theorem wgs_name {l : List Nat} (h : NameC l) : Wg 2 (.str (S l)) 1 0 := .str (by rw [S_len]; have := h.hi; show _ ≤ 16; omega) (fun c hc => by have := h.az c (by simpa [S] using hc); omega) (Nat.le_refl _)
theorem wgs_fr {p : KM.Fra} {b : Nat} (h : Fb b p.1 p.2) (hb : b ≤ 202) : Wg 2 (frD p) 3 1 := .tuple (m := 2) (l := 0) (.cons (m := 1) (l := 1) (.int (h.sn.mono hb) (Nat.le_refl _)) (.cons (m := 1) (l := 0) (.int (h.sd.mono hb) (Nat.le_refl _)) .nil (by decide)) (by decide)) (by decide) (by decide)
theorem wgs_tie {ls : List (List Nat)} {t : TieD} (hl : ∀ l ∈ ls, NameC l) (h : TieC ls t) : Wg 2 (tieD t) 12 2 :=
  .tuple (m := 11) (l := 1) (.cons (m := 1) (l := 10) ((wgs_name (hl _ h.b)).up (by decide) (by decide)) (.cons (m := 1) (l := 9) ((wgs_name (hl _ h.e)).up (by decide) (by decide)) (.cons (m := 3) (l := 6) (wgs_fr h.fm (by decide)) (.cons (m := 3) (l := 3) (wgs_fr h.fg (by decide)) (.cons (m := 3) (l := 0) (wgs_fr h.fp (by decide)) .nil (by decide)) (by decide)) (by decide)) (by decide)) (by decide)) (by decide) (by decide)
theorem wgL_map {α : Type} {f : α → PyData} {z m k : Nat} : ∀ {xs : List α}, (∀ x ∈ xs, Wg z (f x) m k) → WgL z (xs.map f) (m * xs.length) k
  | [], _ => .nil
  | x :: r, h => .cons (m := m) (l := m * r.length) (h x (by simp)) (wgL_map fun y hy => h y (List.mem_cons_of_mem _ hy)) (by rw [List.length_cons, Nat.mul_succ, Nat.add_comm]; exact Nat.le_refl _)
section
variable {P : Program} {w : World} {K : PySem.W.Frag} {mg : Str → Option Value} {base : Heap}
def spLaw (K : PySem.W.Frag) : Sp := fun vs H Q _ => ∃ (a : Addr) (ns : List Int), vs = [.ref a] ∧ SqL K H a (ns.map V.int) ∧ ns.length ≤ 63 ∧ ∀ H', Q (.bl true) H'
theorem law_start {H : Hp} {a : Addr} {ns : List Int} (hl : ns.length ≤ 63) (_ : Only H) (hS : SqL K H a (ns.map V.int)) : spLaw K [.ref a] H (fun v _ => v = .bl true) fun _ _ _ => False :=
  ⟨a, ns, rfl, hS, hl, fun _ => rfl⟩
set_option maxHeartbeats 1000000 in
theorem law_ok (T : Txt K mg) : FnOk P w K mg base CX0 40 T.f_law T.d_law ["_law_script"] (spLaw K) := by
  have G_l_folded := ok_folded (P := P) (w := w) (base := base) T
  have G_l_box_of := ok_box_of (P := P) (w := w) (base := base) T
  have G_l_net_by := ok_net_by (P := P) (w := w) (base := base) T
  have G_is_net := ok_is_net (P := P) (w := w) (base := base) T
  have G_l_spoilt := ok_spoilt (P := P) (w := w) (base := base) T
  have G_l_asked := ok_asked4 (P := P) (w := w) (base := base) T
  refine T.F_law.ok sc_law (fun vs H Q E h => ?_) (fun cdv A outer s H vs Q E hr h => ?_)
  · obtain ⟨a, ns, rfl, _⟩ := h
    rfl
  · obtain ⟨a, ns, rfl, hS, hn, k⟩ := h
    refine ⟨_, (@pss_cons _ _ _ _ _ (@ps_set _ _ (1) _ _ _ _ sc_law.nd rfl (Or.inl k_law_l_cells) (@pe_call _ _ _ _ _ _ _ _ _ _ _ _ _ _ _ _ G_l_folded (hr.mono (by decide)) k_law_l_folded T.m_l_folded T.F_l_folded.kp T.B_l_folded .nil (@pass0 _) (@pa_c _ _ _ _ _ (@pw _ 0 _ _ (Or.inl k_law_l_script) (by rfl) (by decide) (by decide)) (@pa_c _ _ _ _ _ (@pe_int _ _ _ _) (@pa_nil _) rfl) rfl) (by decide) (by rfl) (by rfl)) (by rfl) (by first | exact .inl rfl | exact .inr rfl | assumption)) (@pss_cons _ _ _ _ _ (@ps_for _ _ _ _ _ _ _ _ PassesOwn.never rfl (@pi_range1 _ _ _ _ _ _ k_law_range T.b_range (@pa_c _ _ _ _ _ (@pe_callB _ _ _ _ _ _ _ _ _ (@len_k _ (K) (by rfl)) k_law_len T.b_len (@boot_b_len) (@pa_c _ _ _ _ _ (@pw _ 1 _ _ (Or.inl k_law_l_cells) (by rfl) (by decide) (by decide)) (@pa_nil _) rfl) (by decide) (by decide) (by rfl) (by rfl)) (@pa_nil _) rfl) (by rfl)) (@pg_name _ _ (2) _ sc_law.nd rfl (Or.inl k_law_l_k) (by first | exact .inl rfl | exact .inr rfl | assumption)) (@pss_cons _ _ _ _ _ (@ps_set _ _ (3) _ _ _ _ sc_law.nd rfl (Or.inl k_law_l_box) (@pe_call _ _ _ _ _ _ _ _ _ _ _ _ _ _ _ _ G_l_box_of (hr.mono (by decide)) k_law_l_box_of T.m_l_box_of T.F_l_box_of.kp T.B_l_box_of .nil (@pass0 _) (@pa_c _ _ _ _ _ (@pw _ 1 _ _ (Or.inl k_law_l_cells) (by rfl) (by decide) (by decide)) (@pa_c _ _ _ _ _ (@pw _ 2 _ _ (Or.inl k_law_l_k) (by rfl) (by decide) (by decide)) (@pa_nil _) rfl) rfl) (by decide) (by rfl) (by rfl)) (by rfl) (by first | exact .inl rfl | exact .inr rfl | assumption)) (@pss_cons _ _ _ _ _ (@ps_set _ _ (4) _ _ _ _ sc_law.nd rfl (Or.inl k_law_l_net) (@pe_call _ _ _ _ _ _ _ _ _ _ _ _ _ _ _ _ G_l_net_by (hr.mono (by decide)) k_law_l_net_by T.m_l_net_by T.F_l_net_by.kp T.B_l_net_by .nil (@pass0 _) (@pa_c _ _ _ _ _ (@pw _ 3 _ _ (Or.inl k_law_l_box) (by rfl) (by decide) (by decide)) (@pa_c _ _ _ _ _ (@pe_int _ _ _ _) (@pa_c _ _ _ _ _ (@pe_int _ _ _ _) (@pa_nil _) rfl) rfl) rfl) (by decide) (by rfl) (by rfl)) (by rfl) (by first | exact .inl rfl | exact .inr rfl | assumption)) (@pss_cons _ _ _ _ _ (@ps_if _ _ _ _ _ _ _ _ (@pt_cmpR _ _ _ _ _ _ _ _ (@op_notB _) (@pe_call _ _ _ _ _ _ _ _ _ _ _ _ _ _ _ _ G_is_net (hr.mono (by decide)) k_law_is_net T.m_is_net T.F_is_net.kp T.B_is_net .nil (@pass0 _) (@pa_c _ _ _ _ _ (@pw _ 4 _ _ (Or.inl k_law_l_net) (by rfl) (by decide) (by decide)) (@pa_nil _) rfl) (by decide) (by rfl) (by rfl)) (@pe_bl _ _ _ _) (@nomark _ _ (by decide) (by decide))) (@pss_one _ _ _ (@ps_ret _ _ _ _ (@pe_bl _ _ _ _))) (@pss_nil _)) (@pss_cons _ _ _ _ _ (@ps_set _ _ (5) _ _ _ _ sc_law.nd rfl (Or.inl k_law_l_things) (@pe_lstA _ _ _ _ (@pa_c _ _ _ _ _ (@pw _ 4 _ _ (Or.inl k_law_l_net) (by rfl) (by decide) (by decide)) (@pa_c _ _ _ _ _ (@pe_ix _ _ _ _ _ _ _ (@ixT_k _ (K) (by rfl)) (@pw _ 4 _ _ (Or.inl k_law_l_net) (by rfl) (by decide) (by decide)) (@pe_int _ _ _ _) (fun _ _ => rfl)) (@pa_c _ _ _ _ _ (@pe_ix _ _ _ _ _ _ _ (@ixT_k _ (K) (by rfl)) (@pw _ 4 _ _ (Or.inl k_law_l_net) (by rfl) (by decide) (by decide)) (@pe_int _ _ _ _) (fun _ _ => rfl)) (@pa_c _ _ _ _ _ (@pe_callTy _ _ _ _ _ _ _ _ _ (@call_list_ofA _ (K) (by rfl)) k_law_list T.b_list (@boot_ty_list) (@pa_c _ _ _ _ _ (@pw _ 4 _ _ (Or.inl k_law_l_net) (by rfl) (by decide) (by decide)) (@pa_nil _) rfl) (by decide) (by decide) (by rfl) (by rfl)) (@pa_c _ _ _ _ _ (@pe_tupA _ _ _ _ _ (@pa_c _ _ _ _ _ (@pe_ix _ _ _ _ _ _ _ (@ixT_k _ (K) (by rfl)) (@pw _ 4 _ _ (Or.inl k_law_l_net) (by rfl) (by decide) (by decide)) (@pe_int _ _ _ _) (fun _ _ => rfl)) (@pa_nil _) rfl)) (@pa_c _ _ _ _ _ (@pe_op _ _ _ _ _ _ _ _ (@op_catTA _ (K) (by rfl)) (@pw _ 4 _ _ (Or.inl k_law_l_net) (by rfl) (by decide) (by decide)) (@pe_tupA _ _ _ _ _ (@pa_c _ _ _ _ _ (@pe_tupA _ _ _ _ _ (@pa_nil _)) (@pa_nil _) rfl))) (@pa_c _ _ _ _ _ (@pe_tupA _ _ _ _ _ (@pa_c _ _ _ _ _ (@pe_ix _ _ _ _ _ _ _ (@ixT_k _ (K) (by rfl)) (@pw _ 4 _ _ (Or.inl k_law_l_net) (by rfl) (by decide) (by decide)) (@pe_int _ _ _ _) (fun _ _ => rfl)) (@pa_c _ _ _ _ _ (@pe_tupA _ _ _ _ _ (@pa_nil _)) (@pa_nil _) rfl) rfl)) (@pa_c _ _ _ _ _ (@pe_tupA _ _ _ _ _ (@pa_c _ _ _ _ _ (@pe_slice _ _ _ _ _ _ _ _ _ _ (@sl_tupA _ (K) (by rfl)) (@pe_ix _ _ _ _ _ _ _ (@ixT_k _ (K) (by rfl)) (@pw _ 4 _ _ (Or.inl k_law_l_net) (by rfl) (by decide) (by decide)) (@pe_int _ _ _ _) (fun _ _ => rfl)) (@po_none _) (@po_some _ _ _ (@pe_int _ _ _ _))) (@pa_c _ _ _ _ _ (@pe_tupA _ _ _ _ _ (@pa_nil _)) (@pa_nil _) rfl) rfl)) (@pa_c _ _ _ _ _ (@pe_tupA _ _ _ _ _ (@pa_c _ _ _ _ _ (@pe_tupA _ _ _ _ _ (@pa_nil _)) (@pa_c _ _ _ _ _ (@pe_tupA _ _ _ _ _ (@pa_nil _)) (@pa_nil _) rfl) rfl)) (@pa_nil _) rfl) rfl) rfl) rfl) rfl) rfl) rfl) rfl) rfl)) (by rfl) (by first | exact .inl rfl | exact .inr rfl | assumption)) (@pss_cons _ _ _ _ _ (@ps_for _ _ _ _ _ _ _ _ PassesOwn.never rfl (@pi_range1 _ _ _ _ _ _ k_law_range T.b_range (@pa_c _ _ _ _ _ (@pe_int _ _ _ _) (@pa_nil _) rfl) (by rfl)) (@pg_name _ _ (6) _ sc_law.nd rfl (Or.inl k_law_l_turn) (by first | exact .inl rfl | exact .inr rfl | assumption)) (@pss_cons _ _ _ _ _ (@ps_set _ _ (7) _ _ _ _ sc_law.nd rfl (Or.inl k_law_l_bent) (@pe_call _ _ _ _ _ _ _ _ _ _ _ _ _ _ _ _ G_l_spoilt (hr.mono (by decide)) k_law_l_spoilt T.m_l_spoilt T.F_l_spoilt.kp T.B_l_spoilt .nil (@pass0 _) (@pa_c _ _ _ _ _ (@pw _ 3 _ _ (Or.inl k_law_l_box) (by rfl) (by decide) (by decide)) (@pa_c _ _ _ _ _ (@pw _ 4 _ _ (Or.inl k_law_l_net) (by rfl) (by decide) (by decide)) (@pa_nil _) rfl) rfl) (by decide) (by rfl) (by rfl)) (by rfl) (by first | exact .inl rfl | exact .inr rfl | assumption)) (@pss_one _ _ _ (@ps_set _ _ (5) _ _ _ _ sc_law.nd rfl (Or.inl k_law_l_things) (@pe_op _ _ _ _ _ _ _ _ (@op_catA _) (@pw _ 5 _ _ (Or.inl k_law_l_things) (by rfl) (by decide) (by decide)) (@pe_lstA _ _ _ _ (@pa_c _ _ _ _ _ (@pw _ 7 _ _ (Or.inl k_law_l_bent) (by rfl) (by decide) (by decide)) (@pa_c _ _ _ _ _ (@pe_call _ _ _ _ _ _ _ _ _ _ _ _ _ _ _ _ G_l_spoilt (hr.mono (by decide)) k_law_l_spoilt T.m_l_spoilt T.F_l_spoilt.kp T.B_l_spoilt .nil (@pass0 _) (@pa_c _ _ _ _ _ (@pw _ 3 _ _ (Or.inl k_law_l_box) (by rfl) (by decide) (by decide)) (@pa_c _ _ _ _ _ (@pw _ 7 _ _ (Or.inl k_law_l_bent) (by rfl) (by decide) (by decide)) (@pa_nil _) rfl) rfl) (by decide) (by rfl) (by rfl)) (@pa_nil _) rfl) rfl))) (by rfl) (by first | exact .inl rfl | exact .inr rfl | assumption)))) (by intro _; rfl)) (@pss_cons _ _ _ _ _ (@ps_set _ _ (8) _ _ _ _ sc_law.nd rfl (Or.inl k_law_l_odd) (@pe_lstA _ _ _ _ (@pa_c _ _ _ _ _ (@pe_non _ _ _) (@pa_c _ _ _ _ _ (@pe_bl _ _ _ _) (@pa_c _ _ _ _ _ (@pe_int _ _ _ _) (@pa_c _ _ _ _ _ (@pe_int _ _ _ _) (@pa_c _ _ _ _ _ (@pe_str _ _ _ _) (@pa_c _ _ _ _ _ (@pe_str _ _ _ _) (@pa_c _ _ _ _ _ (@pe_tupA _ _ _ _ _ (@pa_nil _)) (@pa_c _ _ _ _ _ (@pe_lstA _ _ _ _ (@pa_nil _)) (@pa_c _ _ _ _ _ (@pe_tupA _ _ _ _ _ (@pa_c _ _ _ _ _ (@pe_tupA _ _ _ _ _ (@pa_nil _)) (@pa_nil _) rfl)) (@pa_c _ _ _ _ _ (@pe_tupA _ _ _ _ _ (@pa_c _ _ _ _ _ (@pe_str _ _ _ _) (@pa_c _ _ _ _ _ (@pe_tupA _ _ _ _ _ (@pa_nil _)) (@pa_nil _) rfl) rfl)) (@pa_c _ _ _ _ _ (@pe_tupA _ _ _ _ _ (@pa_c _ _ _ _ _ (@pe_tupA _ _ _ _ _ (@pa_c _ _ _ _ _ (@pe_str _ _ _ _) (@pa_c _ _ _ _ _ (@pe_str _ _ _ _) (@pa_nil _) rfl) rfl)) (@pa_c _ _ _ _ _ (@pe_tupA _ _ _ _ _ (@pa_c _ _ _ _ _ (@pe_tupA _ _ _ _ _ (@pa_c _ _ _ _ _ (@pe_str _ _ _ _) (@pa_c _ _ _ _ _ (@pe_str _ _ _ _) (@pa_nil _) rfl) rfl)) (@pa_nil _) rfl)) (@pa_nil _) rfl) rfl)) (@pa_nil _) rfl) rfl) rfl) rfl) rfl) rfl) rfl) rfl) rfl) rfl) rfl)) (by rfl) (by first | exact .inl rfl | exact .inr rfl | assumption)) (@pss_one _ _ _ (@ps_if _ _ _ _ _ _ _ _ (@pt_not _ _ _ _ (@pt_val _ _ _ (@pe_callB _ _ _ _ _ _ _ _ _ (@all_k _ (K) rfl (by rfl)) k_law_all T.b_all (@boot_b_all) (@pa_c _ _ _ _ _ (@pe_comp _ _ _ _ _ _ _ (["_law_thing"]) (1) ([]) _ _ _ _ rfl (by kernel_rfl) (@pi_list_k _ (K) _ _ _ (@pe_op _ _ _ _ _ _ _ _ (@op_catA _) (@pw _ 5 _ _ (Or.inl k_law_l_things) (by rfl) (by decide) (by decide)) (@pw _ 8 _ _ (Or.inl k_law_l_odd) (by rfl) (by decide) (by decide))) (by rfl)) (fun _ _ _ _ _ _ => (@pg_name _ _ (0) _ (@nodupS _ (by kernel_rfl)) rfl (Or.inl (by kernel_rfl)) (by first | exact .inl rfl | exact .inr rfl | assumption))) (fun _ _ _ _ _ _ => @pifs_nil _) (fun _ _ _ _ _ _ => (@pe_call _ _ _ _ _ _ _ _ _ _ _ _ _ _ _ _ G_l_asked (hr.mono (by decide)) (by show _ = _; kernel_rfl) T.m_l_asked T.F_l_asked.kp T.B_l_asked .nil (@pass0 _) (@pa_c _ _ _ _ _ (@pw _ 0 _ _ (Or.inl (by kernel_rfl)) (by rfl) (by decide) (by decide)) (@pa_nil _) rfl) (by decide) (by rfl) (by rfl))) (by intro _; rfl)) (@pa_nil _) rfl) (by decide) (by decide) (by rfl) (by rfl)) (by intro _; rfl))) (@pss_one _ _ _ (@ps_ret _ _ _ _ (@pe_bl _ _ _ _))) (@pss_nil _))))))))) (by intro _; rfl)) (@pss_one _ _ _ (@ps_ret _ _ _ _ (@pe_bl _ _ _ _))))), ?_⟩
    refine seqH fun DA nA => ?_
    refine ⟨_, rfl, a, ns, 4, rfl, hS, hn, by decide, by decide, fun p ms H1 hp s1 hp1 hm2 hm6 => ?_⟩
    refine nA _ _ ?_
    refine ⟨_, rfl, p, _, rfl, .inl (SqL.of hp1), ((ms.map V.int).length : Int), rfl, ?_, ?_, ?_⟩
    · omega
    · rw [List.length_map]; omega
    refine for_range (fun i σ H' => ∃ v2 v3 v4 v5 v6 v7 v8, σ = [some (.ref a), some (.ref p), v2, v3, v4, v5, v6, v7, v8] ∧ H' p = some (.lst (ms.map V.int))) ⟨_, _, _, _, _, _, _, rfl, hp1⟩ ?_ ?_
    case refine_2 =>
      rintro σ H' ⟨v2, v3, v4, v5, v6, v7, v8, rfl, _⟩
      exact k _
    rintro i σ H2 hi ⟨v2, v3, v4, v5, v6, v7, v8, rfl, hp2⟩
    rw [List.length_map] at hi
    refine bodyH (t := tSeq _ _) fun DB nB => ?_
    refine seqH fun DC nC => ?_
    refine ⟨_, rfl, _, rfl, p, ms, _, rfl, SqL.of hp2, by omega, by omega, fun b H3 hb s3 B3 => ?_⟩
    refine nC _ _ ?_
    have npb : ¬ p = b := fun z => by rw [z, hb] at hp2; cases hp2
    refine seqH fun DD nD => ?_
    refine ⟨_, rfl, b, 0, rfl, B3, by decide, by decide, fun nv ls ts t4 H4 s4 iN l10 l2 l24 nd nc tc B4 h4a h4b => ?_⟩
    refine nD _ _ ?_
    have hp4 : H4 p = some (.lst (ms.map V.int)) := s4.old p _ npb (s3 _ _ hp2)
    have wn := wt_net nc tc
    refine seqH fun DE nE => ?_
    refine ⟨_, rfl, nv, netD ls ts, ED, _, _, rfl, iN, wn, by omega, by decide, fun H5 s5 => ⟨_, _, rfl, rfl, _, rfl, ?_⟩⟩
    have en : (!(netB (netD ls ts) == true)) = false := by rw [net_true l2 nd nc tc]; rfl
    rw [en]
    refine iteF ?_
    refine nE _ _ ?_
    have iN5 := iN.sm s5
    have B5 := B4.same s5
    have hp5 := s5 _ _ hp4
    have dNet : ∀ J, SameE (Eb b) H5 J → Dt 2 (Eb b) J nv 301 4 := fun J sJ => ⟨netD ls ts, (iN5.tupS (F := Eb b) sJ).any, .tuple (m := 300) (l := 3) (.cons (m := 11) (l := 289) ((Wg.tuple (m := 10) (l := 0) ((wgL_map (m := 1) (k := 0) fun l h => wgs_name (nc l h)).up (by omega) (Nat.le_refl _)) (by decide) (Nat.le_refl 1)).up (Nat.le_refl _) (by decide)) (.cons (m := 289) (l := 0) (Wg.tuple (m := 288) (l := 2) ((wgL_map (m := 12) (k := 2) fun t h => wgs_tie nc (tc t h)).up (by omega) (Nat.le_refl _)) (by decide) (Nat.le_refl 3)) .nil (by decide)) (by decide)) (by decide) (by decide)⟩
    obtain ⟨na, np, nq, ys, rfl, hna, hnp, hnq, iys⟩ := net_inv2 iN5
    have dP : ∀ J, Same H5 J → Dt 2 (Eb b) J (.ref np) 11 1 := fun J sJ => Dt.tup (n := 10) (k := 0) (sJ _ _ hnp) ⟨_, ((isStrs ls).narrow (E := ED) fun _ _ => trivial), (wgL_map (m := 1) (k := 0) fun l h => wgs_name (nc l h)).up (by omega) (Nat.le_refl _)⟩
    have dQ : ∀ J, Same H5 J → Dt 2 (Eb b) J (.ref nq) 289 3 := fun J sJ => Dt.tup (n := 288) (k := 2) (sJ _ _ hnq) ⟨_, ((iys.tupS (E := Eb b) sJ.toE).narrow fun _ _ => trivial), (wgL_map (m := 12) (k := 2) fun t h => wgs_tie nc (tc t h)).up (by omega) (Nat.le_refl _)⟩
    have at0 : atI [V.ref np, .ref nq] 0 = some (.ref np) := rfl
    have at1 : atI [V.ref np, .ref nq] 1 = some (.ref nq) := rfl
    have nb : ∀ {J : Hp} {u : Addr}, Same H5 J → J u = none → ¬ Eb b u := fun {J u} sJ hu z => (B5.same sJ).ne hu z.symm
    refine seqH fun DF nF => ?_
    refine ⟨_, rfl, _, rfl, na, _, _, _, rfl, rfl, SqT.of hna, at0, _, rfl, na, _, _, _, rfl, rfl, SqT.of hna, at1, _, rfl, na, _, rfl, .inr (SqT.of hna), fun u1 J1 e1 => ?_⟩
    have S1 := e1.sm
    refine ⟨_, rfl, na, _, _, _, rfl, rfl, SqT.of (S1 _ _ hna), at0, (by show 1 ≤ 10000; decide), fun u2 J2 e2 => ?_⟩
    have S2 := S1.trans e2.sm
    refine ⟨_, rfl, (by show 0 ≤ 10000; decide), fun u3 J3 e3 => ⟨(by show 1 ≤ 10000; decide), fun u4 J4 e4 => ?_⟩⟩
    have S3 := S2.trans e3.sm
    have S4 := S3.trans e4.sm
    refine ⟨na, u4, _, _, rfl, rfl, SqT.of (S4 _ _ hna), S4 _ _ hna, SqT.of e4.at', (by intro z; cases z), (by show 2 + 1 ≤ 10000; decide), fun u5 J5 m5 h5 => ?_⟩
    have S5 := S4.trans m5
    refine ⟨_, rfl, na, _, _, _, rfl, rfl, SqT.of (S5 _ _ hna), at0, (by show 0 ≤ 10000; decide), fun u6 J6 e6 => ⟨(by show 2 ≤ 10000; decide), fun u7 J7 e7 => ?_⟩⟩
    have S6 := S5.trans e6.sm
    have S7 := S6.trans e7.sm
    refine ⟨_, rfl, na, _, _, _, rfl, rfl, SqT.of (S7 _ _ hna), at0, _, rfl, np, _, rfl, SqT.of (S7 _ _ hnp), S7 _ _ hnp, fun u8 J8 m8 h8 => ?_⟩
    have S8 := S7.trans m8
    refine ⟨(by show 0 ≤ 10000; decide), fun u9 J9 e9 => ⟨(by show 2 ≤ 10000; decide), fun u10 J10 e10 => ?_⟩⟩
    have S9 := S8.trans e9.sm
    have S10 := S9.trans e10.sm
    refine ⟨(by show 0 ≤ 10000; decide), fun u11 J11 e11 => ⟨(by show 0 ≤ 10000; decide), fun u12 J12 e12 => ⟨(by show 2 ≤ 10000; decide), fun u13 J13 e13 => ?_⟩⟩⟩
    have S11 := S10.trans e11.sm
    have S12 := S11.trans e12.sm
    have S13 := S12.trans e13.sm
    refine ⟨(by show 9 ≤ 10000; decide), fun th J14 e14 => ?_⟩
    refine nF _ _ ?_
    have S14 := S13.trans e14.sm
    have R13 : Same J13 J14 := e14.sm
    have R12 : Same J12 J14 := e13.sm.trans R13
    have R11 : Same J11 J14 := e12.sm.trans R12
    have R10 : Same J10 J14 := e11.sm.trans R11
    have R9 : Same J9 J14 := e10.sm.trans R10
    have R8 : Same J8 J14 := e9.sm.trans R9
    have R7 : Same J7 J14 := m8.trans R8
    have R6 : Same J6 J14 := e7.sm.trans R7
    have R5 : Same J5 J14 := e6.sm.trans R6
    have R4 : Same J4 J14 := m5.trans R5
    have R3 : Same J3 J14 := e4.sm.trans R4
    have R2 : Same J2 J14 := e3.sm.trans R3
    have R1 : Same J1 J14 := e2.sm.trans R2
    have d0 : ∀ {u : Addr} {k : Nat}, J14 u = some (.tup []) → Dt 2 (Eb b) J14 (.ref u) 1 (k + 1) := fun {u k} h => (Dt.tup (n := 0) (k := 0) h Ds.nil).up (by decide) (by omega)
    have dp := dP _ S14
    have dq := dQ _ S14
    have all9 : ∀ v ∈ [V.ref na, .ref np, .ref nq, .ref u1, .ref u2, .ref u5, .ref u7, .ref u10, .ref u13], Dt 4 (Eb b) J14 v 2800 8 := by
      intro v hv
      refine Dt.more (z := 2) (Dt.up (n := 303) (k := 4) ?_ (by decide) (by decide)) (by decide)
      have hv' : v = .ref na ∨ v = .ref np ∨ v = .ref nq ∨ v = .ref u1 ∨ v = .ref u2 ∨ v = .ref u5 ∨ v = .ref u7 ∨ v = .ref u10 ∨ v = .ref u13 := by simpa using hv
      rcases hv' with rfl | rfl | rfl | rfl | rfl | rfl | rfl | rfl | rfl
      · exact (dNet _ S14.toE).up (by decide) (by decide)
      · exact dp.up (by decide) (by decide)
      · exact dq.up (by decide) (by decide)
      · exact (Dt.lst (R1 _ _ e1.at') (nb (Same.refl _) e1.fr) (Ds.cons (m := 11) (dp.up (Nat.le_refl _) (by decide)) (Ds.one dq))).up (by decide) (by decide)
      · exact (Dt.tup (R2 _ _ e2.at') (Ds.one dp)).up (by decide) (by decide)
      · exact (Dt.tup (R5 _ _ h5) (Ds.cons (m := 11) (dp.up (Nat.le_refl _) (by decide)) (Ds.cons (m := 289) dq (Ds.one (d0 (k := 2) (R3 _ _ e3.at')))))).up (by decide) (by decide)
      · exact (Dt.tup (R7 _ _ e7.at') (Ds.cons (m := 11) dp (Ds.one (d0 (k := 0) (R6 _ _ e6.at'))))).up (by decide) (by decide)
      · refine (Dt.tup (R10 _ _ e10.at') (Ds.cons (m := 11) (Dt.tup (n := 10) (k := 0) (R8 _ _ h8) (Ds.cut ?_ _ _)) (Ds.one (d0 (k := 0) (R9 _ _ e9.at'))))).up (by decide) (by decide)
        exact ⟨_, ((isStrs ls).narrow (E := ED) fun _ _ => trivial), (wgL_map (m := 1) (k := 0) fun l h => wgs_name (nc l h)).up (by omega) (Nat.le_refl _)⟩
      · exact (Dt.tup (R13 _ _ e13.at') (Ds.cons (m := 1) (d0 (k := 0) (R11 _ _ e11.at')) (Ds.one (d0 (k := 0) (R12 _ _ e12.at'))))).up (by decide) (by decide)
    have B14 := B5.same S14
    -- sixteen times
    refine seqH fun DG nG => ?_
    refine ⟨16, rfl, by decide, by decide, for_range (fun j σ H' => ∃ v6 v7 v8 th zs t', σ = [some (.ref a), some (.ref p), some (.int (0 + i)), some (.ref b), some (.ref na), some (.ref th), v6, v7, v8] ∧ H' th = some (.lst zs) ∧ th ≠ b ∧ zs.length = 9 + 2 * j ∧ (∀ v ∈ zs, Dt 4 (Eb b) H' v 2800 8) ∧ Bx H' b t' ∧ 0 ≤ t' ∧ t' ≤ 3000 + 8 * j ∧ SameE (Eb b) H5 H') ⟨_, _, _, th, _, t4, rfl, e14.at', fun z => (B5.same S13).ne e14.fr z.symm, rfl, all9, B14, by omega, by omega, S14.toE⟩ ?_ ?_⟩
    · rintro j σ K1 hj ⟨v6, v7, v8, th, zs, t5, rfl, eth, nth, lz, az, B5, h5a, h5b, s5⟩
      refine bodyH (t := tSeq _ _) fun DH nH => ?_
      refine seqH fun DI nI => ?_
      refine ⟨_, rfl, _, rfl, b, .ref na, t5, Eb b, 2, 301, 4, rfl, B5, h5a, by omega, rfl, al_b B5, dNet _ s5, by decide, by decide, by decide, fun y t6 K2 s6 dy B6 h6a h6b => ?_⟩
      refine nI _ _ ?_
      refine ⟨_, rfl, _, rfl, _, rfl, _, rfl, b, y, t6, Eb b, 3, 913, 6, rfl, B6, by omega, by omega, rfl, al_b B6, dy, by decide, by decide, by decide, fun y2 t7 K3 s7 dy2 B7 h7a h7b => ?_⟩
      have s57 := s6.trans s7
      refine ⟨(by show 2 ≤ 10000; decide), fun u K4 m4 => ⟨th, u, _, _, rfl, rfl, m4.sm _ _ (s57.old th _ nth eth), m4.at', (by show zs.length + 2 ≤ 10000; omega), fun th' K5 m5 => ?_⟩⟩
      have S35 := m4.sm.trans m5.sm
      refine nH _ _ ⟨_, _, _, th', _, t7, rfl, m5.at', fun z => (B7.same m4.sm).ne m5.fr z.symm, by rw [List.length_append, lz]; show 9 + 2 * j + 2 = _; omega, fun v hv => ?_, B7.same S35, by omega, by omega, (s5.trans s57).trans S35.toE⟩
      rcases List.mem_append.mp hv with hv | hv
      · exact ((az v hv).sE s57).sm S35
      · have hv' : v = y ∨ v = y2 := by simpa using hv
        rcases hv' with rfl | rfl
        · exact (((dy.sE s7).sm S35).more (by decide)).up (by decide) (by decide)
        · exact (dy2.sm S35).up (by decide) (by decide)
    · rintro σ K1 ⟨v6, v7, v8, th, zs, t5, rfl, eth, nth, lz, az, B6, h6a, h6b, s6⟩
      refine nG _ _ ?_
      have hp6 : K1 p = some (.lst (ms.map V.int)) := s6.old p _ npb hp5
      refine seqH fun DJ nJ => ?_
      refine ⟨(by show 0 ≤ 10000; decide), fun w1 L1 f1 => ⟨(by show 0 ≤ 10000; decide), fun w2 L2 f2 => ⟨(by show 0 ≤ 10000; decide), fun w3 L3 f3 => ⟨(by show 1 ≤ 10000; decide), fun w4 L4 f4 => ?_⟩⟩⟩⟩
      refine ⟨(by show 0 ≤ 10000; decide), fun w5 L5 f5 => ⟨(by show 2 ≤ 10000; decide), fun w6 L6 f6 => ⟨(by show 2 ≤ 10000; decide), fun w7 L7 f7 => ⟨(by show 2 ≤ 10000; decide), fun w8 L8 f8 => ?_⟩⟩⟩⟩
      refine ⟨(by show 1 ≤ 10000; decide), fun w9 L9 f9 => ⟨(by show 2 ≤ 10000; decide), fun w10 L10 f10 => ⟨(by show 11 ≤ 10000; decide), fun od L11 f11 => ?_⟩⟩⟩
      refine nJ _ _ ?_
      have Q10 : Same L10 L11 := f11.sm
      have Q9 : Same L9 L11 := f10.sm.trans Q10
      have Q8 : Same L8 L11 := f9.sm.trans Q9
      have Q7 : Same L7 L11 := f8.sm.trans Q8
      have Q6 : Same L6 L11 := f7.sm.trans Q7
      have Q5 : Same L5 L11 := f6.sm.trans Q6
      have Q4 : Same L4 L11 := f5.sm.trans Q5
      have Q3 : Same L3 L11 := f4.sm.trans Q4
      have Q2 : Same L2 L11 := f3.sm.trans Q3
      have Q1 : Same L1 L11 := f2.sm.trans Q2
      have S11 : Same K1 L11 := f1.sm.trans Q1
      have dn : ∀ {u : Addr} {k : Nat}, L11 u = some (.tup []) → Dt 4 (Eb b) L11 (.ref u) 1 (k + 1) := fun {u k} h => (Dt.tup (n := 0) (k := 0) h Ds.nil).up (by decide) (by omega)
      have di : ∀ (i : Int), i.natAbs ≤ 1 → Dt 4 (Eb b) L11 (.int i) 1 1 := fun i hi => Dt.int (n := 0) (Sz.mono (m := 1) (by show i.natAbs < 2; omega) (by decide))
      have da : Dt 4 (Eb b) L11 (.str (Str.ofString "a")) 1 1 := Dt.str (n := 0) (by decide +kernel) (by decide +kernel)
      have db : Dt 4 (Eb b) L11 (.str (Str.ofString "b")) 1 1 := Dt.str (n := 0) (by decide +kernel) (by decide +kernel)
      have dab : Dt 4 (Eb b) L11 (.str (Str.ofString "ab")) 1 1 := Dt.str (n := 0) (by decide +kernel) (by decide +kernel)
      have all11 : ∀ v ∈ [V.non, .bl true, .int 0, .int 1, .str (Str.ofString ""), .str (Str.ofString "ab"), .ref w1, .ref w2, .ref w4, .ref w6, .ref w10], Dt 4 (Eb b) L11 v 2800 8 := by
        intro v hv
        have hv' : v = .non ∨ v = .bl true ∨ v = .int 0 ∨ v = .int 1 ∨ v = .str (Str.ofString "") ∨ v = .str (Str.ofString "ab") ∨ v = .ref w1 ∨ v = .ref w2 ∨ v = .ref w4 ∨ v = .ref w6 ∨ v = .ref w10 := by simpa using hv
        rcases hv' with rfl | rfl | rfl | rfl | rfl | rfl | rfl | rfl | rfl | rfl | rfl
        · exact (Dt.non (n := 0) (k := 0)).up (by decide) (by decide)
        · exact (Dt.bl (n := 0) (k := 0) true).up (by decide) (by decide)
        · exact (di 0 (by decide)).up (by decide) (by decide)
        · exact (di 1 (by decide)).up (by decide) (by decide)
        · exact (Dt.str (n := 0) (k := 0) (by decide +kernel) (by decide +kernel)).up (by decide) (by decide)
        · exact dab.up (by decide) (by decide)
        · exact (dn (k := 0) (Q1 _ _ f1.at')).up (by decide) (by decide)
        · exact (Dt.lst (n := 0) (k := 0) (Q2 _ _ f2.at') (fun z => (B6.same f1.sm).ne f2.fr z.symm) Ds.nil).up (by decide) (by decide)
        · exact (Dt.tup (Q4 _ _ f4.at') (Ds.one (dn (k := 0) (Q3 _ _ f3.at')))).up (by decide) (by decide)
        · exact (Dt.tup (Q6 _ _ f6.at') (Ds.cons (m := 1) dab (Ds.one (dn (k := 0) (Q5 _ _ f5.at'))))).up (by decide) (by decide)
        · have p7 : Dt 4 (Eb b) L11 (.ref w7) 3 2 := Dt.tup (Q7 _ _ f7.at') (Ds.cons (m := 1) da (Ds.one db))
          have p8 : Dt 4 (Eb b) L11 (.ref w8) 3 2 := Dt.tup (Q8 _ _ f8.at') (Ds.cons (m := 1) da (Ds.one db))
          exact (Dt.tup (Q10 _ _ f10.at') (Ds.cons (m := 3) (p7.up (Nat.le_refl _) (Nat.le_succ _)) (Ds.one (Dt.tup (Q9 _ _ f9.at') (Ds.one p8))))).up (by decide) (by decide)
      refine ⟨_, rfl, _, rfl, th, od, _, _, rfl, rfl, S11 _ _ eth, f11.at', (by show zs.length + 11 ≤ 10000; omega), fun al L12 f12 => ?_⟩
      have allA : ∀ v ∈ zs ++ [V.non, .bl true, .int 0, .int 1, .str (Str.ofString ""), .str (Str.ofString "ab"), .ref w1, .ref w2, .ref w4, .ref w6, .ref w10], Dt 4 (Eb b) L12 v 2800 8 := fun v hv => (List.mem_append.mp hv).elim (fun h => (az v h).sm (S11.trans f12.sm)) (fun h => (all11 v h).sm f12.sm)
      have eal := f12.at'
      have lal : (zs ++ [V.non, .bl true, .int 0, .int 1, .str (Str.ofString ""), .str (Str.ofString "ab"), .ref w1, .ref w2, .ref w4, .ref w6, .ref w10]).length ≤ 10000 := by rw [List.length_append]; show zs.length + 11 ≤ 10000; omega
      generalize zs ++ [V.non, .bl true, .int 0, .int 1, .str (Str.ofString ""), .str (Str.ofString "ab"), .ref w1, .ref w2, .ref w4, .ref w6, .ref w10] = xs at allA eal lal
      refine ⟨al, rfl, ⟨_, SqL.of eal⟩, fun C hC => comp_mapL (xs := xs) (fun _ => .bl true) lal hC eal ?_ ?_⟩
      · intro j x H' R hx sm kk
        obtain ⟨d, hd, wd⟩ := (allA x (List.mem_of_getElem? hx)).sm sm
        obtain ⟨m, hm, wt⟩ := wd.wt (by decide)
        exact ⟨back1, _, rfl, x, d, Eb b, m, 8, rfl, hd, wt, by omega, by decide, fun H4 s4 => kk H4 s4⟩
      · intro K2 s2 hC2
        have e9 : (List.range xs.length).map (fun _ => V.bl true) = (List.replicate xs.length true).map V.bl := by
          rw [List.map_replicate, List.map_const', List.length_range]
        rw [e9] at hC2
        refine ⟨C, _, rfl, SqL.of hC2, _, rfl, ?_⟩
        rw [all_rep]
        exact iteF (nB _ _ ⟨_, _, _, _, _, _, _, rfl, s2 _ _ (f12.sm _ _ (S11 _ _ hp6))⟩)
end
end K04

open PySem PySem.W PyProof.Rows
set_option maxRecDepth 100000 in
set_option maxHeartbeats 0 in
theorem PySem.Challenge.cw_gainroads_k04_what_a_net_is_holds : PySem.Challenge.rw_gainroads_k04_what_a_net_is.Holds := by
  w_on; o_law; k_head; (case hw => w_witness2)
  k_fill
  refine L2.walk_ofK (l := PySem.Challenge.rw_gainroads_k04_what_a_net_is) (n := 63) (k := 40) (x := "_law_script") (CX := L2.CX0) (sp := K04.spLaw) rfl (by decide) rfl ⟨rfl, by decide, by decide, rfl⟩ (fun w h Y => PySem.W.kIn_of Y) ?F ?S ?C
  case F =>
    intro w mg fa h KX G hmg
    have T : ∃ T : K04.Txt (L2.KOf KX) mg, ∃ f, T.f_law = f ∧ (∀ (s : Shared) (u : Value), BindsTo s T.d_law ⟨[u], []⟩ [("_law_script", u)]) := by
      dsimp only [L2.KOf]
      refine' (fun z => Exists.elim z fun T y => ⟨T, _, y.1, y.2⟩) (K04.txt_mk KX G ?a0 ?l0 ?c0 ?k0 ?a1 ?l1 ?c1 ?k1 ?a2 ?l2 ?c2 ?k2 ?a3 ?l3 ?c3 ?k3 ?a4 ?l4 ?c4 ?k4 ?a5 ?l5 ?c5 ?k5 ?a6 ?l6 ?c6 ?k6 ?a7 ?l7 ?c7 ?k7 ?a8 ?l8 ?c8 ?k8 ?a9 ?l9 ?c9 ?k9 ?a10 ?l10 ?c10 ?k10 ?a11 ?l11 ?c11 ?k11 ?a12 ?l12 ?c12 ?k12 ?a13 ?l13 ?c13 ?k13 ?a14 ?l14 ?c14 ?k14 ?a15 ?l15 ?c15 ?k15 ?a16 ?l16 ?c16 ?k16 ?a17 ?l17 ?c17 ?k17 ?a18 ?l18 ?c18 ?k18 ?a19 ?l19 ?c19 ?k19 ?a20 ?l20 ?c20 ?k20 ?a21 ?l21 ?c21 ?k21 ?a22 ?l22 ?c22 ?k22 ?a23 ?l23 ?c23 ?k23 ?a24 ?l24 ?c24 ?k24 ?a25 ?l25 ?c25 ?k25 ?a26 ?l26 ?c26 ?k26 ?a27 ?l27 ?c27 ?k27 ?a28 ?l28 ?c28 ?k28 ?a29 ?l29 ?c29 ?k29 ?a30 ?l30 ?c30 ?k30 ?z0 ?z1 ?z2 ?z3 ?z4 ?z5 ?z6 ?z7 ?z8 ?z9 ?z10 ?z11 ?z12 ?z13)
      (case a0 => k_is)
      (case l0 => k_is)
      (case c0 => k_is)
      (case k0 => k_is)
      (case a1 => k_is)
      (case l1 => k_is)
      (case c1 => k_is)
      (case k1 => k_is)
      (case a2 => k_is)
      (case l2 => k_is)
      (case c2 => k_is)
      (case k2 => k_is)
      (case a3 => k_is)
      (case l3 => k_is)
      (case c3 => k_is)
      (case k3 => k_is)
      (case a4 => k_is)
      (case l4 => k_is)
      (case c4 => k_is)
      (case k4 => k_is)
      (case a5 => k_is)
      (case l5 => k_is)
      (case c5 => k_is)
      (case k5 => k_is)
      (case a6 => k_is)
      (case l6 => k_is)
      (case c6 => k_is)
      (case k6 => k_is)
      (case a7 => k_is)
      (case l7 => k_is)
      (case c7 => k_is)
      (case k7 => k_is)
      (case a8 => k_is)
      (case l8 => k_is)
      (case c8 => k_is)
      (case k8 => k_is)
      (case a9 => k_is)
      (case l9 => k_is)
      (case c9 => k_is)
      (case k9 => k_is)
      (case a10 => k_is)
      (case l10 => k_is)
      (case c10 => k_is)
      (case k10 => k_is)
      (case a11 => k_is)
      (case l11 => k_is)
      (case c11 => k_is)
      (case k11 => k_is)
      (case a12 => k_is)
      (case l12 => k_is)
      (case c12 => k_is)
      (case k12 => k_is)
      (case a13 => k_is)
      (case l13 => k_is)
      (case c13 => k_is)
      (case k13 => k_is)
      (case a14 => k_is)
      (case l14 => k_is)
      (case c14 => k_is)
      (case k14 => k_is)
      (case a15 => k_is)
      (case l15 => k_is)
      (case c15 => k_is)
      (case k15 => k_is)
      (case a16 => k_is)
      (case l16 => k_is)
      (case c16 => k_is)
      (case k16 => k_is)
      (case a17 => k_is)
      (case l17 => k_is)
      (case c17 => k_is)
      (case k17 => k_is)
      (case a18 => k_is)
      (case l18 => k_is)
      (case c18 => k_is)
      (case k18 => k_is)
      (case a19 => k_is)
      (case l19 => k_is)
      (case c19 => k_is)
      (case k19 => k_is)
      (case a20 => k_is)
      (case l20 => k_is)
      (case c20 => k_is)
      (case k20 => k_is)
      (case a21 => k_is)
      (case l21 => k_is)
      (case c21 => k_is)
      (case k21 => k_is)
      (case a22 => k_is)
      (case l22 => k_is)
      (case c22 => k_is)
      (case k22 => k_is)
      (case a23 => k_is)
      (case l23 => k_is)
      (case c23 => k_is)
      (case k23 => k_is)
      (case a24 => k_is)
      (case l24 => k_is)
      (case c24 => k_is)
      (case k24 => k_is)
      (case a25 => k_is)
      (case l25 => k_is)
      (case c25 => k_is)
      (case k25 => k_is)
      (case a26 => k_is)
      (case l26 => k_is)
      (case c26 => k_is)
      (case k26 => k_is)
      (case a27 => k_is)
      (case l27 => k_is)
      (case c27 => k_is)
      (case k27 => k_is)
      (case a28 => k_is)
      (case l28 => k_is)
      (case c28 => k_is)
      (case k28 => k_is)
      (case a29 => k_is)
      (case l29 => k_is)
      (case c29 => k_is)
      (case k29 => k_is)
      (case a30 => k_is)
      (case l30 => k_is)
      (case c30 => k_is)
      (case k30 => k_is)
      (case z0 => k_is)
      (case z1 => k_is)
      (case z2 => k_is)
      (case z3 => k_is)
      (case z4 => k_is)
      (case z5 => k_is)
      (case z6 => k_is)
      (case z7 => k_is)
      (case z8 => k_is)
      (case z9 => k_is)
      (case z10 => k_is)
      (case z11 => k_is)
      (case z12 => k_is)
      (case z13 => k_is)
    obtain ⟨T, f, rfl, hb⟩ := T
    have e0 := hmg.symm.trans T.m_law
    cases e0
    exact ⟨T.d_law, hb, fun base kb nb => K04.law_ok T⟩
  case S => exact fun K H a ns hl hO hS => K04.law_start hl hO hS
  case C => exact fun _ _ _ _ z => z

