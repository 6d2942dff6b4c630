import PyProof.Rows.All
import Wide.All
import OpenK.AllK
import Wide.FinOn
import Lean
import PyProof.EqAt
import PyProof.EqKinds
import PyProof.TupleCall
import PyProof.CompFree
import PyProof.CompMap
import KE.LcSums
import PyProof.ZipIter
import PyProof.Draws
import KE.KRevSl
import KE.KListMore
import PyProof.Rows.StrJoin2
import PyProof.Rows.StrFin3
import PyProof.StrOps2
import PyProof.NeData
import PyProof.P3Eq
import PyProof.StrLawsRepr
import PyProof.ReprLen
import PyProof.Rows.IntBool
import PyProof.SliceStr2
import PyProof.P3In
import PyProof.Rows.StrLen
import KE.KStrOpen
import PyProof.FitsInt
import PyProof.Rows.ReprOcc
import PyProof.ListRange
import PySem.Challenge.RW_gainroads_k09_gains_along_ways
set_option Elab.async false
set_option linter.all false
set_option maxRecDepth 100000
set_option genSizeOf false
set_option genInjectivity false
namespace L2
inductive Ex2 {α0 α1 : Type} (p : α0 → α1 → Prop) : Prop
  | mk (a0 : α0) (a1 : α1) (h : p a0 a1)
inductive Ex3 {α0 α1 α2 : Type} (p : α0 → α1 → α2 → Prop) : Prop
  | mk (a0 : α0) (a1 : α1) (a2 : α2) (h : p a0 a1 a2)
inductive Ex4 {α0 α1 α2 α3 : Type} (p : α0 → α1 → α2 → α3 → Prop) : Prop
  | mk (a0 : α0) (a1 : α1) (a2 : α2) (a3 : α3) (h : p a0 a1 a2 a3)
inductive Ex5 {α0 α1 α2 α3 α4 : Type} (p : α0 → α1 → α2 → α3 → α4 → Prop) : Prop
  | mk (a0 : α0) (a1 : α1) (a2 : α2) (a3 : α3) (a4 : α4) (h : p a0 a1 a2 a3 a4)
inductive Ex6 {α0 α1 α2 α3 α4 α5 : Type} (p : α0 → α1 → α2 → α3 → α4 → α5 → Prop) : Prop
  | mk (a0 : α0) (a1 : α1) (a2 : α2) (a3 : α3) (a4 : α4) (a5 : α5) (h : p a0 a1 a2 a3 a4 a5)
inductive Ex9 {α0 α1 α2 α3 α4 α5 α6 α7 α8 : Type} (p : α0 → α1 → α2 → α3 → α4 → α5 → α6 → α7 → α8 → Prop) : Prop
  | mk (a0 : α0) (a1 : α1) (a2 : α2) (a3 : α3) (a4 : α4) (a5 : α5) (a6 : α6) (a7 : α7) (a8 : α8) (h : p a0 a1 a2 a3 a4 a5 a6 a7 a8)
inductive Ex10 {α0 α1 α2 α3 α4 α5 α6 α7 α8 α9 : Type} (p : α0 → α1 → α2 → α3 → α4 → α5 → α6 → α7 → α8 → α9 → Prop) : Prop
  | mk (a0 : α0) (a1 : α1) (a2 : α2) (a3 : α3) (a4 : α4) (a5 : α5) (a6 : α6) (a7 : α7) (a8 : α8) (a9 : α9) (h : p a0 a1 a2 a3 a4 a5 a6 a7 a8 a9)
end L2
set_option genSizeOf true
set_option genInjectivity true
local macro_rules | `(tactic| trivial) => `(tactic| first | lia | omega)
namespace L2
open PySem PySem.Spec PyProof.Rows
abbrev Key := Sum Int Str
def keyIs : Key → Value → Bool
  | .inl k, v => Value.isInt k v
  | .inr x, v => Value.isStrOf x v
def keyH (w : World) : Key → Int
  | .inl k => hashInt k
  | .inr x => hashStr w x
theorem keyIs_shape : ∀ {k : Key} {v : Value}, keyIs k v = true → (Ex2 fun i t => k = Sum.inl i ∧ v = Value.int i t) ∨ (Ex2 fun x t => k = Sum.inr x ∧ v = Value.str x t)
  | .inl i, v, h => by
    obtain ⟨t, e⟩ := Value.isInt_shape (k := i) (v := v) h
    exact .inl ⟨i, t, rfl, e⟩
  | .inr x, v, h => by
    obtain ⟨t, e⟩ := Value.isStrOf_shape (x := x) (v := v) h
    exact .inr ⟨x, t, rfl, e⟩
theorem keyIs_int (i : Int) (t : Tok) : keyIs (.inl i) (.int i t) = true := by simp [keyIs, Value.isInt]
theorem keyIs_str (x : Str) (t : Tok) : keyIs (.inr x) (.str x t) = true := by simp [keyIs, Value.isStrOf]
theorem key_ll (a b : Int) : decide ((Sum.inl a : Key) = Sum.inl b) = (a == b) := by
  by_cases e : a = b
  · subst e; simp
  · have h : ¬ (Sum.inl a : Key) = Sum.inl b := fun q => e (Sum.inl.inj q)
    rw [decide_eq_false h]
    exact (beq_eq_false_iff_ne.mpr e).symm
theorem key_rr (a b : Str) : decide ((Sum.inr a : Key) = Sum.inr b) = decide (a = b) := by
  by_cases e : a = b
  · subst e; simp
  · have h : ¬ (Sum.inr a : Key) = Sum.inr b := fun q => e (Sum.inr.inj q)
    rw [decide_eq_false h, decide_eq_false e]
theorem key_lr (a : Int) (b : Str) : decide ((Sum.inl a : Key) = Sum.inr b) = false := decide_eq_false (fun q => nomatch q)
theorem key_rl (a : Str) (b : Int) : decide ((Sum.inr a : Key) = Sum.inl b) = false := decide_eq_false (fun q => nomatch q)
def mixKind (prog : Program) (w : World) : PySem.KeyKind prog w Key where
  is := keyIs
  hash := keyH w
  inj := fun v a b ha hb => by
    rcases keyIs_shape ha with ⟨i, t, rfl, rfl⟩ | ⟨x, t, rfl, rfl⟩
    · rcases keyIs_shape hb with ⟨j, u, rfl, e⟩ | ⟨y, u, rfl, e⟩
      · injection e with e1 _; rw [e1]
      · exact nomatch e
    · rcases keyIs_shape hb with ⟨j, u, rfl, e⟩ | ⟨y, u, rfl, e⟩
      · exact nomatch e
      · injection e with e1 _; rw [e1]
  byValue := fun k v h => by
    rcases keyIs_shape h with ⟨i, t, rfl, rfl⟩ | ⟨x, t, rfl, rfl⟩ <;> rfl
  pyHash := fun hv h => by
    rcases keyIs_shape hv with ⟨i, t, rfl, rfl⟩ | ⟨x, t, rfl, rfl⟩
    · exact wpAny_pyHash_int h
    · exact wpAny_pyHash_str h
  eqBool := fun hu hv h => by
    rcases keyIs_shape hu with ⟨i, t, rfl, rfl⟩ | ⟨x, t, rfl, rfl⟩
    · rcases keyIs_shape hv with ⟨j, u, rfl, rfl⟩ | ⟨y, u, rfl, rfl⟩
      · rw [key_ll] at h; exact wpAny_eqBool_int h
      · rw [key_lr] at h; exact SeqAt.EqAt.int_str i t y u _ _ _ _ h
    · rcases keyIs_shape hv with ⟨j, u, rfl, rfl⟩ | ⟨y, u, rfl, rfl⟩
      · rw [key_rl] at h; exact SeqAt.EqAt.str_int x t j u _ _ _ _ h
      · rw [key_rr] at h; exact wpAny_eqBool_str h
  «strs» := fun k x t v h => by
    rcases keyIs_shape h with ⟨i, u, rfl, e⟩ | ⟨y, u, rfl, e⟩
    · exact nomatch e
    · injection e with e1 _
      subst e1
      cases v <;> rfl
end L2
namespace L2
open PySem PySem.Spec PyProof.Rows
inductive V where
  | non | bl (b : Bool) | int (i : Int) | str (x : Str) | byt (b : Array UInt8) | flt (b : UInt64) | ref (a : Addr) | ty (n : String)
  deriving DecidableEq
def RelV : V → Value → Prop
  | .non, u => u = Value.none
  | .bl b, u => u = Value.bool b
  | .int i, u => ∃ t, u = Value.int i t
  | .str x, u => ∃ t, u = Value.str x t
  | .byt b, u => ∃ t, u = Value.bytes b t
  | .flt b, u => ∃ t, u = Value.float b t
  | .ref a, u => u = Value.ref a
  | .ty n, u => u = Value.type n
abbrev Vals : List V → List Value → Prop := Paired RelV
theorem Vals.length {xs : List V} {us : List Value} (r : Vals xs us) : xs.length = us.length := Paired.length r
theorem Vals.get : ∀ {xs : List V} {us : List Value} {i : Nat} {x : V}, Vals xs us → xs[i]? = some x → ∃ u, us[i]? = some u ∧ RelV x u
  | _, _, _, _, .nil, e => by simp at e
  | _, _, 0, _, .cons r _, e => by simp at e; subst e; exact ⟨_, rfl, r⟩
  | _, _, i + 1, x, .cons _ t, e => by
    obtain ⟨u, h1, h2⟩ := Vals.get (i := i) (x := x) t (by simpa using e)
    exact ⟨u, by simpa using h1, h2⟩
theorem Vals.set {x : V} {u : Value} (r : RelV x u) : ∀ {xs : List V} {us : List Value} (i : Nat), Vals xs us → Vals (xs.set i x) (us.set i u)
  | _, _, _, .nil => .nil
  | _, _, 0, .cons _ t => .cons r t
  | _, _, i + 1, .cons q t => .cons q (Vals.set r i t)
theorem Vals.append : ∀ {xs ys : List V} {us ws : List Value}, Vals xs us → Vals ys ws → Vals (xs ++ ys) (us ++ ws)
  | _, _, _, _, .nil, s => s
  | _, _, _, _, .cons r t, s => .cons r (Vals.append t s)
theorem Vals.take : ∀ {xs : List V} {us : List Value} (n : Nat), Vals xs us → Vals (xs.take n) (us.take n)
  | _, _, 0, _ => .nil
  | _, _, _ + 1, .nil => .nil
  | _, _, n + 1, .cons r t => .cons r (Vals.take n t)
theorem Vals.drop : ∀ {xs : List V} {us : List Value} (n : Nat), Vals xs us → Vals (xs.drop n) (us.drop n)
  | _, _, 0, r => r
  | _, _, _ + 1, .nil => .nil
  | _, _, n + 1, .cons _ t => Vals.drop n t
def RelO : Option V → Option Value → Prop
  | some v, some u => RelV v u
  | none, none => True
  | _, _ => False
def KV {κ : Type} : List (κ × V) → List (κ × Value) → Prop := Paired fun (p : κ × V) (q : κ × Value) => p.1 = q.1 ∧ RelV p.2 q.2
def kV : Key → V
  | .inl i => .int i
  | .inr x => .str x
inductive HO where
    | lst (xs : List V)
    | tup (xs : List V)
    | dK (kvs : List (Key × V)) | dT (kvs : List (List Key × V))
    | set (S : Int → Bool) (n : Nat)
    | ins (C dx : Addr) (fs : List (Str × V))
    | own (x : Addr)
    | xd (fs : List (Str × V))
    | met (f x : Addr)
    | rng (lo hi : Int)
    | frz (o : Obj) (u : HO)
    | tbl (ps : Array Value)
    | ext (φ : Heap → Prop)
abbrev Hp := Addr → Option HO
def upd (H : Hp) (a : Addr) (o : HO) : Hp := fun b => if b = a then some o else H b
theorem upd_same {H : Hp} {a : Addr} {o : HO} : upd H a o a = some o := by unfold upd; rw [if_pos rfl]
theorem upd_ne {H : Hp} {a b : Addr} {o : HO} (h : b ≠ a) : upd H a o b = H b := by unfold upd; rw [if_neg h]
theorem ne_of {H : Hp} {a b : Addr} {o u : HO} (h : H a = some o) (h' : H b = some u) (d : o ≠ u) : a ≠ b := by
  intro e; subst e; rw [h] at h'; exact d (Option.some.inj h')
theorem ne_of_none {H : Hp} {a b : Addr} {o : HO} (h : H a = some o) (h' : H b = none) : a ≠ b := by
  intro e; subst e; rw [h] at h'; cases h'
section
variable (P : Program) (w : World)
def ObjOk (H : Hp) (h : Heap) (a : Addr) : HO → Prop
  | .lst xs => xs.length ≤ sizeLine ∧ Ex2 fun (its : List Value) (n : Nat) => Vals xs its ∧ h.get? a = some { cls := .type "list", data := .seq its.toArray n }
  | .tup xs => xs.length ≤ sizeLine ∧ ∃ its : List Value, Vals xs its ∧ IsTup h a its.toArray ∧ ∃ o, h.get? a = some o ∧ o.dict = none
  | .dK kvs => kvs.length ≤ sizeLine ∧ (a == sysModules) = false ∧ ∃ vs, KV kvs vs ∧ h.DictOf (mixKind P w) a vs
  | .dT kvs => kvs.length ≤ sizeLine ∧ (a == sysModules) = false ∧ ∃ xs : List (List Key × Addr × Value),
      Paired (fun (p : List Key × V) (q : List Key × Addr × Value) => p.1 = q.1 ∧ H q.2.1 = some (.tup (p.1.map kV)) ∧ RelV p.2 q.2.2) kvs xs ∧
      Ex3 fun o es ep => h.get? a = some o ∧ o.ExactDict ∧ o.data = .dict es ep ∧ es.toList = xs.map (entryOfKey (tupleKind (mixKind P w))) ∧ (xs.map (·.1)).Nodup
  | .set S n => h.SetOf (intKind P w) a S n
  | .ins C dx fs => H dx = some (.own a) ∧ fs.length ≤ 1000 ∧ dx ≠ a ∧ h.get? a = some (PySem.W.instObj C dx) ∧
      ∃ mA, h.Ns1 dx mA ∧ (∀ f, RelO (fs.lookup f) (mA f)) ∧ PySem.Within mA (fs.map (·.1))
  | .own _ => ∃ o, h.get? a = some o
  | .xd fs => ∃ mA, h.Ns1 a mA ∧ ∀ f, RelO (fs.lookup f) (mA f)
  | .rng lo hi => Ex3 fun t u v => h.get? a = some { cls := .type "range", data := .fields #[.int lo t, .int hi u, .int 1 v] }
  | .frz o u => h.get? a = some o ∧ ObjOk H h a u
  | .tbl ps => h.get? a = some { cls := .none, data := .fields ps }
  | .met f x => h.get? a = some (PySem.W.methodObj (.ref f) (.ref x))
  | .ext φ => φ h ∧ (∃ o, h.get? a = some o) ∧ ∀ h1 h2 : Heap, φ h1 → (∀ o, h1.get? a = some o → h2.get? a = some o) → φ h2
def HOk (H : Hp) (h : Heap) : Prop := ∀ a o, H a = some o → ObjOk P w H h a o
end
section
variable {P : Program} {w : World} {H H' : Hp} {h h' : Heap} {a : Addr} {o : HO}
theorem ObjOk.lt (x : ObjOk P w H h a o) : a < h.objs.size := by
  cases o with
  | lst xs => obtain ⟨_, _, _, _, e⟩ := x; exact Heap.lt_size e
  | tup xs => obtain ⟨_, _, _, p, _⟩ := x; exact p.lt
  | dK kvs => obtain ⟨_, _, _, _, o, _, _, e, _⟩ := x; exact Heap.lt_size e
  | dT kvs => obtain ⟨_, _, _, _, o, _, _, e, _⟩ := x; exact Heap.lt_size e
  | set S n => obtain ⟨o, _, _, _, e, _⟩ := x; exact Heap.lt_size e
  | ins C dx fs => obtain ⟨_, _, _, e, _⟩ := x; exact Heap.lt_size e
  | own y => obtain ⟨_, e⟩ := x; exact Heap.lt_size e
  | xd fs => obtain ⟨_, ⟨_, _, _, e, _⟩, _⟩ := x; exact Heap.lt_size e
  | rng lo hi => obtain ⟨_, _, _, e⟩ := x; exact Heap.lt_size e
  | frz ob u => obtain ⟨e, _⟩ := x; exact Heap.lt_size e
  | tbl ps => exact Heap.lt_size (show h.get? a = some _ from x)
  | met f y => exact Heap.lt_size (show h.get? a = some _ from x)
  | ext φ => obtain ⟨_, ⟨_, e⟩, _⟩ := x; exact Heap.lt_size e
theorem Paired.mapP {α β : Type} {F G : α → β → Prop} : ∀ {l₁ : List α} {l₂ : List β}, Paired F l₁ l₂ → (∀ a b, F a b → G a b) → Paired G l₁ l₂
  | _, _, .nil, _ => .nil
  | _, _, .cons r t, f => .cons (f _ _ r) (Paired.mapP t f)
theorem ObjOk.stay (x : ObjOk P w H h a o) (k : ∀ b u, (b = a ∨ H b = some (.own a)) → h.get? b = some u → h'.get? b = some u)
    (ho : ∀ b, H b = some (.own a) → H' b = some (.own a)) (ht : ∀ b xs, H b = some (.tup xs) → H' b = some (.tup xs)) : ObjOk P w H' h' a o := by
  induction o with
  | lst xs => obtain ⟨z, its, n, r, e⟩ := x; exact ⟨z, its, n, r, k _ _ (.inl rfl) e⟩
  | tup xs => obtain ⟨z, its, r, ⟨ob, e, c⟩, od, e', c'⟩ := x; exact ⟨z, its, r, ⟨ob, k _ _ (.inl rfl) e, c⟩, od, k _ _ (.inl rfl) e', c'⟩
  | dK kvs => obtain ⟨z, y, vs, r, ob, es, ep, e, c⟩ := x; exact ⟨z, y, vs, r, ob, es, ep, k _ _ (.inl rfl) e, c⟩
  | dT kvs =>
    obtain ⟨z, y, xs, r, ob, es, ep, e, c⟩ := x
    exact ⟨z, y, xs, Paired.mapP r fun p q z => ⟨z.1, ht _ _ z.2.1, z.2.2⟩, ob, es, ep, k _ _ (.inl rfl) e, c⟩
  | set S n => obtain ⟨ob, es, ep, t, e, c⟩ := x; exact ⟨ob, es, ep, t, k _ _ (.inl rfl) e, c⟩
  | ins C dx fs =>
    obtain ⟨d, z, ne, e, mA, ⟨od, es, ep, e2, c⟩, r⟩ := x
    exact ⟨ho _ d, z, ne, k _ _ (.inl rfl) e, mA, ⟨od, es, ep, k _ _ (.inr d) e2, c⟩, r⟩
  | own y => obtain ⟨ob, e⟩ := x; exact ⟨ob, k _ _ (.inl rfl) e⟩
  | xd fs => obtain ⟨mA, ⟨od, es, ep, e, c⟩, r⟩ := x; exact ⟨mA, ⟨od, es, ep, k _ _ (.inl rfl) e, c⟩, r⟩
  | rng lo hi => obtain ⟨t, u, v, e⟩ := x; exact ⟨t, u, v, k _ _ (.inl rfl) e⟩
  | frz ob u ih => obtain ⟨e, q⟩ := x; exact ⟨k _ _ (.inl rfl) e, ih q⟩
  | tbl ps =>
    have e : h.get? a = some { cls := .none, data := .fields ps } := x
    show h'.get? a = some { cls := .none, data := .fields ps }
    exact k a _ (.inl rfl) e
  | met f y =>
    have e : h.get? a = some (PySem.W.methodObj (.ref f) (.ref y)) := x
    show h'.get? a = some (PySem.W.methodObj (.ref f) (.ref y))
    exact k a _ (.inl rfl) e
  | ext φ => obtain ⟨p, ⟨o, e⟩, st⟩ := x; exact ⟨st _ _ p fun o q => k _ _ (.inl rfl) q, ⟨o, k _ _ (.inl rfl) e⟩, st⟩
theorem HOk.lt (x : HOk P w H h) (e : H a = some o) : a < h.objs.size := (x a o e).lt
theorem HOk.fresh (x : HOk P w H h) (e : h.objs.size ≤ a) : H a = none := by
  cases q : H a with
  | none => rfl
  | some u => exact absurd (Nat.lt_of_lt_of_le (x.lt q) e) (Nat.lt_irrefl _)
theorem HOk.kept (x : HOk P w H h) (k : ∀ b u, h.get? b = some u → h'.get? b = some u) : HOk P w H h' := fun a o e =>
  (x a o e).stay (fun b u _ q => k b u q) (fun _ q => q) fun _ _ q => q
theorem HOk.laid (x : HOk P w H h) (k : ∀ b u, h.get? b = some u → h'.get? b = some u) (hp : h.objs.size ≤ a) (new : ObjOk P w (upd H a o) h' a o) : HOk P w (upd H a o) h' := fun b u e => by
  have hn := x.fresh hp
  by_cases hb : b = a
  · subst hb; rw [upd_same] at e; cases e; exact new
  · rw [upd_ne hb] at e
    exact (x b u e).stay (fun c v _ q => k c v q) (fun c q => by rw [upd_ne (ne_of_none q hn)]; exact q) fun c xs q => by rw [upd_ne (ne_of_none q hn)]; exact q
end
def Rd (H : Hp) (a : Addr) (u : HO) : Prop := H a = some u ∨ ∃ o, H a = some (.frz o u)
theorem Rd.ok {P : Program} {w : World} {H : Hp} {h : Heap} {a : Addr} {u : HO} (r : Rd H a u) (x : HOk P w H h) : ObjOk P w H h a u := by
  rcases r with r | ⟨o, r⟩
  · exact x a u r
  · obtain ⟨_, q⟩ := x a _ r
    exact q
def Mut : Option HO → Prop
  | some (.lst _) => True
  | some (.dK _) => True
  | some (.dT _) => True
  | some (.set _ _) => True
  | some (.ins _ _ _) => True
  | some (.ext _) => True
  | _ => False
section
variable {P : Program} {w : World} {H : Hp} {h h' : Heap} {x e : Addr} {o' : HO}
theorem HOk.write (ok : HOk P w H h) (mu : Mut (H x)) (he : e = x ∨ H e = some (.own x)) (k : ∀ b u, b ≠ e → h.get? b = some u → h'.get? b = some u) (heo : ∃ u, h'.get? e = some u)
    (new : ObjOk P w (upd H x o') h' x o') : HOk P w (upd H x o') h' := fun b u q => by
  have nown : ∀ c y, H c = some (.own y) → c ≠ x := fun c y r z => by subst z; rw [r] at mu; exact mu
  have ntup : ∀ c xs, H c = some (.tup xs) → c ≠ x := fun c xs r z => by subst z; rw [r] at mu; exact mu
  by_cases hb : b = x
  · subst hb; rw [upd_same] at q; cases q; exact new
  · rw [upd_ne hb] at q
    by_cases hbe : b = e
    · have q' : H b = some (.own x) := by
        rcases he with z | z
        · exact absurd (hbe.trans z) hb
        · rw [hbe]; exact z
      rw [q] at q'; cases q'
      obtain ⟨v, hv⟩ := heo
      exact ⟨v, by rw [hbe]; exact hv⟩
    · refine (ok b u q).stay (fun c v hc r => k c v ?_ r) (fun c r => by rw [upd_ne (nown c b r)]; exact r) fun c xs r => by rw [upd_ne (ntup c xs r)]; exact r
      rcases hc with rfl | hc
      · exact hbe
      · rintro rfl
        rcases he with z | z
        · exact nown c b hc z
        · rw [hc] at z; cases z; exact hb rfl
end
structure Un (fs ex : List Addr) (H H' : Hp) (h h' : Heap) : Prop where
  keep : ∀ b o, h.get? b = some o → H b = none → b ∉ fs → b ∉ ex → h'.get? b = some o
  slot : ∀ b o, h.get? b = some o → H b = none → b ∈ fs → b ∉ ex → ∃ sl, h'.get? b = some { o with slots := sl }
  free : ∀ b o, h.get? b = some o → H b = none → b ∉ ex → H' b = none
  there : ∀ b o, h.get? b = some o → b ∉ ex → ∃ o', h'.get? b = some o'
  tups : ∀ b xs, H b = some (.tup xs) → H' b = some (.tup xs)
  frzs : ∀ b o u, H b = some (.frz o u) → H' b = some (.frz o u)
  tbls : ∀ b ps, H b = some (.tbl ps) → ∃ more, H' b = some (.tbl (ps ++ more))
section
variable {fs fs' ex ex' : List Addr} {H H1 H2 : Hp} {h h1 h2 h' : Heap} {a x e : Addr} {o : HO}
theorem Un.any (u : Un fs ex H H1 h h1) {b : Addr} {ob : Obj} (q : h.get? b = some ob) (n : H b = none) (hx : b ∉ ex) : ∃ sl, h1.get? b = some { ob with slots := sl } := by
  by_cases hb : b ∈ fs
  · exact u.slot b ob q n hb hx
  · exact ⟨ob.slots, u.keep b ob q n hb hx⟩
theorem Un.kept (k : ∀ b u, h.get? b = some u → h'.get? b = some u) : Un fs ex H H h h' :=
  ⟨fun b ob q _ _ _ => k b ob q, fun b ob q _ _ _ => ⟨ob.slots, k b ob q⟩, fun _ _ _ n _ => n, fun b ob q _ => ⟨ob, k b ob q⟩, fun _ _ q => q, fun _ _ _ q => q, fun _ ps q => ⟨#[], by rw [q]; simp⟩⟩
theorem Un.refl : Un fs ex H H h h := Un.kept fun _ _ q => q
theorem Un.laid (k : ∀ b u, h.get? b = some u → h'.get? b = some u) (hp : h.objs.size ≤ a) (hn : H a = none) : Un fs ex H (upd H a o) h h' where
  keep := fun b u q _ _ _ => k b u q
  slot := fun b u q _ _ _ => ⟨u.slots, k b u q⟩
  free := fun b u q n _ => by rw [upd_ne (Nat.ne_of_lt (Nat.lt_of_lt_of_le (Heap.lt_size q) hp))]; exact n
  there := fun b u q _ => ⟨u, k b u q⟩
  tups := fun b xs q => by rw [upd_ne (ne_of_none q hn)]; exact q
  frzs := fun b u xs q => by rw [upd_ne (ne_of_none q hn)]; exact q
  tbls := fun b ps q => ⟨#[], by rw [upd_ne (ne_of_none q hn), q]; simp⟩
theorem Un.write (mu : Mut (H x)) (he : e = x ∨ H e = some (.own x)) (k : ∀ b u, b ≠ e → h.get? b = some u → h'.get? b = some u) (heo : ∃ u, h'.get? e = some u) : Un fs ex H (upd H x o) h h' := by
  have hx : ∀ b, H b = none → b ≠ x := fun b n z => by subst z; rw [n] at mu; exact mu
  have hb : ∀ b, H b = none → b ≠ e := fun b n z => by
    subst z
    rcases he with r | r
    · exact hx b n r
    · rw [n] at r; cases r
  have hm : ∀ b u, H b = some u → ¬ Mut (some u) → b ≠ x := fun b u q nm z => by subst z; rw [q] at mu; exact nm mu
  refine ⟨fun b u q n _ _ => k b u (hb b n) q, fun b u q n _ _ => ⟨u.slots, k b u (hb b n) q⟩, fun b u q n _ => by rw [upd_ne (hx b n)]; exact n, fun b u q _ => ?_,
    fun b xs q => by rw [upd_ne (hm b _ q fun z => z)]; exact q, fun b u xs q => by rw [upd_ne (hm b _ q fun z => z)]; exact q, fun b ps q => ⟨#[], by rw [upd_ne (hm b _ q fun z => z), q]; simp⟩⟩
  by_cases hbe : b = e
  · subst hbe; exact heo
  · exact ⟨u, k b u hbe q⟩
end
def trk (h : Heap) (H : Hp) : List Addr := (List.range h.objs.size).filter fun a => (H a).isSome
def hidT (h : Heap) (H : Hp) : Heap := PySem.W.hideAll h (trk h H)
theorem hidT_size (h : Heap) (H : Hp) : (hidT h H).objs.size = h.objs.size := PySem.W.hideAll_size _ _
theorem hidT_get {h : Heap} {H : Hp} {b : Addr} {o : Obj} (e : h.get? b = some o) (n : H b = none) : (hidT h H).get? b = some o :=
  PySem.W.hideAll_get _ e fun hm => by
    have q : (H b).isSome = true := (List.mem_filter.mp hm).2
    rw [n] at q; simp at q
theorem of_hidT {h : Heap} {H : Hp} {b : Addr} {o : Obj} (e : (hidT h H).get? b = some o) : h.get? b = some o ∧ H b = none := by
  have e' : h.get? b = some o := PySem.W.of_hideAll (trk h H) e
  refine ⟨e', ?_⟩
  cases q : H b with
  | none => rfl
  | some x =>
    have hm : b ∈ trk h H := List.mem_filter.mpr ⟨List.mem_range.mpr (Heap.lt_size e'), by simp [q]⟩
    have z : (hidT h H).get? b = none := PySem.W.hideAll_none (trk h H) hm
    rw [z] at e; cases e
end L2
namespace L2
open PySem PySem.Spec PyProof.Rows
structure Mod (K : PySem.W.Frag) (mg : Str → Option Value) (base : Heap) : Prop where
  kin : K.In base
  glob : base.Ns mainGlobals mg
  blt : ∃ mb, base.Ns builtinsNs mb ∧ ∀ x : Str, x ≠ "__name__" → mb x = bootBuiltins x
  nolimit : base.NoLimit
structure Cx where
  prog : Program
  w : World
  K : PySem.W.Frag
  mg : Str → Option Value
  base : Heap
  A : Around
  N : List Str
  s₀ : Shared
  H₀ : Hp
  env : Env
  outer : List Env
  stack : List Env
  ex : List Addr
  fn : Str → Bool
  calm : Bool
  pn : List (Addr × Obj)
  xe : Value → Shared → Prop
def frs (l : List Env) : List Addr := l.filterMap (·.frame)
abbrev Cx.fs (X : Cx) : List Addr := frs X.outer
def Vis (sc : Scope) (x : Str) : Prop := sc.names.lookup x = some .local ∨ sc.names.lookup x = some .cell ∨ sc.names.lookup x = some .free
def Loc (sc : Scope) (x : Str) : Prop := sc.names.lookup x = some .local ∨ sc.names.lookup x = some .cell
def Look (env : Env) (h : Heap) (m : Str → Option Value) (x : Str) (u : Value) : Prop :=
  (env.kindOf x = some .local ∧ m x = some u) ∨ ((env.kindOf x = some .cell ∨ env.kindOf x = some .free) ∧ ∃ c, env.cells.lookup x = some c ∧ h.IsCell c (some u))
structure Cx.Ok (X : Cx) : Prop where
  mod : Mod X.K X.mg X.base
  kind : X.env.scope.kind = .function
  glob : X.env.globals = mainGlobals
  blt : X.env.builtins = builtinsNs
  above : X.s₀.heap.objs.size ≤ X.env.locals
  inj : ∀ x y c, X.env.cells.lookup x = some c → X.env.cells.lookup y = some c → x = y
  has : ∀ x, (X.env.kindOf x = some .cell ∨ X.env.kindOf x = some .free) → ∃ c, X.env.cells.lookup x = some c
  cab : ∀ x c, X.fn x = true → X.env.cells.lookup x = some c → X.s₀.heap.objs.size ≤ c
  hd : X.calm = true → X.A.handled = none
  frames : X.A.frames = some X.stack
  stk : X.stack = X.outer ∨ (X.stack = X.env :: X.outer ∧ X.env.frame = some X.env.locals)
  exf : ∀ b ∈ X.ex, b ≠ X.env.locals ∧ ∀ x c, X.env.cells.lookup x = some c → c ≠ b
  bs : ∀ b o, X.base.get? b = some o → X.s₀.heap.get? b = some o ∧ X.H₀ b = none
  bsz : X.base.objs.size ≤ X.s₀.heap.objs.size
  noex : ∀ b o, X.base.get? b = some o → b ∉ X.ex
  exfs : ∀ b ∈ X.ex, b ∉ X.fs
  funs : X.s₀.heap.FunFrames X.base X.outer
  frf : ∀ b ∈ X.fs, X.H₀ b = none
structure Inv (X : Cx) (pins : List (Addr × Obj)) (σ : List (Option V)) (H : Hp) (s : Shared) : Prop where
  ok : X.Ok
  os : s.os = X.s₀.os
  bare : AllBare s.gens
  base : Un X.fs X.ex X.H₀ H X.s₀.heap s.heap
  loc : ∃ m, s.heap.Ns X.env.locals m ∧ ∀ (i : Nat) (x : Str) (v : V), X.N[i]? = some x → σ[i]? = some (some v) → Vis X.env.scope x → ∃ u, RelV v u ∧ Look X.env s.heap m x u
  cell : ∀ x c, X.env.cells.lookup x = some c → ∃ v, s.heap.IsCell c v
  free : H X.env.locals = none
  freeC : ∀ x c, X.env.cells.lookup x = some c → H c = none
  pin : ∀ p ∈ X.pn ++ pins, s.heap.get? p.1 = some p.2 ∧ H p.1 = none ∧ p.1 ≠ X.env.locals ∧ p.1 ∉ X.fs ∧ ∀ v, p.2.data ≠ .cell v
  hok : HOk X.prog X.w H s.heap
  len : σ.length = X.N.length
section
variable {X : Cx} {pins : List (Addr × Obj)} {σ : List (Option V)} {H H' : Hp} {s : Shared} {h' : Heap}
theorem Cx.Ok.nofr (ok : X.Ok) {b : Addr} {o : Obj} (e : X.base.get? b = some o) : b ∉ X.fs := fun hb => by
  have := (ok.funs.mem hb).1
  rw [e] at this; cases this
theorem Inv.bs (I : Inv X pins σ H s) : ∀ b o, X.base.get? b = some o → s.heap.get? b = some o ∧ H b = none := fun b o e =>
  ⟨I.base.keep b o (I.ok.bs b o e).1 (I.ok.bs b o e).2 (I.ok.nofr e) (I.ok.noex b o e), I.base.free b o (I.ok.bs b o e).1 (I.ok.bs b o e).2 (I.ok.noex b o e)⟩
theorem Inv.bk (I : Inv X pins σ H s) : ∀ b o, X.base.get? b = some o → s.heap.get? b = some o := fun b o e => (I.bs b o e).1
theorem Inv.mod (I : Inv X pins σ H s) : Mod X.K X.mg X.base := I.ok.mod
theorem Inv.kIn (I : Inv X pins σ H s) : X.K.In s.heap := I.ok.mod.kin.keeps I.bk
theorem Inv.lt (I : Inv X pins σ H s) : X.env.locals < s.heap.objs.size := let ⟨_, hn, _⟩ := I.loc; hn.lt
theorem Inv.sz (I : Inv X pins σ H s) : X.s₀.heap.objs.size ≤ s.heap.objs.size := Nat.le_trans I.ok.above (Nat.le_of_lt I.lt)
theorem Inv.nofs (I : Inv X pins σ H s) {a : Addr} (h : s.heap.objs.size ≤ a) : a ∉ X.fs := fun hb => by
  obtain ⟨_, o, ho, _⟩ := I.ok.funs.mem hb
  exact absurd (Nat.lt_of_lt_of_le (Heap.lt_size ho) (Nat.le_trans I.sz h)) (Nat.lt_irrefl _)
theorem Inv.cne (I : Inv X pins σ H s) : ∀ x c, X.env.cells.lookup x = some c → c ≠ X.env.locals := fun x c e z => by
  obtain ⟨v, o, ho, hd⟩ := I.cell x c e
  obtain ⟨m, ⟨o', es, ep, ho', hd', _⟩, _⟩ := I.loc
  rw [z, ho'] at ho; cases ho; rw [hd'] at hd; cases hd
theorem Inv.funs (I : Inv X pins σ H s) : s.heap.FunFrames X.base X.outer := by
  have all : ∀ (l : List Env), (∀ b ∈ frs l, b ∈ X.fs) → X.s₀.heap.FunFrames X.base l → s.heap.FunFrames X.base l := by
    intro l
    induction l with
    | nil => intro _ _; trivial
    | cons env r ih =>
      intro hs hl
      obtain ⟨hk, ⟨L, o, hf, hn, ho, hd⟩, hr⟩ := hl
      have hL : L ∈ X.fs := hs L (by unfold frs; rw [List.filterMap_cons, hf]; exact List.mem_cons_self)
      obtain ⟨sl, e⟩ := I.base.slot L o ho (I.ok.frf L hL) hL fun z => I.ok.exfs L z hL
      exact ⟨hk, ⟨L, _, hf, hn, e, hd⟩, ih (fun b hb => hs b (by unfold frs; rw [List.filterMap_cons, hf]; exact List.mem_cons_of_mem _ hb)) hr⟩
  exact all X.outer (fun _ hb => hb) I.ok.funs
theorem Inv.stack (I : Inv X pins σ H s) : s.heap.FunFrames X.base X.stack := by
  rcases I.ok.stk with e | ⟨e, hf⟩
  · rw [e]; exact I.funs
  · rw [e]
    obtain ⟨m, hn, _⟩ := I.loc
    refine .cons (by rw [I.ok.kind]; decide) hf hn ?_ I.funs
    exact Heap.get?_none_of_le (Nat.le_trans I.ok.bsz I.ok.above)
theorem Inv.stkSub (I : Inv X pins σ H s) : ∀ b ∈ frs X.stack, b ∈ X.env.locals :: X.fs := fun b hb => by
  rcases I.ok.stk with e | ⟨e, hf⟩
  · rw [e] at hb; exact List.mem_cons_of_mem _ hb
  · rw [e] at hb
    unfold frs at hb
    rw [List.filterMap_cons, hf] at hb
    exact hb
theorem Inv.stkFree (I : Inv X pins σ H s) : ∀ b ∈ frs X.stack, H b = none := fun b hb => by
  rcases List.mem_cons.mp (I.stkSub b hb) with e | hb
  · rw [e]; exact I.free
  · obtain ⟨_, o, ho, _⟩ := I.ok.funs.mem hb
    exact I.base.free b o ho (I.ok.frf b hb) fun z => I.ok.exfs b z hb
theorem Inv.step {g' : Array GenState} {t' : Nat} {d' : Drawn} {ch : List Addr} (I : Inv X pins σ H s)
    (hch : ∀ b ∈ ch, (b ∈ X.ex ∨ X.s₀.heap.objs.size ≤ b) ∧ b ≠ X.env.locals ∧ (∀ x c, X.env.cells.lookup x = some c → c ≠ b) ∧ ∀ p ∈ X.pn ++ pins, p.1 ≠ b)
    (keep : ∀ b o, b ≠ X.env.locals → b ∉ X.fs → b ∉ ch → s.heap.get? b = some o → H b = none → h'.get? b = some o)
    (slot : ∀ b o, b ≠ X.env.locals → b ∈ X.fs → b ∉ ch → s.heap.get? b = some o → H b = none → ∃ sl, h'.get? b = some { o with slots := sl }) (free : ∀ b o, b ∉ ch → s.heap.get? b = some o → H b = none → H' b = none)
    (there : ∀ b o, b ∉ ch → s.heap.get? b = some o → ∃ o', h'.get? b = some o')
    (tups : ∀ b xs, H b = some (.tup xs) → H' b = some (.tup xs)) (frzs : ∀ b o u, H b = some (.frz o u) → H' b = some (.frz o u)) (tbls : ∀ b ps, H b = some (.tbl ps) → ∃ more, H' b = some (.tbl (ps ++ more)))
    (ns : ∀ m, s.heap.Ns X.env.locals m → h'.Ns X.env.locals m) (hok : HOk X.prog X.w H' h') (hg : AllBare g') :
    Inv X pins σ H' { s with heap := h', gens := g', drawn := d', toks := t' } := by
  have neL : ∀ b o, X.s₀.heap.get? b = some o → b ≠ X.env.locals := fun b o e => Nat.ne_of_lt (Nat.lt_of_lt_of_le (Heap.lt_size e) I.ok.above)
  have neC : ∀ b o, X.s₀.heap.get? b = some o → b ∉ X.ex → b ∉ ch := fun b o e hx hb => by
    rcases (hch b hb).1 with z | z
    · exact hx z
    · exact absurd (Nat.lt_of_lt_of_le (Heap.lt_size e) z) (Nat.lt_irrefl _)
  have cellK : ∀ x c, X.env.cells.lookup x = some c → ∀ v, s.heap.IsCell c v → h'.IsCell c v := fun x c e v ⟨o, ho, hd⟩ => by
    have nch : c ∉ ch := fun z => (hch c z).2.2.1 x c e rfl
    by_cases hc : c ∈ X.fs
    · obtain ⟨sl, q⟩ := slot c o (I.cne x c e) hc nch ho (I.freeC x c e)
      exact ⟨_, q, hd⟩
    · exact ⟨o, keep c o (I.cne x c e) hc nch ho (I.freeC x c e), hd⟩
  refine ⟨I.ok, I.os, hg, ⟨fun b o e n hb hx => ?_, fun b o e n hb hx => ?_, fun b o e n hx => ?_, fun b o e hx => ?_, fun b xs e => tups b xs (I.base.tups b xs e), fun b o xs e => frzs b o xs (I.base.frzs b o xs e), fun b ps e => ?_⟩, ?_, fun x c e => ?_, ?_, fun x c e => ?_, fun p hp => ?_, hok, I.len⟩
  · exact keep b o (neL b o e) hb (neC b o e hx) (I.base.keep b o e n hb hx) (I.base.free b o e n hx)
  · obtain ⟨sl, e1⟩ := I.base.slot b o e n hb hx
    obtain ⟨sl', e2⟩ := slot b _ (neL b o e) hb (neC b o e hx) e1 (I.base.free b o e n hx)
    exact ⟨sl', e2⟩
  · obtain ⟨o', e1⟩ := I.base.there b o e hx
    exact free b o' (neC b o e hx) e1 (I.base.free b o e n hx)
  · obtain ⟨o', e1⟩ := I.base.there b o e hx
    exact there b o' (neC b o e hx) e1
  · obtain ⟨m1, e1⟩ := I.base.tbls b ps e
    obtain ⟨m2, e2⟩ := tbls b _ e1
    exact ⟨m1 ++ m2, by rw [e2, Array.append_assoc]⟩
  · obtain ⟨m, hn, hl⟩ := I.loc
    refine ⟨m, ns m hn, fun i x v e1 e2 e3 => ?_⟩
    obtain ⟨u, r, l⟩ := hl i x v e1 e2 e3
    refine ⟨u, r, ?_⟩
    rcases l with l | ⟨k, c, e, z⟩
    · exact .inl l
    · exact .inr ⟨k, c, e, cellK x c e _ z⟩
  · obtain ⟨v, z⟩ := I.cell x c e
    exact ⟨v, cellK x c e v z⟩
  · obtain ⟨m, ⟨o, _, _, ho, _⟩, _⟩ := I.loc
    exact free _ o (fun z => (hch _ z).2.1 rfl) ho I.free
  · obtain ⟨v, o, ho, hd⟩ := I.cell x c e
    exact free c o (fun z => (hch c z).2.2.1 x c e rfl) ho (I.freeC x c e)
  · obtain ⟨e, n, ne, nf, d⟩ := I.pin p hp
    have nch : p.1 ∉ ch := fun z => (hch p.1 z).2.2.2 p hp rfl
    exact ⟨keep p.1 p.2 ne nf nch e n, free p.1 p.2 nch e n, ne, nf, d⟩
theorem Inv.un {t' : Nat} (I : Inv X pins σ H s) (u : Un X.fs [] H H' s.heap h') (hok : HOk X.prog X.w H' h') : Inv X pins σ H' { s with heap := h', toks := t' } := by
  obtain ⟨m, ⟨o, es, ep, ho, r⟩, _⟩ := id I.loc
  obtain ⟨sl, hL⟩ := u.any ho I.free (by simp)
  exact I.step (g' := s.gens) (d' := s.drawn) (ch := []) (fun _ z => nomatch z) (fun b o _ hb _ e n => u.keep b o e n hb (by simp)) (fun b o _ hb _ e n => u.slot b o e n hb (by simp)) (fun b o _ e n => u.free b o e n (by simp)) (fun b o _ e => u.there b o e (by simp)) u.tups u.frzs u.tbls (fun m' hm => by
    obtain ⟨o', es', ep', ho', r'⟩ := hm
    rw [ho] at ho'; cases ho'
    exact ⟨_, es', ep', hL, r'⟩) hok I.bare
theorem Inv.call {g' : Array GenState} {t' : Nat} {d' : Drawn} {ch : List Addr} (I : Inv X pins σ H s) (u : Un (frs X.stack) ch H H' s.heap h') (hok : HOk X.prog X.w H' h') (hg : AllBare g')
    (hch : ∀ b ∈ ch, (b ∈ X.ex ∨ X.s₀.heap.objs.size ≤ b) ∧ b ≠ X.env.locals ∧ (∀ x c, X.env.cells.lookup x = some c → c ≠ b) ∧ ∀ p ∈ X.pn ++ pins, p.1 ≠ b) :
    Inv X pins σ H' { s with heap := h', gens := g', drawn := d', toks := t' } := by
  obtain ⟨m, ⟨o, es, ep, ho, r⟩, _⟩ := id I.loc
  obtain ⟨sl, hL⟩ := u.any ho I.free fun z => (hch _ z).2.1 rfl
  exact I.step (ch := ch) hch (fun b o hL hb hc e n => u.keep b o e n (fun z => (List.mem_cons.mp (I.stkSub b z)).elim hL hb) hc) (fun b o _ _ hc e n => u.any e n hc) (fun b o hc e n => u.free b o e n hc) (fun b o hc e => u.there b o e hc) u.tups u.frzs u.tbls (fun m' hm => by
    obtain ⟨o', es', ep', ho', r'⟩ := hm
    rw [ho] at ho'; cases ho'
    exact ⟨_, es', ep', hL, r'⟩) hok hg
theorem Inv.turned {t' : Nat} {it : Addr} (I : Inv X pins σ H s) (k : ∀ b o, b ≠ it → s.heap.get? b = some o → h'.get? b = some o) (hn : H it = none) (hL : it ≠ X.env.locals)
    (h1 : it ∈ X.ex ∨ X.s₀.heap.objs.size ≤ it) (h2 : ∀ x c, X.env.cells.lookup x = some c → c ≠ it) (h3 : ∀ p ∈ X.pn ++ pins, p.1 ≠ it) : Inv X pins σ H { s with heap := h', toks := t' } := by
  have nit : ∀ b u, H b = some u → b ≠ it := fun b u e z => by rw [z, hn] at e; cases e
  refine I.step (g' := s.gens) (d' := s.drawn) (ch := [it]) (fun b hb => ?_) (fun b o _ _ hc e _ => k b o (fun z => hc (by simp [z])) e) (fun b o _ _ hc e _ => ⟨o.slots, k b o (fun z => hc (by simp [z])) e⟩) (fun _ _ _ _ n => n)
    (fun b o hc e => ⟨o, k b o (fun z => hc (by simp [z])) e⟩) (fun _ _ e => e) (fun _ _ _ e => e) (fun b ps e => ⟨#[], by rw [e]; simp⟩) (fun m hm => ?_) (fun b u e => ?_) I.bare
  · have e : b = it := by simpa using hb
    subst e
    exact ⟨h1, hL, h2, h3⟩
  · obtain ⟨o, es, ep, ho, r⟩ := hm
    exact ⟨o, es, ep, k _ o (Ne.symm hL) ho, r⟩
  · refine (I.hok b u e).stay (fun c v hc q => k c v ?_ q) (fun _ q => q) fun _ _ q => q
    rcases hc with z | z
    · rw [z]; exact nit b u e
    · exact nit c _ z
theorem Inv.tok (I : Inv X pins σ H s) (t : Nat) : Inv X pins σ H { s with toks := t } := I.un (h' := s.heap) (t' := t) Un.refl I.hok
theorem Inv.kept {t' : Nat} (I : Inv X pins σ H s) (k : ∀ b u, s.heap.get? b = some u → h'.get? b = some u) : Inv X pins σ H { s with heap := h', toks := t' } := I.un (Un.kept k) (I.hok.kept k)
theorem Inv.laid {a : Addr} {o : HO} {t' : Nat} (I : Inv X pins σ H s) (k : ∀ b u, s.heap.get? b = some u → h'.get? b = some u) (hp : s.heap.objs.size ≤ a) (new : ObjOk X.prog X.w (upd H a o) h' a o) :
    Inv X pins σ (upd H a o) { s with heap := h', toks := t' } := I.un (Un.laid k hp (I.hok.fresh hp)) (I.hok.laid k hp new)
theorem Inv.write {x e : Addr} {o : HO} {t' : Nat} (I : Inv X pins σ H s) (mu : Mut (H x)) (he : e = x ∨ H e = some (.own x)) (k : ∀ b u, b ≠ e → s.heap.get? b = some u → h'.get? b = some u) (heo : ∃ u, h'.get? e = some u)
    (new : ObjOk X.prog X.w (upd H x o) h' x o) : Inv X pins σ (upd H x o) { s with heap := h', toks := t' } := I.un (Un.write mu he k heo) (I.hok.write mu he k heo new)
theorem Inv.weak {σ' : List (Option V)} (I : Inv X pins σ H s) (hl : σ'.length = σ.length) (w : ∀ (i : Nat) v, σ'[i]? = some (some v) → σ[i]? = some (some v)) : Inv X pins σ' H s :=
  ⟨I.ok, I.os, I.bare, I.base, let ⟨m, hn, hl'⟩ := I.loc; ⟨m, hn, fun i x v e1 e2 e3 => hl' i x v e1 (w i v e2) e3⟩, I.cell, I.free, I.freeC, I.pin, I.hok, hl.trans I.len⟩
theorem Inv.pins_of {pins' : List (Addr × Obj)} (I : Inv X pins σ H s) (h : ∀ p ∈ pins', s.heap.get? p.1 = some p.2 ∧ H p.1 = none ∧ p.1 ≠ X.env.locals ∧ p.1 ∉ X.fs ∧ ∀ v, p.2.data ≠ .cell v) : Inv X pins' σ H s :=
  ⟨I.ok, I.os, I.bare, I.base, I.loc, I.cell, I.free, I.freeC, fun p hp => (List.mem_append.mp hp).elim (fun z => I.pin p (List.mem_append_left _ z)) (h p), I.hok, I.len⟩
theorem nodup_ix {N : List Str} (hN : N.Nodup) {i j : Nat} {x : Str} (a : N[i]? = some x) (b : N[j]? = some x) : i = j := by
  obtain ⟨h1, e1⟩ := List.getElem?_eq_some_iff.mp a
  obtain ⟨h2, e2⟩ := List.getElem?_eq_some_iff.mp b
  exact (List.getElem_inj hN).mp (e1.trans e2.symm)
theorem store_ok2 {M : Model} {A : Around} {E : Value → Shared → Prop} {i : Nat} {x : Str} {v : V} {u : Value} {Q : Unit → Shared → Prop} (I : Inv X pins σ H s) (hN : X.N.Nodup) (hi : X.N[i]? = some x) (hx : Loc X.env.scope x) (r : RelV v u)
    (h : ∀ s', Inv X pins (σ.set i (some v)) H s' → (∃ a, Heap.SameBut a s.heap s'.heap ∧ (a = X.env.locals ∨ X.env.cells.lookup x = some a)) → Q () s') (hf : X.fn x = true ∨ X.env.scope.names.lookup x = some .local := by first | exact .inl rfl | exact .inr rfl | assumption) : wpAny M A (storeName X.env x u) Q E s := by
  obtain ⟨m, hn, hl⟩ := id I.loc
  have hcls : (X.env.scope.kind == .class || (X.env.scope.kind == .module && X.env.locals != X.env.globals)) = false := by rw [I.ok.kind]; rfl
  have hiσ : i < σ.length := by rw [I.len]; exact (List.getElem?_eq_some_iff.mp hi).1
  have cne := I.cne
  have tracked : ∀ {a : Addr} {h' : Heap}, (∃ o, s.heap.get? a = some o ∧ H a = none) → Heap.SameBut a s.heap h' → HOk X.prog X.w H h' := fun {a h'} ha hs b ob e => by
    obtain ⟨_, _, hfree⟩ := ha
    refine (I.hok b ob e).stay (fun c w' hc q => (hs.2 c ?_).trans q) (fun _ q => q) fun _ _ q => q
    rintro rfl
    rcases hc with rfl | hc
    · rw [hfree] at e; cases e
    · rw [hfree] at hc; cases hc
  rcases hx with hk | hk
  · refine wpAny_storeName_local hk hn (fun h' hn' hs => ?_) hcls
    obtain ⟨oL, _, _, hoL, _⟩ := id hn
    refine h _ ⟨I.ok, I.os, I.bare, ⟨fun b o e n hb hx => ?_, fun b o e n hb hx => ?_, I.base.free, fun b o e hx => ?_, I.base.tups, I.base.frzs, I.base.tbls⟩, ⟨_, hn', fun j y v' e1 e2 e3 => ?_⟩, fun y c e => ?_, I.free, I.freeC, fun p hp => ?_, tracked ⟨oL, hoL, I.free⟩ hs, by simpa using I.len⟩ ⟨_, hs, .inl rfl⟩
    · exact (hs.2 b (Nat.ne_of_lt (Nat.lt_of_lt_of_le (Heap.lt_size e) I.ok.above))).trans (I.base.keep b o e n hb hx)
    · obtain ⟨sl, e1⟩ := I.base.slot b o e n hb hx
      exact ⟨sl, (hs.2 b (Nat.ne_of_lt (Nat.lt_of_lt_of_le (Heap.lt_size e) I.ok.above))).trans e1⟩
    · obtain ⟨o', e1⟩ := I.base.there b o e hx
      exact ⟨o', (hs.2 b (Nat.ne_of_lt (Nat.lt_of_lt_of_le (Heap.lt_size e) I.ok.above))).trans e1⟩
    · by_cases hj : j = i
      · subst hj
        rw [hi] at e1; cases e1
        rw [List.getElem?_set_self hiσ] at e2
        cases e2
        exact ⟨u, r, .inl ⟨hk, by simp⟩⟩
      · rw [List.getElem?_set_ne (Ne.symm hj)] at e2
        obtain ⟨u', r', q⟩ := hl j y v' e1 e2 e3
        refine ⟨u', r', ?_⟩
        rcases q with ⟨k, e⟩ | ⟨k, c, e, z⟩
        · refine .inl ⟨k, ?_⟩
          have : y ≠ x := fun e => hj (nodup_ix hN e1 (e ▸ hi))
          simp [this, e]
        · exact .inr ⟨k, c, e, z.sameBut hs (cne y c e)⟩
    · obtain ⟨w', z⟩ := I.cell y c e
      exact ⟨w', z.sameBut hs (cne y c e)⟩
    · obtain ⟨e, n, ne, nf, d⟩ := I.pin p hp
      exact ⟨(hs.2 p.1 ne).trans e, n, ne, nf, d⟩
  · have hfn : X.fn x = true := by
      rcases hf with z | z
      · exact z
      · rw [z] at hk; cases hk
    obtain ⟨c, hc⟩ := I.ok.has x (.inl hk)
    obtain ⟨w', z⟩ := I.cell x c hc
    refine wpAny_storeName_cell I.ok.kind hk hc z (fun h' hc' hs => ?_)
    obtain ⟨oc, hoc, hocd⟩ := id z
    refine h { s with heap := h' } ⟨I.ok, I.os, I.bare, ⟨fun b o e n hb hx => ?_, fun b o e n hb hx => ?_, I.base.free, fun b o e hx => ?_, I.base.tups, I.base.frzs, I.base.tbls⟩, ⟨m, hn.sameBut hs (Ne.symm (cne x c hc)), fun j y v' e1 e2 e3 => ?_⟩, fun y c' e => ?_, I.free, I.freeC, fun p hp => ?_, tracked ⟨oc, hoc, I.freeC x c hc⟩ hs, by simpa using I.len⟩ ⟨c, hs, .inr hc⟩
    · exact (hs.2 b (Nat.ne_of_lt (Nat.lt_of_lt_of_le (Heap.lt_size e) (I.ok.cab x c hfn hc)))).trans (I.base.keep b o e n hb hx)
    · obtain ⟨sl, e1⟩ := I.base.slot b o e n hb hx
      exact ⟨sl, (hs.2 b (Nat.ne_of_lt (Nat.lt_of_lt_of_le (Heap.lt_size e) (I.ok.cab x c hfn hc)))).trans e1⟩
    · obtain ⟨o', e1⟩ := I.base.there b o e hx
      exact ⟨o', (hs.2 b (Nat.ne_of_lt (Nat.lt_of_lt_of_le (Heap.lt_size e) (I.ok.cab x c hfn hc)))).trans e1⟩
    · by_cases hj : j = i
      · subst hj
        rw [hi] at e1; cases e1
        rw [List.getElem?_set_self hiσ] at e2
        cases e2
        exact ⟨u, r, .inr ⟨.inl hk, c, hc, hc'⟩⟩
      · rw [List.getElem?_set_ne (Ne.symm hj)] at e2
        obtain ⟨u', r', q⟩ := hl j y v' e1 e2 e3
        refine ⟨u', r', ?_⟩
        rcases q with q | ⟨k, c', e, z'⟩
        · exact .inl q
        · refine .inr ⟨k, c', e, z'.sameBut hs ?_⟩
          rintro rfl
          exact hj (nodup_ix hN e1 (I.ok.inj _ _ _ e hc ▸ hi))
    · by_cases hcc : c' = c
      · subst hcc; exact ⟨_, hc'⟩
      · obtain ⟨w2, z2⟩ := I.cell y c' e
        exact ⟨w2, z2.sameBut hs hcc⟩
    · obtain ⟨e, n, ne, nf, d⟩ := I.pin p hp
      refine ⟨(hs.2 p.1 ?_).trans e, n, ne, nf, d⟩
      intro q
      rw [q, hoc] at e
      have q' : oc = p.2 := Option.some.inj e
      exact d w' (by rw [← q']; exact hocd)
theorem store_ok {M : Model} {A : Around} {E : Value → Shared → Prop} {i : Nat} {x : Str} {v : V} {u : Value} {Q : Unit → Shared → Prop} (I : Inv X pins σ H s) (hN : X.N.Nodup) (hi : X.N[i]? = some x) (hx : Loc X.env.scope x) (r : RelV v u)
    (h : ∀ s', Inv X pins (σ.set i (some v)) H s' → Q () s') (hf : X.fn x = true ∨ X.env.scope.names.lookup x = some .local := by first | exact .inl rfl | exact .inr rfl | assumption) : wpAny M A (storeName X.env x u) Q E s :=
  store_ok2 I hN hi hx r (fun s' I' _ => h s' I') hf
theorem Inv.call' {s' : Shared} {ch : List Addr} (I : Inv X pins σ H s) (ho : s'.os = s.os) (u : Un (frs X.stack) ch H H' s.heap s'.heap) (hok : HOk X.prog X.w H' s'.heap) (hg : AllBare s'.gens)
    (hch : ∀ b ∈ ch, (b ∈ X.ex ∨ X.s₀.heap.objs.size ≤ b) ∧ b ≠ X.env.locals ∧ (∀ x c, X.env.cells.lookup x = some c → c ≠ b) ∧ ∀ p ∈ X.pn ++ pins, p.1 ≠ b) : Inv X pins σ H' s' := by
  obtain ⟨h', g', d', t', o'⟩ := s'
  have e : o' = s.os := ho
  subst e
  exact I.call (g' := g') (t' := t') (d' := d') u hok hg hch
end
abbrev XK := Value → Option Addr → Hp → Prop
abbrev St := List (Option V)
abbrev VK := V → Hp → Prop
abbrev TE := St → Hp → VK → Prop
abbrev TT := St → Hp → (Bool → Hp → Prop) → Prop
abbrev TA := St → Hp → (List V → Hp → Prop) → Prop
structure Ends where
  nx : St → Hp → Prop
  rt : VK
  bk : St → Hp → Prop := fun _ _ => False
  ct : St → Hp → Prop := fun _ _ => False
abbrev TS := Ends → St → Hp → Prop
def EP (X : Cx) (pins : List (Addr × Obj)) (σ : St) (Q : VK) (u : Value) (s' : Shared) : Prop := Ex2 fun v H' => Inv X pins σ H' s' ∧ RelV v u ∧ Q v H'
def TP (X : Cx) (pins : List (Addr × Obj)) (σ : St) (Q : Bool → Hp → Prop) (b : Bool) (s' : Shared) : Prop := ∃ H', Inv X pins σ H' s' ∧ Q b H'
def AP (X : Cx) (pins : List (Addr × Obj)) (σ : St) (Q : List V → Hp → Prop) (us : List Value) (s' : Shared) : Prop := Ex2 fun vs H' => Inv X pins σ H' s' ∧ Vals vs us ∧ Q vs H'
def SP (X : Cx) (pins : List (Addr × Obj)) (D : Ends) (f : Flow) (s' : Shared) : Prop :=
  match f with
  | .next => ∃ σ' H', Inv X pins σ' H' s' ∧ D.nx σ' H'
  | .brk => ∃ σ' H', Inv X pins σ' H' s' ∧ D.bk σ' H'
  | .cont => ∃ σ' H', Inv X pins σ' H' s' ∧ D.ct σ' H'
  | .ret u => ∃ v σ' H', Inv X pins σ' H' s' ∧ RelV v u ∧ D.rt v H'
def PE (X : Cx) (e : Expr) (t : TE) : Prop :=
  ∀ (pins : List (Addr × Obj)) (s : Shared) (σ : St) (H : Hp) (Q : VK), Inv X pins σ H s → t σ H Q → wpAny (model X.prog X.w) X.A (eval e X.env) (EP X pins σ Q) X.xe s
def PT (X : Cx) (e : Expr) (t : TT) : Prop :=
  ∀ (pins : List (Addr × Obj)) (s : Shared) (σ : St) (H : Hp) (Q : Bool → Hp → Prop), Inv X pins σ H s → t σ H Q → wpAny (model X.prog X.w) X.A (isTrue e X.env (eval e X.env)) (TP X pins σ Q) X.xe s
def PW (X : Cx) (e : Expr) (t : TT) : Prop :=
  ∀ (whole : Sem Value) (pins : List (Addr × Obj)) (s : Shared) (σ : St) (H : Hp) (Q : Bool → Hp → Prop), Inv X pins σ H s → t σ H Q → wpAny (model X.prog X.w) X.A (isTrue e X.env whole) (TP X pins σ Q) X.xe s
theorem PW.pt {X : Cx} {e : Expr} {t : TT} (h : PW X e t) : PT X e t := h _
def PA (X : Cx) (es : List Expr) (t : TA) : Prop :=
  ∀ (pos : Pos) (pins : List (Addr × Obj)) (s : Shared) (σ : St) (H : Hp) (Q : List V → Hp → Prop), Inv X pins σ H s → t σ H Q → wpAny (model X.prog X.w) X.A (spliced (backTo pos (starEach es X.env))) (AP X pins σ Q) X.xe s
def PS (X : Cx) (st : Stmt) (t : TS) : Prop :=
  ∀ (pins : List (Addr × Obj)) (s : Shared) (σ : St) (H : Hp) (D : Ends), Inv X pins σ H s → t D σ H → wpAny (model X.prog X.w) X.A (exec st X.env) (SP X pins D) X.xe s
def PSs (X : Cx) (st : List Stmt) (t : TS) : Prop :=
  ∀ (pins : List (Addr × Obj)) (s : Shared) (σ : St) (H : Hp) (D : Ends), Inv X pins σ H s → t D σ H → wpAny (model X.prog X.w) X.A (execs st X.env) (SP X pins D) X.xe s
theorem thn {α : Type} {t : Sem α} {Q Q' : α → Shared → Prop} {M : Model} {A : Around} {E : Value → Shared → Prop} {s : Shared} (h : wpAny M A t Q E s) (hQ : ∀ a s, Q a s → Q' a s) : wpAny M A t Q' E s := wpAny_mono h hQ fun _ _ x => x
end L2
namespace L2
open PySem PySem.Spec PyProof.Rows
section
variable {X : Cx}
inductive tVar_ (i : Nat) (σ : St) (H : Hp) (Q : VK) : Prop
  | mk (v : _) (h0 : σ[i]? = some (some v)) (h1 : Q v H)
def tVar (i : Nat) : TE := fun σ H Q => tVar_ i σ H Q
def tC (v : V) : TE := fun _ H Q => Q v H
theorem pe_var {i : Nat} {x : Str} {pos : Pos} (hN : X.N[i]? = some x) (hv : Vis X.env.scope x) (hd : (x == ("__debug__" : Str)) = false := by decide) (hcd : (x == ("__classdict__" : Str)) = false := by decide) : PE X (.Name x pos) (tVar i) := by
  intro pins s σ H Q I h
  obtain ⟨v, e, h⟩ := h
  obtain ⟨m, hn, hl⟩ := I.loc
  obtain ⟨u, r, l⟩ := hl i x v hN e hv
  have fin : EP X pins σ Q u s := ⟨v, H, I, r, h⟩
  rcases l with ⟨hk, hm⟩ | ⟨hk, c, hc, hcell⟩
  · exact wpAny_Name (wpAny_loadName_local I.ok.kind hk hn hm fin) hd
  · rcases hk with hk | hk
    · exact wpAny_Name (wpAny_loadName_cell I.ok.kind hk hc hcell fin) hd
    · exact wpAny_Name (wpAny_loadName_free I.ok.kind hk hc hcell fin hcd) hd
theorem pe_int {i j pos} : PE X (.Constant (.int i) j pos) (tC (.int i)) := fun _ _ _ H _ I h => wpAny_Constant_int ⟨.int i, H, I.tok _, ⟨_, rfl⟩, h⟩
theorem pe_bl {b j pos} : PE X (.Constant (.bool b) j pos) (tC (.bl b)) := fun _ _ _ H _ I h => Constant_bool ⟨.bl b, H, I, rfl, h⟩
theorem pe_non {j pos} : PE X (.Constant .none j pos) (tC .non) := fun _ _ _ H _ I h => Constant_none ⟨.non, H, I, rfl, h⟩
theorem pe_str {x j pos} : PE X (.Constant (.str x) j pos) (tC (.str x)) := fun _ _ _ H _ I h => Calls.Constant_str ⟨.str x, H, I.tok _, ⟨_, rfl⟩, h⟩
def Gl (X : Cx) (x : Str) : Prop := X.env.kindOf x = some .globalImplicit
theorem ld_glob {E : Value → Shared → Prop} {pins : List (Addr × Obj)} {s : Shared} {σ : St} {H : Hp} {x : Str} {u : Value} {pos : Pos} {Q : Value → Shared → Prop} (I : Inv X pins σ H s) (hg : Gl X x) (hm : X.mg x = some u) (h : Q u s)
    (hd : (x == ("__debug__" : Str)) = false := by decide) : wpAny (model X.prog X.w) X.A (eval (.Name x pos) X.env) Q E s :=
  Calls.Name_function_global I.ok.kind hg (Calls.loadGlobal_global (by rw [I.ok.glob]; exact I.mod.glob.keeps I.bk) hm h) hd
theorem ld_blt {E : Value → Shared → Prop} {pins : List (Addr × Obj)} {s : Shared} {σ : St} {H : Hp} {x : Str} {u : Value} {pos : Pos} {Q : Value → Shared → Prop} (I : Inv X pins σ H s) (hg : Gl X x) (hm : X.mg x = none) (hv : bootBuiltins x = some u) (h : Q u s)
    (hn : x ≠ "__name__" := by decide) (hd : (x == ("__debug__" : Str)) = false := by decide) : wpAny (model X.prog X.w) X.A (eval (.Name x pos) X.env) Q E s := by
  obtain ⟨mb, h1, h2⟩ := I.mod.blt
  exact Calls.Name_function_global I.ok.kind hg (Calls.loadGlobal_builtin (by rw [I.ok.glob]; exact I.mod.glob.keeps I.bk) hm (by rw [I.ok.blt]; exact h1.keeps I.bk) ((h2 x hn).trans hv) h) hd
theorem pe_bltn {x : Str} {v : V} {u : Value} {pos : Pos} (hg : Gl X x) (hm : X.mg x = none) (hv : bootBuiltins x = some u) (r : RelV v u) (hn : x ≠ "__name__" := by decide) (hd : (x == ("__debug__" : Str)) = false := by decide) : PE X (.Name x pos) (tC v) :=
  fun _ _ _ H _ I h => ld_blt I hg hm hv ⟨v, H, I, r, h⟩ hn hd
variable {a b : Expr} {ta tb : TE} {pos : Pos}
inductive IsBl (x : V) (P : Bool → Prop) : Prop
  | mk (c : Bool) (e : x = .bl c) (h : P c)
inductive IsIn (x : V) (P : Int → Prop) : Prop
  | mk (c : Int) (e : x = .int c) (h : P c)
def tB (t : TE) : TT := fun σ H Q => t σ H fun x H1 => IsBl x fun c => Q c H1
theorem pt_val {e : Expr} {t : TE} (h : PE X e t) (he : ∀ whole, isTrue e X.env whole = (do let v ← whole; standAt e.pos; holding [v] (truthy v)) := by intro _; rfl) : PT X e (tB t) := by
  intro pins s σ H Q I hw
  refine isTrue_plain (thn (h pins s σ H _ I hw) fun v s1 ⟨x, H1, I1, r1, q1⟩ => ?_) (he _)
  obtain ⟨d, rfl, q⟩ := q1
  cases r1
  exact wpAny_truthy_bool ⟨H1, I1, q⟩
variable {tA tB' : TT} {rest : List Expr}
def tOr (t u : TT) : TT := fun σ H Q => t σ H fun c H1 => if c = true then Q true H1 else u σ H1 Q
def tNot (t : TT) : TT := fun σ H Q => t σ H fun c H1 => Q (!c) H1
theorem pw_or1 (ha : PT X a tA) : PW X (.BoolOp .Or [a] pos) tA := by
  intro wh pins s σ H Q I h
  refine isTrue_or (thn (ha pins s σ H Q I h) fun c s1 e => ?_)
  cases c with
  | false => exact isTrue_or_nil e
  | true => exact e
theorem pw_or (ha : PT X a tA) (hb : PW X (.BoolOp .Or (b :: rest) pos) tB') : PW X (.BoolOp .Or (a :: b :: rest) pos) (tOr tA tB') := by
  intro wh pins s σ H Q I h
  refine isTrue_or (thn (ha pins s σ H _ I h) fun c s1 ⟨H1, I1, q1⟩ => ?_)
  cases c with
  | true => exact ⟨H1, I1, q1⟩
  | false => exact hb wh pins s1 σ H1 Q I1 q1
theorem pt_not (ha : PT X a tA) : PT X (.UnaryOp .Not a pos) (tNot tA) := by
  intro pins s σ H Q I h
  exact isTrue_not (ha pins s σ H (fun c H1 => Q (!c) H1) I h)
def tAndV (ta tb : TE) : TE := fun σ H Q => ta σ H fun x H1 => IsBl x fun c => if c = true then tb σ H1 Q else Q (.bl false) H1
def tNotV (ta : TE) : TE := fun σ H Q => ta σ H fun x H1 => IsBl x fun c => Q (.bl (!c)) H1
theorem pe_one {op} {t : TE} (h : PE X a t) : PE X (.BoolOp op [a] pos) t := fun pins s σ H Q I hw => BoolOp_one (h pins s σ H Q I hw)
theorem pe_and (ha : PE X a ta) (hb : PE X (.BoolOp .And (b :: rest) pos) tb) : PE X (.BoolOp .And (a :: b :: rest) pos) (tAndV ta tb) := by
  intro pins s σ H Q I h
  refine BoolOp_and (thn (ha pins s σ H _ I h) fun v s1 ⟨x, H1, I1, r1, q1⟩ => ?_)
  obtain ⟨c, rfl, q1⟩ := q1
  cases r1
  refine wpAny_truthy_bool ?_
  cases c with
  | true => exact hb pins s1 σ H1 Q I1 q1
  | false => exact ⟨.bl false, H1, I1, rfl, q1⟩
theorem pe_not (ha : PE X a ta) : PE X (.UnaryOp .Not a pos) (tNotV ta) := by
  intro pins s σ H Q I h
  refine UnaryOp_ (thn (ha pins s σ H _ I h) fun v s1 ⟨x, H1, I1, r1, q1⟩ => ?_)
  obtain ⟨c, rfl, q1⟩ := q1
  cases r1
  exact not_of (wpAny_truthy_bool ⟨.bl (!c), H1, I1, rfl, q1⟩)
def tIf (t : TT) (ta tb : TE) : TE := fun σ H Q => t σ H fun c H1 => if c = true then ta σ H1 Q else tb σ H1 Q
theorem pe_ifExp {c : Expr} (hc : PT X c tA) (ha : PE X a ta) (hb : PE X b tb) : PE X (.IfExp c a b pos) (tIf tA ta tb) := by
  intro pins s σ H Q I h
  refine wpAny_IfExp (thn (hc pins s σ H _ I h) fun d s1 ⟨H1, I1, q1⟩ => ?_)
  cases d with
  | true => exact ha pins s1 σ H1 Q I1 q1
  | false => exact hb pins s1 σ H1 Q I1 q1
end
end L2
namespace L2
open PySem PySem.Spec PyProof.Rows
def SqL (K : PySem.W.Frag) (H : Hp) (a : Addr) (xs : List V) : Prop :=
  Rd H a (.lst xs) ∨
    Ex3 fun (o : Obj) (its : Array Value) (n : Nat) => K.lookup a = some o ∧ o.cls = .type "list" ∧ o.dict = none ∧ o.data = .seq its n ∧ its.size ≤ sizeLine ∧ Vals xs its.toList
def SqT (K : PySem.W.Frag) (H : Hp) (a : Addr) (xs : List V) : Prop :=
  Rd H a (.tup xs) ∨
    Ex3 fun (o : Obj) (its : Array Value) (n : Nat) => K.lookup a = some o ∧ o.cls = .type "tuple" ∧ o.data = .seq its n ∧ its.size ≤ sizeLine ∧ Vals xs its.toList
def absV : Value → Option V
  | .none => some .non
  | .bool b => some (.bl b)
  | .int i _ => some (.int i)
  | .str x _ => some (.str x)
  | .bytes b _ => some (.byt b)
  | .float b _ => some (.flt b)
  | .ref a => some (.ref a)
  | .type n => some (.ty n)
  | _ => none
theorem RelV.abs {x : V} {u : Value} (r : RelV x u) : absV u = some x := by
  cases x with
  | non => cases r; rfl
  | bl _ => cases r; rfl
  | int _ => obtain ⟨t, rfl⟩ := r; rfl
  | str _ => obtain ⟨t, rfl⟩ := r; rfl
  | byt _ => obtain ⟨t, rfl⟩ := r; rfl
  | flt _ => obtain ⟨t, rfl⟩ := r; rfl
  | ref _ => cases r; rfl
  | ty _ => cases r; rfl
theorem RelV.inj {x y : V} {u : Value} (r : RelV x u) (q : RelV y u) : x = y := Option.some.inj (r.abs.symm.trans q.abs)
theorem Vals.inj : ∀ {xs ys : List V} {us : List Value}, Vals xs us → Vals ys us → xs = ys
  | _, _, _, .nil, .nil => rfl
  | _, _, _, .cons r t, .cons r' t' => by rw [r.inj r', Vals.inj t t']
section
variable {X : Cx} {pins : List (Addr × Obj)} {σ : St} {H : Hp} {s : Shared} {a : Addr} {xs ys : List V}
theorem SqL.of {K : PySem.W.Frag} (h : H a = some (.lst xs)) : SqL K H a xs := .inl (.inl h)
theorem SqT.of {K : PySem.W.Frag} (h : H a = some (.tup xs)) : SqT K H a xs := .inl (.inl h)
theorem Inv.list (I : Inv X pins σ H s) (h : SqL X.K H a xs) : ∃ its : List Value, Vals xs its ∧ PlainL s.heap a its.toArray ∧ xs.length ≤ sizeLine := by
  rcases h with h | ⟨o, its, n, hk, hc, hd, hs, hz, r⟩
  · obtain ⟨z, its, n, r, e⟩ := h.ok I.hok
    exact ⟨its, r, ⟨_, n, e, rfl, rfl, rfl⟩, z⟩
  · refine ⟨its.toList, r, ⟨o, n, I.kIn a o hk, hc, hd, by simpa using hs⟩, ?_⟩
    have e := r.length
    simp only [Array.length_toList] at e
    trivial
theorem Inv.tuple (I : Inv X pins σ H s) (h : SqT X.K H a xs) : ∃ its : List Value, Vals xs its ∧ IsTup s.heap a its.toArray ∧ xs.length ≤ sizeLine := by
  rcases h with h | ⟨o, its, n, hk, hc, hs, hz, r⟩
  · obtain ⟨z, its, r, p, _⟩ := h.ok I.hok
    exact ⟨its, r, p, z⟩
  · refine ⟨its.toList, r, ⟨o, I.kIn a o hk, hc, n, by simpa using hs⟩, ?_⟩
    have e := r.length
    simp only [Array.length_toList] at e
    trivial
theorem Inv.list_inj (I : Inv X pins σ H s) (h : SqL X.K H a xs) (h' : SqL X.K H a ys) : xs = ys := by
  obtain ⟨its, r, ⟨o, n, e, _, _, d⟩, _⟩ := I.list h
  obtain ⟨its', r', ⟨o', n', e', _, _, d'⟩, _⟩ := I.list h'
  rw [e] at e'; cases e'
  rw [d] at d'
  injection d' with d1 _
  have : its = its' := by simpa using congrArg Array.toList d1
  subst this
  exact r.inj r'
theorem Inv.tuple_inj (I : Inv X pins σ H s) (h : SqT X.K H a xs) (h' : SqT X.K H a ys) : xs = ys := by
  obtain ⟨its, r, ⟨o, e, _, n, d⟩, _⟩ := I.tuple h
  obtain ⟨its', r', ⟨o', e', _, n', d'⟩, _⟩ := I.tuple h'
  rw [e] at e'; cases e'
  rw [d] at d'
  injection d' with d1 _
  have : its = its' := by simpa using congrArg Array.toList d1
  subst this
  exact r.inj r'
end
abbrev Cx.wish (X : Cx) (E : Value → Shared → Prop) : Cx := { X with xe := E }
abbrev Cx.nox (X : Cx) : Cx := X.wish fun _ _ => False
theorem Cx.Ok.wish {X : Cx} (ok : X.Ok) (E : Value → Shared → Prop) : (X.wish E).Ok :=
  ⟨ok.mod, ok.kind, ok.glob, ok.blt, ok.above, ok.inj, ok.has, ok.cab, ok.hd, ok.frames, ok.stk, ok.exf, ok.bs, ok.bsz, ok.noex, ok.exfs, ok.funs, ok.frf⟩
theorem Cx.Ok.unwish {X : Cx} {E : Value → Shared → Prop} (ok : (X.wish E).Ok) : X.Ok :=
  ⟨ok.mod, ok.kind, ok.glob, ok.blt, ok.above, ok.inj, ok.has, ok.cab, ok.hd, ok.frames, ok.stk, ok.exf, ok.bs, ok.bsz, ok.noex, ok.exfs, ok.funs, ok.frf⟩
section
variable {X : Cx} {pins : List (Addr × Obj)} {σ : St} {H : Hp} {s : Shared} {E : Value → Shared → Prop}
theorem Inv.wish (I : Inv X pins σ H s) (E : Value → Shared → Prop) : Inv (X.wish E) pins σ H s := ⟨I.ok.wish E, I.os, I.bare, I.base, I.loc, I.cell, I.free, I.freeC, I.pin, I.hok, I.len⟩
theorem Inv.unwish (I : Inv (X.wish E) pins σ H s) : Inv X pins σ H s := ⟨I.ok.unwish, I.os, I.bare, I.base, I.loc, I.cell, I.free, I.freeC, I.pin, I.hok, I.len⟩
theorem SP.unwish {D : Ends} {f : Flow} {s' : Shared} (h : SP (X.wish E) pins D f s') : SP X pins D f s' := by
  cases f with
  | next => obtain ⟨σ', H', I, q⟩ := h; exact ⟨σ', H', I.unwish, q⟩
  | brk => obtain ⟨σ', H', I, q⟩ := h; exact ⟨σ', H', I.unwish, q⟩
  | cont => obtain ⟨σ', H', I, q⟩ := h; exact ⟨σ', H', I.unwish, q⟩
  | ret u => obtain ⟨v, σ', H', I, r, q⟩ := h; exact ⟨v, σ', H', I.unwish, r, q⟩
theorem PSs.nox {st : List Stmt} {t : TS} (h : PSs X.nox st t) : PSs X st t := fun pins s σ H D I hw =>
  wpAny_mono (h pins s σ H D (I.wish _) hw) (fun _ _ q => q.unwish) fun _ _ z => False.elim z
end
section
variable {X : Cx} {st : Stmt} {rest : List Stmt} {t u : TS} {e : Expr} {te : TE} {pos : Pos}
def tNext : TS := fun D σ H => D.nx σ H
def tSeq (t u : TS) : TS := fun D σ H => t { D with nx := u D } σ H
theorem pss_nil : PSs X [] tNext := fun _ _ σ H _ I h => wpAny_execs_nil ⟨σ, H, I, h⟩
theorem pss_cons (h1 : PS X st t) (h2 : PSs X rest u) : PSs X (st :: rest) (tSeq t u) := by
  intro pins s σ H D I h
  refine wpAny_execs_cons (thn (h1 pins s σ H { D with nx := u D } I h) fun f s1 q => ?_)
  cases f with
  | next =>
    obtain ⟨σ', H', I', q⟩ := q
    exact h2 pins s1 σ' H' D I' q
  | ret v => exact q
  | brk => exact q
  | cont => exact q
theorem pss_one (h1 : PS X st t) : PSs X [st] t := by
  intro pins s σ H D I h
  refine wpAny_execs_cons (thn (h1 pins s σ H D I h) fun f s1 q => ?_)
  cases f with
  | next => exact wpAny_execs_nil q
  | ret v => exact q
  | brk => exact q
  | cont => exact q
theorem Inv.quiet {pins : List (Addr × Obj)} {σ : St} {H : Hp} {s : Shared} (I : Inv X pins σ H s) : interactive X.env = false := by simp [interactive, I.ok.kind]
def tDrop (te : TE) : TS := fun D σ H => te σ H fun _ H1 => D.nx σ H1
theorem ps_expr (he : PE X e te) (hs : swapsWith e none pos.line X.env = pure false := by rfl) : PS X (.Expr e pos) (tDrop te) := by
  intro pins s σ H D I h
  exact wpAny_Expr_any (thn (he pins s σ H _ I h) fun v s1 ⟨x, H1, I1, r1, q1⟩ => ⟨σ, H1, I1, q1⟩) I.quiet hs
def tRet (te : TE) : TS := fun D σ H => te σ H D.rt
theorem ps_ret (he : PE X e te) : PS X (.Return (some e) pos) (tRet te) := by
  intro pins s σ H D I h
  exact wpAny_Return_some (thn (he pins s σ H _ I h) fun v s1 ⟨x, H1, I1, r1, q1⟩ => ⟨x, σ, H1, I1, r1, q1⟩)
def tIfS (c : TT) (t u : TS) : TS := fun D σ H => c σ H fun b H1 => if b = true then t D σ H1 else u D σ H1
theorem ps_if {c : Expr} {a b : List Stmt} {tc : TT} (hc : PT X c tc) (ha : PSs X a t) (hb : PSs X b u) : PS X (.If c a b pos) (tIfS tc t u) := by
  intro pins s σ H D I h
  refine wpAny_If (thn (hc pins s σ H _ I h) fun d s1 ⟨H1, I1, q1⟩ => ?_)
  cases d with
  | true => exact ha pins s1 σ H1 D I1 q1
  | false => exact hb pins s1 σ H1 D I1 q1
end
abbrev TG := V → St → Hp → (St → Hp → Prop) → Prop
abbrev TGs := List V → St → Hp → (St → Hp → Prop) → Prop
def PG (X : Cx) (target : Expr) (t : TG) : Prop :=
  ∀ (pins : List (Addr × Obj)) (s : Shared) (σ : St) (H : Hp) (v : V) (u : Value) (Q : St → Hp → Prop), Inv X pins σ H s → RelV v u → t v σ H Q →
    wpAny (model X.prog X.w) X.A (assign target X.env u) (fun _ s' => ∃ σ' H', Inv X pins σ' H' s' ∧ Q σ' H') X.xe s
def PGs (X : Cx) (ts : List Expr) (t : TGs) : Prop :=
  ∀ (pins : List (Addr × Obj)) (s : Shared) (σ : St) (H : Hp) (vs : List V) (us : List Value) (Q : St → Hp → Prop), Inv X pins σ H s → Vals vs us → t vs σ H Q →
    wpAny (model X.prog X.w) X.A (assignInOrder ((assignEach ts X.env).map (·.2)) us) (fun _ s' => ∃ σ' H', Inv X pins σ' H' s' ∧ Q σ' H') X.xe s
abbrev TSet := V → V → V → Hp → (Hp → Prop) → Prop
def PSet (X : Cx) (t : TSet) : Prop :=
  ∀ (pins : List (Addr × Obj)) (s : Shared) (σ : St) (H : Hp) (o i v : V) (ov iv u : Value) (Q : Hp → Prop), Inv X pins σ H s → RelV o ov → RelV i iv → RelV v u → t o i v H Q →
    wpAny (model X.prog X.w) X.A (setItem ov iv u) (fun _ s' => ∃ H', Inv X pins σ H' s' ∧ Q H') X.xe s
section
variable {X : Cx} {pos : Pos}
def gName (i : Nat) : TG := fun v σ H Q => Q (σ.set i (some v)) H
theorem pg_name {i : Nat} {x : Str} (hN : X.N.Nodup) (hi : X.N[i]? = some x) (hx : Loc X.env.scope x) (hf : X.fn x = true ∨ X.env.scope.names.lookup x = some .local := by first | exact .inl rfl | exact .inr rfl | assumption) : PG X (.Name x pos) (gName i) := by
  intro pins s σ H v u Q I r h
  exact wpAny_assign_Name (store_ok I hN hi hx r (fun s' I' => ⟨_, H, I', h⟩) hf)
def gNil : TGs := fun vs σ H Q => vs = [] ∧ Q σ H
inductive gCons_ (t : TG) (u : TGs) (vs : List V) (σ : St) (H : Hp) (Q : St → Hp → Prop) : Prop
  | mk (v : _) (r : _) (h0 : vs = v :: r) (h1 : t v σ H fun σ' H' => u r σ' H' Q)
def gCons (t : TG) (u : TGs) : TGs := fun vs σ H Q => gCons_ t u vs σ H Q
theorem pgs_nil : PGs X [] gNil := by
  intro pins s σ H vs us Q I r h
  obtain ⟨e, h⟩ := h
  subst e
  cases r
  exact assignInOrder_nil ⟨σ, H, I, h⟩
theorem pgs_cons {e : Expr} {es : List Expr} {t : TG} {u : TGs} (h1 : PG X e t) (h2 : PGs X es u)
    (hs : (assignEach (e :: es) X.env).map (·.2) = assign e X.env :: (assignEach es X.env).map (·.2) := by rfl) : PGs X (e :: es) (gCons t u) := by
  intro pins s σ H vs us Q I r h
  obtain ⟨v, vr, e1, h⟩ := h
  subst e1
  cases r with
  | cons r rr =>
    rw [hs]
    refine assignInOrder_cons (thn (h1 pins s σ H _ _ _ I r h) fun _ s1 ⟨σ1, H1, I1, q1⟩ => ?_)
    exact h2 pins s1 σ1 H1 _ _ Q I1 rr q1
inductive gTup_ (K : PySem.W.Frag) (n : Nat) (t : TGs) (v : V) (σ : St) (H : Hp) (Q : St → Hp → Prop) : Prop
  | mk (a : _) (xs : _) (h0 : v = .ref a) (h1 : SqT K H a xs) (h2 : xs.length = n) (h3 : t xs σ H Q)
def gTup (K : PySem.W.Frag) (n : Nat) (t : TGs) : TG := fun v σ H Q => gTup_ K n t v σ H Q
theorem pg_tup {es : List Expr} {k : Nat} {t : TGs} {n : Nat} (hc : X.calm = true) (h : PGs X es t)
    (hn : (assignEach es X.env).length = n := by rfl) (hst : (assignEach es X.env).findIdx? (·.1) = none := by rfl) : PG X (.Tuple es k pos) (gTup X.K n t) := by
  intro pins s σ H v u Q I r hw
  obtain ⟨a, xs, e1, hq, hl, hw⟩ := hw
  subst e1
  cases r
  obtain ⟨its, rv, ht, hz⟩ := I.tuple hq
  refine assign_Tuple_tuple (I.ok.hd hc) ht (by simp [hn, ← hl, rv.length]) hst fun h' hx => ?_
  have I1 : Inv X pins σ H { s with heap := h' } := I.kept (t' := s.toks) fun b o e => hx b o (Nat.ne_of_lt (Heap.lt_size e)) e
  exact h pins _ σ H xs _ Q I1 (by simpa using rv) hw
def gSub (to ti : TE) (t : TSet) : TG := fun v σ H Q => to σ H fun o H1 => ti σ H1 fun i H2 => t o i v H2 fun H3 => Q σ H3
theorem pg_sub {o i : Expr} {to ti : TE} {t : TSet} (ho : PE X o to) (hi : PE X i ti) (hs : PSet X t)
    (ha : ∀ v, assign (.Subscript o i pos) X.env v = (do
      let ov ← holding [v] (eval o X.env)
      let iv ← holding [v, ov] (eval i X.env)
      standAt pos
      holding [v, ov, iv] (setItem ov iv v)
      release [v, ov, iv] []) := by intro _; rfl) : PG X (.Subscript o i pos) (gSub to ti t) := by
  intro pins s σ H v u Q I r h
  rw [ha]
  refine wpAny_bind (wpAny_holding (thn (ho pins s σ H _ I h) fun ov s1 ⟨x, H1, I1, r1, q1⟩ => ?_))
  refine wpAny_bind (wpAny_holding (thn (hi pins s1 σ H1 _ I1 q1) fun iv s2 ⟨y, H2, I2, r2, q2⟩ => ?_))
  refine wpAny_bind (wpAny_standAt (wpAny_bind (wpAny_holding (thn (hs pins s2 σ H2 x y v ov iv u _ I2 r1 r2 r q2) fun _ s3 ⟨H3, I3, q3⟩ => ?_))))
  exact wpAny_release ⟨σ, H3, I3, q3⟩
def tAsg (te : TE) (g : TG) : TS := fun D σ H => te σ H fun x H1 => g x σ H1 D.nx
theorem ps_asg {tg e : Expr} {te : TE} {g : TG} (he : PE X e te) (hg : PG X tg g) (hs : swapsWithSole [tg] e pos.line X.env = pure false := by rfl) (hw : swappedStores [tg] e X.env = pure none := by rfl)
    (h1 : (assignEach [tg] X.env).map (·.2) = [assign tg X.env] := by rfl) : PS X (.Assign [tg] e pos) (tAsg te g) := by
  intro pins s σ H D I h
  refine wpAny_Assign_stores (thn (he pins s σ H _ I h) fun v s1 ⟨x, H1, I1, r1, q1⟩ => ?_) hs hw
  rw [h1]
  exact thn (hg pins s1 σ H1 x v _ I1 r1 q1) fun _ s2 q => q
theorem ps_set {i : Nat} {x : Str} {e : Expr} {te : TE} {pos' : Pos} (hN : X.N.Nodup) (hi : X.N[i]? = some x) (hx : Loc X.env.scope x) (he : PE X e te) (hs : swapsWith e (some (.Name x pos')) pos.line X.env = pure false := by rfl) (hf : X.fn x = true ∨ X.env.scope.names.lookup x = some .local := by first | exact .inl rfl | exact .inr rfl | assumption) :
    PS X (.Assign [.Name x pos'] e pos) (tAsg te (gName i)) := by
  intro pins s σ H D I h
  refine wpAny_Assign_Name (thn (he pins s σ H _ I h) fun v s1 ⟨y, H1, I1, r1, q1⟩ => ?_) hs
  exact store_ok I1 hN hi hx r1 (fun s2 I2 => ⟨_, H1, I2, q1⟩) hf
def tPar (i j : Nat) (ta : TA) : TS := fun D σ H => ta σ H fun vs H1 => Ex2 fun v w => vs = [v, w] ∧ D.nx ((σ.set i (some v)).set j (some w)) H1
theorem ps_par {i j : Nat} {x y : Str} {a b : Expr} {ta : TA} {px py pt : Pos} {kt k2 pt2} (hc : X.calm = true) (hN : X.N.Nodup) (hi : X.N[i]? = some x) (hj : X.N[j]? = some y) (hij : i ≠ j)
    (hx : X.env.scope.names.lookup x = some .local) (hy : X.env.scope.names.lookup y = some .local) (ha : PA X [a, b] ta)
    (hw : swappedStores [.Tuple [.Name x px, .Name y py] kt pt] (.Tuple [a, b] k2 pt2) X.env = pure (some [x, y]))
    (hs : swapsWithSole [.Tuple [.Name x px, .Name y py] kt pt] (.Tuple [a, b] k2 pt2) pos.line X.env = pure false := by rfl) :
    PS X (.Assign [.Tuple [.Name x px, .Name y py] kt pt] (.Tuple [a, b] k2 pt2) pos) (tPar i j ta) := by
  intro pins s σ H D I h
  rw [exec_Assign_arm]
  refine wpAny_bind (wpAny_standAt ?_)
  rw [hs]
  refine wpAny_bind (wpAny_pure ?_)
  rw [if_neg (by decide)]
  refine wpAny_bind (Tuple_ (thn (ha _ pins s σ H _ I h) fun us s1 ⟨vs, H1, I1, r1, q1⟩ => ?_))
  obtain ⟨v, w, e1, q1⟩ := q1
  subst e1
  obtain ⟨u1, u2, rfl, rv, rw'⟩ : Ex2 fun u1 u2 => us = [u1, u2] ∧ RelV v u1 ∧ RelV w u2 := by
    cases r1 with
    | cons p q =>
      cases q with
      | cons p' q' =>
        cases q'
        exact ⟨_, _, rfl, p, p'⟩
  refine wpAny_newObj_type ?_ (by show 2 ≤ sizeLine; decide)
  have I2 : Inv X pins σ H1 { s1 with heap := s1.heap.push { cls := .type "tuple", data := .seq [u1, u2].toArray } } := I1.kept (t' := s1.toks) fun b o e => Heap.get?_push_of_some _ e
  rw [hw]
  refine wpAny_bind (wpAny_pure ?_)
  show wpAny (model X.prog X.w) X.A (do rule "assign.swapped-stores"; let items ← unpackItems (.ref s1.heap.objs.size) 2 none; assignInOrder [fun v => bindName X.env y v, fun v => bindName X.env x v] items.reverse; pure Flow.next) _ _ _
  refine wpAny_bind (wpAny_rule (wpAny_bind (unpackItems_tuple (items := #[u1, u2]) (I.ok.hd hc) (IsTup.new s1.heap _) fun h' hx' => ?_)))
  have I3 := I2.kept (h' := h') (t' := s1.toks) fun b o e => hx' b o (Nat.ne_of_lt (Heap.lt_size e)) e
  show wpAny _ _ (assignInOrder [fun v => bindName X.env y v, fun v => bindName X.env x v] [u2, u1] >>= fun _ => pure Flow.next) _ _ _
  refine wpAny_bind (assignInOrder_cons (wpAny_bindName (store_ok I3 hN hj (.inl hy) rw' (fun s2 I4 => ?_) (.inr hy))))
  refine assignInOrder_cons (wpAny_bindName (store_ok I4 hN hi (.inl hx) rv (fun s3 I5 => assignInOrder_nil (wpAny_pure ?_)) (.inr hx)))
  rw [List.set_comm _ _ (Ne.symm hij)] at I5
  exact ⟨_, H1, I5, q1⟩
end
section
variable {X : Cx} {pos : Pos}
def tWhile (c : TT) (tb : TS) : TS := fun D σ H => ∃ W : Nat → St → Hp → Prop, (∃ m, W m σ H) ∧ ∀ m σ H, W m σ H →
  c σ H fun b H1 => if b = true then ∃ N : St → Hp → Prop, (∀ σ' H', N σ' H' → ∃ m', m' < m ∧ W m' σ' H') ∧ tb { D with nx := N, ct := N, bk := D.nx } σ H1 else D.nx σ H1
theorem ps_while {c : Expr} {body : List Stmt} {tc : TT} {tb : TS} (hp : PassesOwn (model X.prog X.w) X.A X.env X.xe) (hc : PT X c tc) (hb : PSs X body tb) : PS X (.While c body [] pos) (tWhile tc tb) := by
  intro pins s σ H D I h
  obtain ⟨W, ⟨m0, w0⟩, turn⟩ := h
  refine wpAny_While (codeAny_whileLoop (fun n s' => ∃ σ' H', Inv X pins σ' H' s' ∧ W n σ' H') ?_ m0 ⟨σ, H, I, w0⟩)
  rintro n s1 ⟨σ1, H1, I1, w1⟩
  refine wpAny_passesOwn hp (thn (hc pins s1 σ1 H1 _ I1 (turn n σ1 H1 w1)) fun b s2 ⟨H2, I2, q2⟩ => ?_)
  cases b with
  | true =>
    obtain ⟨N, hN, q2⟩ := q2
    rw [if_pos rfl]
    refine wpAny_passesOwn hp (thn (hb pins s2 σ1 H2 _ I2 q2) fun f s3 q3 => ?_)
    cases f with
    | next =>
      obtain ⟨σ3, H3, I3, n3⟩ := q3
      obtain ⟨m', hm, w3⟩ := hN σ3 H3 n3
      exact ⟨m', hm, σ3, H3, I3, w3⟩
    | cont =>
      obtain ⟨σ3, H3, I3, n3⟩ := q3
      obtain ⟨m', hm, w3⟩ := hN σ3 H3 n3
      exact ⟨m', hm, σ3, H3, I3, w3⟩
    | brk => exact q3
    | ret v => exact q3
  | false =>
    rw [if_neg Bool.false_ne_true]
    exact wpAny_execs_nil ⟨σ1, H2, I2, q2⟩
end
structure It where
  go : Nat → Hp → Prop
  yld : Nat → Hp → V → Hp → Prop
  stop : Nat → Hp → Prop
def FpOk (X : Cx) (pins : List (Addr × Obj)) (H : Hp) (b : Addr) : Prop :=
  H b = none ∧ b ≠ X.env.locals ∧ b ∉ X.fs ∧ (b ∈ X.ex ∨ X.s₀.heap.objs.size ≤ b) ∧ (∀ x c, X.env.cells.lookup x = some c → c ≠ b) ∧ ∀ p ∈ X.pn ++ pins, p.1 ≠ b
theorem Inv.fpOk {X : Cx} {pins : List (Addr × Obj)} {σ : St} {H H' : Hp} {s : Shared} {b : Addr} (I : Inv X pins σ H s) (hb : s.heap.objs.size ≤ b) (hn : H' b = none) : FpOk X pins H' b := by
  refine ⟨hn, Nat.ne_of_gt (Nat.lt_of_lt_of_le I.lt hb), I.nofs hb, .inr (Nat.le_trans I.sz hb), fun x c e z => ?_, fun p hp z => ?_⟩
  · obtain ⟨v, q⟩ := I.cell x c e
    exact absurd (Nat.lt_of_lt_of_le q.lt (by rw [z]; exact hb)) (Nat.lt_irrefl _)
  · exact absurd (Nat.lt_of_lt_of_le (Heap.lt_size (I.pin p hp).1) (by rw [z]; exact hb)) (Nat.lt_irrefl _)
structure Turn (P : Program) (w : World) (K : PySem.W.Frag) (tg : Expr) (J : It) (fp : List Addr) (it : Addr) (tn : Nat → Heap → Prop) : Prop where
  mem : it ∈ fp
  obj : ∀ i h, tn i h → ∀ b ∈ fp, ∃ o, h.get? b = some o ∧ ∀ v, o.data ≠ .cell v
  keep : ∀ i h h', tn i h → (∀ b ∈ fp, ∀ o, h.get? b = some o → h'.get? b = some o) → tn i h'
  item : ∀ (X : Cx), X.prog = P → X.w = w → X.K = K → X.calm = true → ∀ (i : Nat) (pins : List (Addr × Obj)) (s : Shared) (σ : St) (H : Hp) (E : Value → Shared → Prop), Inv X pins σ H s → (∀ b ∈ fp, FpOk X pins H b) → tn i s.heap → J.go i H →
    wpAny (model P w) X.A (pyNext (.ref it)) (fun r s1 => ∃ u, r = some u ∧
      wpAny (model P w) X.A (letOwnedTupleGo tg (.ref it) u) (fun _ s2 => Ex2 fun x H' => Inv X pins σ H' s2 ∧ RelV x u ∧ J.yld i H x H' ∧ tn (i + 1) s2.heap ∧ ∀ b ∈ fp, H' b = none) E s1) E s
  done : ∀ (X : Cx), X.prog = P → X.w = w → X.K = K → X.calm = true → ∀ (i : Nat) (pins : List (Addr × Obj)) (s : Shared) (σ : St) (H : Hp) (E : Value → Shared → Prop), Inv X pins σ H s → (∀ b ∈ fp, FpOk X pins H b) → tn i s.heap → J.stop i H →
    wpAny (model P w) X.A (pyNext (.ref it)) (fun r s1 => r = none ∧ Inv X pins σ H s1) E s
  self : ∀ (A : Around) (i : Nat) (s : Shared) (Q : Value → Shared → Prop) (E : Value → Shared → Prop), tn i s.heap → Q (.ref it) s → wpAny (model P w) A (pyIter (.ref it)) Q E s
abbrev TI := St → Hp → (It → Hp → Prop) → Prop
def PIE (X : Cx) (pins : List (Addr × Obj)) (σ : St) (tg : Expr) (R : It → Hp → Prop) (itv : Value) (s2 : Shared) : Prop :=
  Ex5 fun (it : Addr) (fp : List Addr) (tn : Nat → Heap → Prop) (J : It) (H' : Hp) => itv = .ref it ∧ Inv X pins σ H' s2 ∧ Turn X.prog X.w X.K tg J fp it tn ∧ tn 0 s2.heap ∧ (∀ b ∈ fp, FpOk X pins H' b) ∧ R J H'
def PI (X : Cx) (tg iter : Expr) (wi : TI) : Prop :=
  ∀ (pins : List (Addr × Obj)) (s : Shared) (σ : St) (H : Hp) (R : It → Hp → Prop), Inv X pins σ H s → wi σ H R →
    wpAny (model X.prog X.w) X.A (eval iter X.env) (fun v s1 => wpAny (model X.prog X.w) X.A (pyIter v) (PIE X pins σ tg R) X.xe s1) X.xe s
theorem go_of {M : Model} {A : Around} {E : Value → Shared → Prop} {s : Shared} {tg : Expr} {it : Addr} {u : Value} {o : Obj} {n : String} {vs : Array Value} {Q : Unit → Shared → Prop} (ho : s.heap.get? it = some o) (hc : o.cls = .type n) (hd : o.data = .fields vs)
    (hn : ["enumerate", "zip", "dict_itemiterator", "dict_reverseitemiterator", "odict_iterator", "itertools.zip_longest", "itertools.pairwise"].contains n = false) (hQ : Q () s) : wpAny M A (letOwnedTupleGo tg (.ref it) u) Q E s := by
  unfold letOwnedTupleGo
  cases tg <;> first
    | exact wpAny_pure hQ
    | (cases u <;> first
        | exact wpAny_pure hQ
        | (refine wpAny_bind (wpAny_load ho ?_)
           rw [hc, hd]
           show wpAny M A (if (["enumerate", "zip", "dict_itemiterator", "dict_reverseitemiterator", "odict_iterator", "itertools.zip_longest", "itertools.pairwise"].contains n && vs[0]? == some (rawInt _)) = true then _ else _) Q E s
           rw [if_neg (by intro h; rw [hn, Bool.false_and] at h; cases h)]
           exact wpAny_pure hQ))
def Itl (K : PySem.W.Frag) (a : Addr) : It :=
  ⟨fun i H => Ex2 fun xs x => SqL K H a xs ∧ xs[i]? = some x, fun i H x H' => H' = H ∧ ∀ xs, SqL K H a xs → xs[i]? = some x, fun i H => ∃ xs, SqL K H a xs ∧ xs.length ≤ i⟩
def Itt (K : PySem.W.Frag) (a : Addr) : It :=
  ⟨fun i H => Ex2 fun xs x => SqT K H a xs ∧ xs[i]? = some x, fun i H x H' => H' = H ∧ ∀ xs, SqT K H a xs → xs[i]? = some x, fun i H => ∃ xs, SqT K H a xs ∧ xs.length ≤ i⟩
def Itr (lo : Int) (n : Nat) : It := ⟨fun i _ => i < n, fun i H x H' => H' = H ∧ x = .int (lo + i), fun i _ => n ≤ i⟩
theorem turn_list {P : Program} {w : World} {K : PySem.W.Frag} {tg : Expr} (a it : Addr) : Turn P w K tg (Itl K a) [it] it (fun i h => h.IsListIter it a i) where
  mem := by simp
  obj := fun i h st b hb => by
    have e : b = it := by simpa using hb
    subst e
    obtain ⟨o, e, c, d⟩ := st
    exact ⟨o, e, fun v z => by rw [d] at z; cases z⟩
  keep := fun i h h' st k => st.at fun o e => k it (by simp) o e
  item := by
    intro X hP hw hK hc i pins s σ H E I hf st hg
    subst hP hw hK
    obtain ⟨xs, x, hq, hx⟩ := hg
    obtain ⟨its, rv, p, hz⟩ := I.list hq
    obtain ⟨u, hu, ru⟩ := rv.get hx
    obtain ⟨f0, f1, f2, f3, f4, f5⟩ := hf it (by simp)
    refine wpAny_pyNext_list_item st p.isList (x := u) (by simpa using hu) fun h' st' sb => ?_
    have I1 : Inv X pins σ H { s with heap := h' } := I.turned (t' := s.toks) (fun b o hb e => (sb.2 b hb).trans e) f0 f1 f3 f4 f5
    obtain ⟨o, e, c, d⟩ := id st'
    exact ⟨u, rfl, go_of (s := { s with heap := h' }) e c d (by decide) ⟨x, H, I1, ru, ⟨rfl, fun ys hy => by rw [I.list_inj hy hq]; exact hx⟩, st', fun b hb => (hf b hb).1⟩⟩
  done := by
    intro X hP hw hK hc i pins s σ H E I hf st hg
    subst hP hw hK
    obtain ⟨xs, hq, hx⟩ := hg
    obtain ⟨its, rv, p, hz⟩ := I.list hq
    obtain ⟨f0, f1, f2, f3, f4, f5⟩ := hf it (by simp)
    have hl := rv.length
    exact wpAny_pyNext_list_end (I.ok.hd hc) st p.isList (by simp; trivial) fun h' eb => ⟨rfl, I.turned (t' := s.toks) (fun b o hb e => eb b o hb e) f0 f1 f3 f4 f5⟩
  self := fun _ _ _ _ _ st h => wpAny_pyIter_listiter st h
theorem turn_tuple {P : Program} {w : World} {K : PySem.W.Frag} {tg : Expr} (a it : Addr) : Turn P w K tg (Itt K a) [it] it (fun i h => h.IsTupleIter it a i) where
  mem := by simp
  obj := fun i h st b hb => by
    have e : b = it := by simpa using hb
    subst e
    obtain ⟨o, e, c, d⟩ := st
    exact ⟨o, e, fun v z => by rw [d] at z; cases z⟩
  keep := fun i h h' st k => st.at fun o e => k it (by simp) o e
  item := by
    intro X hP hw hK hc i pins s σ H E I hf st hg
    subst hP hw hK
    obtain ⟨xs, x, hq, hx⟩ := hg
    obtain ⟨its, rv, p, hz⟩ := I.tuple hq
    obtain ⟨u, hu, ru⟩ := rv.get hx
    obtain ⟨f0, f1, f2, f3, f4, f5⟩ := hf it (by simp)
    refine wpAny_pyNext_tuple_item st (show s.heap.IsTuple a its.toArray from p) (x := u) (by simpa using hu) fun h' st' sb => ?_
    have I1 : Inv X pins σ H { s with heap := h' } := I.turned (t' := s.toks) (fun b o hb e => (sb.2 b hb).trans e) f0 f1 f3 f4 f5
    obtain ⟨o, e, c, d⟩ := id st'
    exact ⟨u, rfl, go_of (s := { s with heap := h' }) e c d (by decide) ⟨x, H, I1, ru, ⟨rfl, fun ys hy => by rw [I.tuple_inj hy hq]; exact hx⟩, st', fun b hb => (hf b hb).1⟩⟩
  done := by
    intro X hP hw hK hc i pins s σ H E I hf st hg
    subst hP hw hK
    obtain ⟨xs, hq, hx⟩ := hg
    obtain ⟨its, rv, p, hz⟩ := I.tuple hq
    obtain ⟨f0, f1, f2, f3, f4, f5⟩ := hf it (by simp)
    have hl := rv.length
    exact wpAny_pyNext_tuple_end (I.ok.hd hc) st (show s.heap.IsTuple a its.toArray from p) (by simp; trivial) fun h' eb => ⟨rfl, I.turned (t' := s.toks) (fun b o hb e => eb b o hb e) f0 f1 f3 f4 f5⟩
  self := fun _ _ _ _ _ st h => wpAny_pyIter_tupleiter st h
theorem turn_range {P : Program} {w : World} {K : PySem.W.Frag} {tg : Expr} (it : Addr) (lo : Int) (n : Nat) : Turn P w K tg (Itr lo n) [it] it (fun i h => IsRangeIter h it (lo + (i : Nat) * 1) ((n : Int) - (i : Nat)) 1) where
  mem := by simp
  obj := fun i h st b hb => by
    have e : b = it := by simpa using hb
    subst e
    exact ⟨_, st, fun v z => by
      have z' : Data.fields _ = Data.cell v := z
      cases z'⟩
  keep := fun i h h' st k => k it (by simp) _ st
  item := by
    intro X hP hw hK hc i pins s σ H E I hf st hg
    subst hP hw hK
    obtain ⟨f0, f1, f2, f3, f4, f5⟩ := hf it (by simp)
    have W := Walks.range (prog := X.prog) (w := X.w) (I.ok.hd hc) it lo 1 n
    refine W.item i s _ _ hg st fun v h' tk hv st' kk => ?_
    obtain ⟨t, rfl⟩ := hv
    have I1 : Inv X pins σ H { s with heap := h', toks := tk } := I.turned (fun b o hb e => kk b o (by simpa using hb) e) f0 f1 f3 f4 f5
    refine ⟨_, rfl, go_of (s := { s with heap := h', toks := tk }) (n := "range_iterator") st' rfl rfl (by decide) ⟨.int (lo + i), H, I1, ⟨t, ?_⟩, ⟨rfl, rfl⟩, st', fun b hb => (hf b hb).1⟩⟩
    rw [Int.mul_one]
  done := by
    intro X hP hw hK hc i pins s σ H E I hf st hg
    subst hP hw hK
    obtain ⟨f0, f1, f2, f3, f4, f5⟩ := hf it (by simp)
    exact wpAny_pyNext_range_end (I.ok.hd hc) st (by have : n ≤ i := hg; trivial) fun h' eb => ⟨rfl, I.turned (t' := s.toks) (fun b o hb e => eb b o hb e) f0 f1 f3 f4 f5⟩
  self := fun _ _ _ _ _ st h => wpAny_pyIter_rangeiter st h
end L2
namespace L2
open PySem PySem.Spec PyProof.Rows
section
variable {X : Cx} {tg : Expr}
def iList (K : PySem.W.Frag) (tl : TE) : TI := fun σ H R => tl σ H fun x H1 => ∃ a, x = .ref a ∧ (∃ xs, SqL K H1 a xs) ∧ R (Itl K a) H1
def iTup (K : PySem.W.Frag) (tl : TE) : TI := fun σ H R => tl σ H fun x H1 => ∃ a, x = .ref a ∧ (∃ xs, SqT K H1 a xs) ∧ R (Itt K a) H1
theorem pi_list {l : Expr} {tl : TE} (hl : PE X l tl) : PI X tg l (iList X.K tl) := by
  intro pins s σ H R I h
  refine thn (hl pins s σ H _ I h) fun v s1 ⟨x, H1, I1, r1, q1⟩ => ?_
  obtain ⟨a, e, ⟨xs, hq⟩, q⟩ := q1
  subst e
  cases r1
  obtain ⟨its, rv, p, hz⟩ := I1.list hq
  refine wpAny_pyIter_list p.isList ?_
  refine ⟨s1.heap.objs.size, [s1.heap.objs.size], _, _, H1, rfl, I1.kept (t' := s1.toks) fun b o e => Heap.get?_push_of_some _ e, turn_list a _, ⟨_, Heap.get?_push_size _ rfl, rfl, rfl⟩, fun b hb => ?_, q⟩
  have e : b = s1.heap.objs.size := by simpa using hb
  subst e
  exact I1.fpOk (Nat.le_refl _) (I1.hok.fresh (Nat.le_refl _))
theorem pi_tup {l : Expr} {tl : TE} (hl : PE X l tl) : PI X tg l (iTup X.K tl) := by
  intro pins s σ H R I h
  refine thn (hl pins s σ H _ I h) fun v s1 ⟨x, H1, I1, r1, q1⟩ => ?_
  obtain ⟨a, e, ⟨xs, hq⟩, q⟩ := q1
  subst e
  cases r1
  obtain ⟨its, rv, p, hz⟩ := I1.tuple hq
  refine wpAny_pyIter_tuple (show s1.heap.IsTuple a its.toArray from p) ?_
  refine ⟨s1.heap.objs.size, [s1.heap.objs.size], _, _, H1, rfl, I1.kept (t' := s1.toks) fun b o e => Heap.get?_push_of_some _ e, turn_tuple a _, ⟨_, Heap.get?_push_size _ rfl, rfl, rfl⟩, fun b hb => ?_, q⟩
  have e : b = s1.heap.objs.size := by simpa using hb
  subst e
  exact I1.fpOk (Nat.le_refl _) (I1.hok.fresh (Nat.le_refl _))
theorem range_it {pins : List (Addr × Obj)} {σ : St} {H : Hp} {s : Shared} {R : It → Hp → Prop} {E : Value → Shared → Prop} {lo hi : Int} {t u v : Tok} {tk : Nat} (I : Inv X pins σ H s) (h1 : -(2 ^ 62) ≤ lo) (h2 : lo < 2 ^ 62) (h3 : -(2 ^ 62) ≤ hi) (h4 : hi < 2 ^ 62)
    (q : R (Itr lo (hi - lo).toNat) H) : wpAny (model X.prog X.w) X.A (pyIter (.ref s.heap.objs.size)) (PIE X pins σ tg R) E { s with heap := s.heap.push { cls := .type "range", data := .fields #[.int lo t, .int hi u, .int 1 v] }, toks := tk } := by
  refine wpAny_pyIter_range (IsRange.new ..) (small_one h1 h2 h3 h4) ?_
  have I1 : Inv X pins σ H { s with heap := s.heap.push { cls := .type "range", data := .fields #[.int lo t, .int hi u, .int 1 v] }, toks := tk } := I.kept fun b o e => Heap.get?_push_of_some _ e
  refine ⟨(s.heap.push { cls := .type "range", data := .fields #[.int lo t, .int hi u, .int 1 v] }).objs.size, [(s.heap.push { cls := .type "range", data := .fields #[.int lo t, .int hi u, .int 1 v] }).objs.size], _, _, H, rfl,
    I1.kept (t' := tk) fun b o e => Heap.get?_push_of_some _ e, turn_range _ lo (hi - lo).toNat, ?_, fun b hb => ?_, q⟩
  · have e1 : lo + ((0 : Nat) : Int) * 1 = lo := by simp
    have e2 : (((hi - lo).toNat : Nat) : Int) - ((0 : Nat) : Int) = Builtin.Range.rangeSize lo hi 1 := by rw [rangeSize_one]; split <;> trivial
    show IsRangeIter _ _ (lo + ((0 : Nat) : Int) * 1) ((((hi - lo).toNat : Nat) : Int) - ((0 : Nat) : Int)) 1
    rw [e1, e2]
    exact Heap.get?_push_size _ rfl
  · have e : b = (s.heap.push { cls := .type "range", data := .fields #[.int lo t, .int hi u, .int 1 v] }).objs.size := by simpa using hb
    subst e
    exact I1.fpOk (Nat.le_refl _) (I1.hok.fresh (Nat.le_refl _))
def iRng1 (ta : TA) : TI := fun σ H R => ta σ H fun vs H1 => ∃ j : Int, vs = [.int j] ∧ -(2 ^ 62) ≤ j ∧ j < 2 ^ 62 ∧ R (Itr 0 j.toNat) H1
theorem pi_range1 {a : Expr} {ta : TA} {p pos : Pos} (hg : Gl X "range") (hm : X.mg "range" = none) (ha : PA X [a] ta) (hs : starEach [a] X.env = [(false, eval a X.env)] := by rfl) : PI X tg (.Call (.Name "range" p) [a] [] pos) (iRng1 ta) := by
  intro pins s σ H R I h
  refine Call_ (ld_blt I hg hm boot_range (PyProof.Rows.callWith_type1 (thn (ha pos pins s σ H _ I h) fun us s1 ⟨vs, H1, I1, r1, q1⟩ => ?_) hs rfl))
  obtain ⟨j, e, q1, q2, q⟩ := q1
  subst e
  cases r1 with
  | cons r rr =>
    cases rr
    obtain ⟨t, rfl⟩ := r
    exact call_range_1 (range_it I1 (by trivial) (by trivial) q1 q2 (by simpa using q))
def tFor (wi : TI) (g : TG) (tb : TS) : TS := fun D σ H => wi σ H fun J H1 => ∃ W : Nat → Nat → St → Hp → Prop, (∃ m, W 0 m σ H1) ∧ ∀ i m σ H, W i m σ H →
  (J.stop i H ∧ D.nx σ H) ∨ (J.go i H ∧ ∃ N : St → Hp → Prop, (∀ σ' H', N σ' H' → ∃ m', m' < m ∧ W (i + 1) m' σ' H') ∧ ∀ x H', J.yld i H x H' → g x σ H' fun σ2 H2 => tb { D with nx := N, ct := N, bk := D.nx } σ2 H2)
def pinsAt (fp : List Addr) (h : Heap) : List (Addr × Obj) := fp.filterMap fun b => (h.get? b).map fun o => (b, o)
theorem mem_pinsAt {fp : List Addr} {h : Heap} {b : Addr} {o : Obj} (hb : b ∈ fp) (e : h.get? b = some o) : (b, o) ∈ pinsAt fp h := List.mem_filterMap.mpr ⟨b, hb, by rw [e]; rfl⟩
theorem of_pinsAt {fp : List Addr} {h : Heap} {p : Addr × Obj} (hp : p ∈ pinsAt fp h) : p.1 ∈ fp ∧ h.get? p.1 = some p.2 := by
  obtain ⟨b, hb, e⟩ := List.mem_filterMap.mp hp
  cases q : h.get? b with
  | none => rw [q] at e; cases e
  | some o =>
    rw [q] at e
    have e' : (b, o) = p := Option.some.inj e
    subst e'
    exact ⟨hb, q⟩
theorem Inv.pinned {pins : List (Addr × Obj)} {σ : St} {H : Hp} {s : Shared} {fp : List Addr} (I : Inv X pins σ H s) (hf : ∀ b ∈ fp, FpOk X pins H b) (ho : ∀ b ∈ fp, ∃ o, s.heap.get? b = some o ∧ ∀ v, o.data ≠ .cell v) : Inv X (pins ++ pinsAt fp s.heap) σ H s :=
  I.pins_of fun p hp => (List.mem_append.mp hp).elim (fun z => I.pin p (List.mem_append_right _ z)) fun z => by
    obtain ⟨hb, e⟩ := of_pinsAt z
    obtain ⟨f0, f1, f2, _⟩ := hf p.1 hb
    obtain ⟨o, e', d⟩ := ho p.1 hb
    rw [e] at e'; cases e'
    exact ⟨e, f0, f1, f2, d⟩
theorem Inv.unpinned {pins pl : List (Addr × Obj)} {σ : St} {H : Hp} {s : Shared} (I : Inv X (pins ++ pl) σ H s) : Inv X pins σ H s := I.pins_of fun p hp => I.pin p (List.mem_append_right _ (List.mem_append_left _ hp))
theorem ps_for {iter : Expr} {body : List Stmt} {wi : TI} {g : TG} {tb : TS} {pos : Pos} (hp : PassesOwn (model X.prog X.w) X.A X.env X.xe) (hc : X.calm = true) (hi : PI X tg iter wi) (hg : PG X tg g) (hb : PSs X body tb)
    (hs : ∀ x, foldedSetIterable iter X.env x = pure x := by intro _; rfl) : PS X (.For tg iter body [] pos) (tFor wi g tb) := by
  intro pins s σ H D I h
  refine wpAny_For (thn (hi pins s σ H _ I h) fun v s1 h1 => thn h1 fun itv s2 h2 => ?_) hs
  obtain ⟨it, fp, tn, J, H2, e, I2, T, st2, f2, W, ⟨m0, w0⟩, turn⟩ := h2
  subst e
  have stat : ∀ {H' : Hp}, (∀ b ∈ fp, H' b = none) → ∀ b ∈ fp, FpOk X pins H' b := fun hn b hb => ⟨hn b hb, (f2 b hb).2⟩
  refine codeAny_forLoop_any (fun n s' => ∃ i σ' H', Inv X pins σ' H' s' ∧ tn i s'.heap ∧ (∀ b ∈ fp, H' b = none) ∧ W i n σ' H') ?_ m0 ⟨0, σ, H2, I2, st2, fun b hb => (f2 b hb).1, w0⟩
  rintro n s3 ⟨i, σ3, H3, I3, st3, fr3, w3⟩
  rcases turn i n σ3 H3 w3 with ⟨stop, qn⟩ | ⟨go, N, hN, step⟩
  · refine wpAny_passesOwn hp (thn (T.done X rfl rfl rfl hc i pins s3 σ3 H3 X.xe I3 (stat fr3) st3 stop) fun r s4 ⟨hr, I4⟩ => ?_)
    subst hr
    exact wpAny_execs_nil ⟨σ3, H3, I4, qn⟩
  · refine wpAny_passesOwn hp (thn (T.item X rfl rfl rfl hc i pins s3 σ3 H3 X.xe I3 (stat fr3) st3 go) fun r s4 ⟨u, hr, h4⟩ => ?_)
    subst hr
    refine wpAny_passesOwn hp (thn h4 fun _ s5 ⟨x, H5, I5, r5, y5, st5, fr5⟩ => ?_)
    have I5' := I5.pinned (stat fr5) (T.obj _ _ st5)
    refine wpAny_passesOwn hp (thn (hg _ s5 σ3 H5 x u _ I5' r5 (step x H5 y5)) fun _ s6 ⟨σ6, H6, I6, q6⟩ => ?_)
    refine wpAny_passesOwn hp (thn (hb _ s6 σ6 H6 _ I6 q6) fun f s7 q7 => ?_)
    have again : ∀ {σ7 : St} {H7 : Hp}, Inv X (pins ++ pinsAt fp s5.heap) σ7 H7 s7 → N σ7 H7 → ∃ m, m < n ∧ ∃ i σ' H', Inv X pins σ' H' s7 ∧ tn i s7.heap ∧ (∀ b ∈ fp, H' b = none) ∧ W i m σ' H' := fun {σ7 H7} I7 n7 => by
      obtain ⟨m', hm, w7⟩ := hN σ7 H7 n7
      refine ⟨m', hm, i + 1, σ7, H7, I7.unpinned, T.keep _ _ _ st5 fun b hb o e => (I7.pin (b, o) (List.mem_append_right _ (List.mem_append_right _ (mem_pinsAt hb e)))).1, fun b hb => ?_, w7⟩
      obtain ⟨o, e, d⟩ := T.obj _ _ st5 b hb
      exact (I7.pin (b, o) (List.mem_append_right _ (List.mem_append_right _ (mem_pinsAt hb e)))).2.1
    cases f with
    | next => obtain ⟨σ7, H7, I7, n7⟩ := q7; exact again I7 n7
    | cont => obtain ⟨σ7, H7, I7, n7⟩ := q7; exact again I7 n7
    | brk => obtain ⟨σ7, H7, I7, q7⟩ := q7; exact ⟨σ7, H7, I7.unpinned, q7⟩
    | ret v => obtain ⟨x7, σ7, H7, I7, r7, q7⟩ := q7; exact ⟨x7, σ7, H7, I7.unpinned, r7, q7⟩
end
theorem for_list {K : PySem.W.Frag} {a : Addr} {xs : List V} {g : TG} {tb : TS} {D : Ends} {σ : St} {H : Hp} (Pv : Nat → St → Hp → Prop) (h0 : Pv 0 σ H) (hl : ∀ i σ H, i ≤ xs.length → Pv i σ H → SqL K H a xs)
    (hs : ∀ i x σ H, xs[i]? = some x → Pv i σ H → g x σ H fun σ2 H2 => tb { D with nx := Pv (i + 1), ct := Pv (i + 1), bk := D.nx } σ2 H2) (hd : ∀ σ H, Pv xs.length σ H → D.nx σ H) :
    ∃ W : Nat → Nat → St → Hp → Prop, (∃ m, W 0 m σ H) ∧ ∀ i m σ H, W i m σ H →
      ((Itl K a).stop i H ∧ D.nx σ H) ∨ ((Itl K a).go i H ∧ ∃ N : St → Hp → Prop, (∀ σ' H', N σ' H' → ∃ m', m' < m ∧ W (i + 1) m' σ' H') ∧ ∀ x H', (Itl K a).yld i H x H' → g x σ H' fun σ2 H2 => tb { D with nx := N, ct := N, bk := D.nx } σ2 H2) := by
  refine ⟨fun i m σ H => m = xs.length - i ∧ i ≤ xs.length ∧ Pv i σ H, ⟨xs.length, by simp, Nat.zero_le _, h0⟩, ?_⟩
  rintro i m σ H ⟨rfl, hi, p⟩
  have q := hl i σ H hi p
  by_cases hlt : i < xs.length
  · refine .inr ⟨⟨xs, xs[i], q, by simp [hlt]⟩, Pv (i + 1), fun σ' H' p' => ⟨xs.length - (i + 1), by trivial, rfl, hlt, p'⟩, fun x H' y => ?_⟩
    obtain ⟨e, y⟩ := y
    subst e
    exact hs i x σ _ (y xs q) p
  · have e : i = xs.length := by trivial
    subst e
    exact .inl ⟨⟨xs, q, Nat.le_refl _⟩, hd σ H p⟩
theorem for_tup {K : PySem.W.Frag} {a : Addr} {xs : List V} {g : TG} {tb : TS} {D : Ends} {σ : St} {H : Hp} (Pv : Nat → St → Hp → Prop) (h0 : Pv 0 σ H) (hl : ∀ i σ H, i ≤ xs.length → Pv i σ H → SqT K H a xs)
    (hs : ∀ i x σ H, xs[i]? = some x → Pv i σ H → g x σ H fun σ2 H2 => tb { D with nx := Pv (i + 1), ct := Pv (i + 1), bk := D.nx } σ2 H2) (hd : ∀ σ H, Pv xs.length σ H → D.nx σ H) :
    ∃ W : Nat → Nat → St → Hp → Prop, (∃ m, W 0 m σ H) ∧ ∀ i m σ H, W i m σ H →
      ((Itt K a).stop i H ∧ D.nx σ H) ∨ ((Itt K a).go i H ∧ ∃ N : St → Hp → Prop, (∀ σ' H', N σ' H' → ∃ m', m' < m ∧ W (i + 1) m' σ' H') ∧ ∀ x H', (Itt K a).yld i H x H' → g x σ H' fun σ2 H2 => tb { D with nx := N, ct := N, bk := D.nx } σ2 H2) := by
  refine ⟨fun i m σ H => m = xs.length - i ∧ i ≤ xs.length ∧ Pv i σ H, ⟨xs.length, by simp, Nat.zero_le _, h0⟩, ?_⟩
  rintro i m σ H ⟨rfl, hi, p⟩
  have q := hl i σ H hi p
  by_cases hlt : i < xs.length
  · refine .inr ⟨⟨xs, xs[i], q, by simp [hlt]⟩, Pv (i + 1), fun σ' H' p' => ⟨xs.length - (i + 1), by trivial, rfl, hlt, p'⟩, fun x H' y => ?_⟩
    obtain ⟨e, y⟩ := y
    subst e
    exact hs i x σ _ (y xs q) p
  · have e : i = xs.length := by trivial
    subst e
    exact .inl ⟨⟨xs, q, Nat.le_refl _⟩, hd σ H p⟩
theorem for_range {lo : Int} {n : Nat} {g : TG} {tb : TS} {D : Ends} {σ : St} {H : Hp} (Pv : Nat → St → Hp → Prop) (h0 : Pv 0 σ H)
    (hs : ∀ i σ H, i < n → Pv i σ H → g (.int (lo + i)) σ H fun σ2 H2 => tb { D with nx := Pv (i + 1), ct := Pv (i + 1), bk := D.nx } σ2 H2) (hd : ∀ σ H, Pv n σ H → D.nx σ H) :
    ∃ W : Nat → Nat → St → Hp → Prop, (∃ m, W 0 m σ H) ∧ ∀ i m σ H, W i m σ H →
      ((Itr lo n).stop i H ∧ D.nx σ H) ∨ ((Itr lo n).go i H ∧ ∃ N : St → Hp → Prop, (∀ σ' H', N σ' H' → ∃ m', m' < m ∧ W (i + 1) m' σ' H') ∧ ∀ x H', (Itr lo n).yld i H x H' → g x σ H' fun σ2 H2 => tb { D with nx := N, ct := N, bk := D.nx } σ2 H2) := by
  refine ⟨fun i m σ H => m = n - i ∧ i ≤ n ∧ Pv i σ H, ⟨n, by simp, Nat.zero_le _, h0⟩, ?_⟩
  rintro i m σ H ⟨rfl, hi, p⟩
  by_cases hlt : i < n
  · refine .inr ⟨hlt, Pv (i + 1), fun σ' H' p' => ⟨n - (i + 1), by trivial, rfl, hlt, p'⟩, fun x H' y => ?_⟩
    obtain ⟨e, y⟩ := y
    subst e y
    exact hs i σ _ hlt p
  · have e : i = n := by trivial
    subst e
    exact .inl ⟨Nat.le_refl _, hd σ H p⟩
end L2
namespace L2
open PySem PySem.Spec PyProof.Rows
abbrev R2 := V → V → Hp → VK → Prop
def OpR (X : Cx) (f : Value → Value → Sem Value) (r : R2) : Prop :=
  ∀ (pins : List (Addr × Obj)) (s : Shared) (σ : St) (H : Hp) (x y : V) (v u : Value) (Q : VK), Inv X pins σ H s → RelV x v → RelV y u → r x y H Q →
    wpAny (model X.prog X.w) X.A (f v u) (EP X pins σ Q) X.xe s
def UnR (X : Cx) (f : Value → Sem Value) (r : V → Hp → VK → Prop) : Prop :=
  ∀ (pins : List (Addr × Obj)) (s : Shared) (σ : St) (H : Hp) (x : V) (v : Value) (Q : VK), Inv X pins σ H s → RelV x v → r x H Q →
    wpAny (model X.prog X.w) X.A (f v) (EP X pins σ Q) X.xe s
def CallR (X : Cx) (f : Value) (r : List V → Hp → VK → Prop) : Prop :=
  ∀ (pins : List (Addr × Obj)) (s : Shared) (σ : St) (H : Hp) (xs : List V) (us : List Value) (Q : VK), Inv X pins σ H s → Vals xs us → r xs H Q →
    wpAny (model X.prog X.w) X.A (call f us) (EP X pins σ Q) X.xe s
def tOp (r : R2) (ta tb : TE) : TE := fun σ H Q => ta σ H fun x H1 => tb σ H1 fun y H2 => r x y H2 Q
def tUn (r : V → Hp → VK → Prop) (ta : TE) : TE := fun σ H Q => ta σ H fun x H1 => r x H1 Q
inductive rI_ (C : Int → Int → Prop) (g : Int → Int → V) (x : V) (y : V) (H : Hp) (Q : VK) : Prop
  | mk (i : _) (j : _) (h0 : x = .int i) (h1 : y = .int j) (h2 : C i j) (h3 : Q (g i j) H)
def rI (C : Int → Int → Prop) (g : Int → Int → V) : R2 := fun x y H Q => rI_ C g x y H Q
inductive rI0_ (g : Int → Int → V) (x : V) (y : V) (H : Hp) (Q : VK) : Prop
  | mk (i : _) (j : _) (h0 : x = .int i) (h1 : y = .int j) (h2 : Q (g i j) H)
def rI0 (g : Int → Int → V) : R2 := fun x y H Q => rI0_ g x y H Q
def rU (g : Int → V) : V → Hp → VK → Prop := fun x H Q => IsIn x fun i => Q (g i) H
section
variable {X : Cx} {a b c : Expr} {ta tb tc : TE} {pos : Pos}
theorem binT (ha : PE X a ta) (hb : PE X b tb) {pins : List (Addr × Obj)} {s : Shared} {σ : St} {H : Hp} {R : V → V → Hp → Prop} (I : Inv X pins σ H s)
    (h : ta σ H fun x H1 => tb σ H1 fun y H2 => R x y H2) {Q : Value → Shared → Prop} {f : Value → Value → Sem Value}
    (hf : ∀ v u s2 x y H2, Inv X pins σ H2 s2 → RelV x v → RelV y u → R x y H2 → wpAny (model X.prog X.w) X.A (f v u) Q X.xe s2) :
    wpAny (model X.prog X.w) X.A (eval a X.env) (fun v s₁ => wpAny (model X.prog X.w) X.A (eval b X.env) (fun u s₂ => wpAny (model X.prog X.w) X.A (f v u) Q X.xe s₂) X.xe s₁) X.xe s := by
  refine thn (ha pins s σ H _ I h) fun v s1 ⟨x, H1, I1, r1, q1⟩ => ?_
  refine thn (hb pins s1 σ H1 _ I1 q1) fun u s2 ⟨y, H2, I2, r2, q2⟩ => ?_
  exact hf v u s2 x y H2 I2 r1 r2 q2
theorem pe_op {op : Operator} {r : R2} (ho : OpR X (binaryOp op) r) (ha : PE X a ta) (hb : PE X b tb) : PE X (.BinOp a op b pos) (tOp r ta tb) := by
  intro pins s σ H Q I h
  exact wpAny_BinOp (binT ha hb I h fun v u s2 x y H2 I2 rx ry q => ho pins s2 σ H2 x y v u Q I2 rx ry q)
theorem pe_un {op : UnaryOp} {r : V → Hp → VK → Prop} (ho : UnR X (unaryOp op) r) (ha : PE X a ta) : PE X (.UnaryOp op a pos) (tUn r ta) := by
  intro pins s σ H Q I h
  exact UnaryOp_ (thn (ha pins s σ H _ I h) fun v s1 ⟨x, H1, I1, r1, q1⟩ => ho pins s1 σ H1 x v Q I1 r1 q1)
theorem opI {f : Value → Value → Sem Value} {C : Int → Int → Prop} {g : Int → Int → Int}
    (rule : ∀ (i j : Int) (t u : Tok) (s : Shared) (Q : Value → Shared → Prop) (E : Value → Shared → Prop), C i j → Q (.int (g i j) s.toks) { s with toks := s.toks + 1 } → wpAny (model X.prog X.w) X.A (f (.int i t) (.int j u)) Q E s) :
    OpR X f (rI C fun i j => .int (g i j)) := by
  intro pins s σ H x y v u Q I rx ry h
  obtain ⟨i, j, rfl, rfl, hc, q⟩ := h
  obtain ⟨t, rfl⟩ := rx
  obtain ⟨t', rfl⟩ := ry
  exact rule i j t t' s _ _ hc ⟨.int (g i j), H, I.tok _, ⟨_, rfl⟩, q⟩
theorem opI0 {f : Value → Value → Sem Value} {g : Int → Int → Int}
    (rule : ∀ (i j : Int) (t u : Tok) (s : Shared) (Q : Value → Shared → Prop) (E : Value → Shared → Prop), Q (.int (g i j) s.toks) { s with toks := s.toks + 1 } → wpAny (model X.prog X.w) X.A (f (.int i t) (.int j u)) Q E s) :
    OpR X f (rI0 fun i j => .int (g i j)) := by
  intro pins s σ H x y v u Q I rx ry h
  obtain ⟨i, j, rfl, rfl, q⟩ := h
  obtain ⟨t, rfl⟩ := rx
  obtain ⟨t', rfl⟩ := ry
  exact rule i j t t' s _ _ ⟨.int (g i j), H, I.tok _, ⟨_, rfl⟩, q⟩
theorem opB0 {f : Value → Value → Sem Value} {g : Int → Int → Bool}
    (rule : ∀ (i j : Int) (t u : Tok) (s : Shared) (Q : Value → Shared → Prop) (E : Value → Shared → Prop), Q (.bool (g i j)) s → wpAny (model X.prog X.w) X.A (f (.int i t) (.int j u)) Q E s) :
    OpR X f (rI0 fun i j => .bl (g i j)) := by
  intro pins s σ H x y v u Q I rx ry h
  obtain ⟨i, j, rfl, rfl, q⟩ := h
  obtain ⟨t, rfl⟩ := rx
  obtain ⟨t', rfl⟩ := ry
  exact rule i j t t' s _ _ ⟨.bl (g i j), H, I, rfl, q⟩
def CDiv (i j : Int) : Prop := 0 < j ∧ j < 1073741824
def CPow (i j : Int) : Prop := 0 ≤ j ∧ j ≤ 1000000 ∧ i.natAbs < 2 ^ 64
def CMul (i j : Int) : Prop := (-(2 ^ 64) < i ∧ i < 2 ^ 64) ∨ (-(2 ^ 64) < j ∧ j < 2 ^ 64)
theorem CMul.ok {i j : Int} (h : CMul i j) : IntMulOk i j := by
  rcases h with ⟨h1, h2⟩ | ⟨h1, h2⟩
  · exact .of_left (intBits_le_64 h1 h2)
  · exact .of_right (intBits_le_64 h1 h2)
theorem op_add : OpR X (binaryOp .Add) (rI0 fun i j => .int (i + j)) := opI0 fun _ _ _ _ _ _ _ q => add_int q
theorem op_sub : OpR X (binaryOp .Sub) (rI0 fun i j => .int (i - j)) := opI0 fun _ _ _ _ _ _ _ q => sub_int q
theorem op_mul : OpR X (binaryOp .Mult) (rI CMul fun i j => .int (i * j)) := opI fun _ _ _ _ _ _ _ hc q => mul_int q hc.ok
theorem op_fdiv : OpR X (binaryOp .FloorDiv) (rI CDiv fun i j => .int (i / j)) := opI fun i j _ _ _ _ _ hc q => by
  have h1 : (0 : Int) < j := hc.1
  have h2 : j < 1073741824 := hc.2
  exact floordiv_int (by trivial) (by rw [Int.fdiv_eq_ediv_of_nonneg i (by trivial)]; exact q) (.inl (PyProof.noPylong_small (by trivial)))
theorem op_mod : OpR X (binaryOp .Mod) (rI (fun _ j => 0 < j) fun i j => .int (i % j)) := opI fun i j _ _ _ _ _ hc q => by
  have h1 : (0 : Int) < j := hc
  exact mod_int' (by trivial) (by rw [Int.fmod_eq_emod_of_nonneg i (by trivial)]; exact q)
theorem op_modN : OpR X (binaryOp .Mod) (rI (fun _ j => j ≠ 0) fun i j => .int (i.fmod j)) := opI fun _ _ _ _ _ _ _ hc q => mod_int' hc q
theorem op_pow : OpR X (binaryOp .Pow) (rI CPow fun i j => .int (i ^ j.toNat)) := opI fun _ _ _ _ _ _ _ hc q => pow_int_small hc.1 hc.2.1 hc.2.2 q
theorem unI {f : Value → Sem Value} {g : Int → Int}
    (rule : ∀ (i : Int) (t : Tok) (s : Shared) (Q : Value → Shared → Prop) (E : Value → Shared → Prop), Q (.int (g i) s.toks) { s with toks := s.toks + 1 } → wpAny (model X.prog X.w) X.A (f (.int i t)) Q E s) :
    UnR X f (rU fun i => .int (g i)) := by
  intro pins s σ H x v Q I rx h
  obtain ⟨i, rfl, q⟩ := h
  obtain ⟨t, rfl⟩ := rx
  exact rule i t s _ _ ⟨.int (g i), H, I.tok _, ⟨_, rfl⟩, q⟩
theorem un_neg : UnR X (unaryOp .USub) (rU fun i => .int (-i)) := unI fun _ _ _ _ _ q => neg_int q
end
def scal : V → V → Bool
  | .non, .non => true | .non, .int _ => true | .int _, .non => true | .non, .bl _ => true | .bl _, .non => true | .non, .str _ => true | .str _, .non => true
  | .int _, .int _ => true | .bl _, .bl _ => true | .str _, .str _ => true | .byt _, .byt _ => true
  | .int _, .str _ => true | .str _, .int _ => true | .bl _, .str _ => true | .str _, .bl _ => true
  | _, _ => false
def rEq : R2 := fun x y H Q => scal x y = true ∧ Q (.bl (decide (x = y))) H
def rNe : R2 := fun x y H Q => scal x y = true ∧ Q (.bl (!decide (x = y))) H
theorem dec_int {i j : Int} : decide (V.int i = V.int j) = (i == j) := by
  rw [Bool.eq_iff_iff]
  simp
theorem dec_bl {i j : Bool} : decide (V.bl i = V.bl j) = (i == j) := by
  rw [Bool.eq_iff_iff]
  simp
theorem dec_str {i j : Str} : decide (V.str i = V.str j) = (i == j) := by
  rw [Bool.eq_iff_iff]
  simp
theorem dec_byt {i j : Array UInt8} : decide (V.byt i = V.byt j) = (i.toList == j.toList) := by
  rw [Bool.eq_iff_iff]
  cases i
  cases j
  simp
section
variable {X : Cx} {a b c : Expr} {ta tb tc : TE} {pos : Pos}
theorem fin_bl {pins : List (Addr × Obj)} {σ : St} {H : Hp} {s : Shared} {Q : VK} {k k' : Bool} (I : Inv X pins σ H s) (q : Q (.bl k) H) (e : k = k') : EP X pins σ Q (.bool k') s := by
  subst e
  exact ⟨.bl k, H, I, rfl, q⟩
theorem op_eq : OpR X (compareOp .Eq) rEq := by
  intro pins s σ H x y v u Q I rx ry h
  obtain ⟨hs, q⟩ := h
  cases x with
  | non =>
    cases rx
    cases y with
    | non => cases ry; exact PySem.EqNone.eq_none_none (fin_bl I q (by simp))
    | bl j => cases ry; exact PySem.EqNone.eq_none_bool (fin_bl I q (by simp))
    | int j => obtain ⟨t', rfl⟩ := ry; exact PySem.EqNone.eq_none_int (fin_bl I q (by simp))
    | str j => obtain ⟨t', rfl⟩ := ry; exact PySem.EqNone.eq_none_str (fin_bl I q (by simp))
    | _ => exact absurd (show false = true from hs) Bool.false_ne_true
  | bl i =>
    cases rx
    cases y with
    | non => cases ry; exact PySem.EqNone.eq_bool_none (fin_bl I q (by simp))
    | bl j => cases ry; exact eq_bool (fin_bl I q dec_bl)
    | str j => obtain ⟨t', rfl⟩ := ry; exact PySem.EqMixed.eq_bool_str (fin_bl I q (by simp))
    | _ => exact absurd (show false = true from hs) Bool.false_ne_true
  | int i =>
    obtain ⟨t, rfl⟩ := rx
    cases y with
    | non => cases ry; exact PySem.EqNone.eq_int_none (fin_bl I q (by simp))
    | int j => obtain ⟨t', rfl⟩ := ry; exact eq_int (fin_bl I q dec_int)
    | str j => obtain ⟨t', rfl⟩ := ry; exact PySem.EqMixed.eq_int_str (fin_bl I q (by simp))
    | _ => exact absurd (show false = true from hs) Bool.false_ne_true
  | str i =>
    obtain ⟨t, rfl⟩ := rx
    cases y with
    | non => cases ry; exact PySem.EqNone.eq_str_none (fin_bl I q (by simp))
    | bl j => cases ry; exact PySem.EqMixed.eq_str_bool (fin_bl I q (by simp))
    | int j => obtain ⟨t', rfl⟩ := ry; exact PySem.EqMixed.eq_str_int (fin_bl I q (by simp))
    | str j => obtain ⟨t', rfl⟩ := ry; exact eq_str (fin_bl I q dec_str)
    | _ => exact absurd (show false = true from hs) Bool.false_ne_true
  | byt i =>
    obtain ⟨t, rfl⟩ := rx
    cases y with
    | byt j => obtain ⟨t', rfl⟩ := ry; exact PySem.W.eq_bytes (fin_bl I q dec_byt)
    | _ => exact absurd (show false = true from hs) Bool.false_ne_true
  | _ => cases y <;> exact absurd (show false = true from hs) Bool.false_ne_true
theorem op_ne : OpR X (compareOp .NotEq) rNe := by
  intro pins s σ H x y v u Q I rx ry h
  obtain ⟨hs, q⟩ := h
  cases x with
  | non =>
    cases rx
    cases y with
    | non => cases ry; exact PySem.EqNone.ne_none_none (fin_bl I q (by simp))
    | bl j => cases ry; exact PySem.EqNone.ne_none_bool (fin_bl I q (by simp))
    | int j => obtain ⟨t', rfl⟩ := ry; exact PySem.EqNone.ne_none_int (fin_bl I q (by simp))
    | str j => obtain ⟨t', rfl⟩ := ry; exact PySem.EqNone.ne_none_str (fin_bl I q (by simp))
    | _ => exact absurd (show false = true from hs) Bool.false_ne_true
  | bl i =>
    cases rx
    cases y with
    | non => cases ry; exact PySem.EqNone.ne_bool_none (fin_bl I q (by simp))
    | bl j => cases ry; exact ne_bool (fin_bl I q (congrArg not dec_bl))
    | str j => obtain ⟨t', rfl⟩ := ry; exact PySem.EqMixed.ne_bool_str (fin_bl I q (by simp))
    | _ => exact absurd (show false = true from hs) Bool.false_ne_true
  | int i =>
    obtain ⟨t, rfl⟩ := rx
    cases y with
    | non => cases ry; exact PySem.EqNone.ne_int_none (fin_bl I q (by simp))
    | int j => obtain ⟨t', rfl⟩ := ry; exact ne_int (fin_bl I q (congrArg not dec_int))
    | str j => obtain ⟨t', rfl⟩ := ry; exact PySem.EqMixed.ne_int_str (fin_bl I q (by simp))
    | _ => exact absurd (show false = true from hs) Bool.false_ne_true
  | str i =>
    obtain ⟨t, rfl⟩ := rx
    cases y with
    | non => cases ry; exact PySem.EqNone.ne_str_none (fin_bl I q (by simp))
    | bl j => cases ry; exact PySem.EqMixed.ne_str_bool (fin_bl I q (by simp))
    | int j => obtain ⟨t', rfl⟩ := ry; exact PySem.EqMixed.ne_str_int (fin_bl I q (by simp))
    | str j => obtain ⟨t', rfl⟩ := ry; exact ne_str (fin_bl I q (congrArg not dec_str))
    | _ => exact absurd (show false = true from hs) Bool.false_ne_true
  | byt i =>
    obtain ⟨t, rfl⟩ := rx
    cases y with
    | byt j => obtain ⟨t', rfl⟩ := ry; exact PySem.W.ne_bytes (fin_bl I q (congrArg not dec_byt))
    | _ => exact absurd (show false = true from hs) Bool.false_ne_true
  | _ => cases y <;> exact absurd (show false = true from hs) Bool.false_ne_true
theorem op_lt : OpR X (compareOp .Lt) (rI0 fun i j => .bl (decide (i < j))) := opB0 fun _ _ _ _ _ _ _ q => lt_int q
theorem op_le : OpR X (compareOp .LtE) (rI0 fun i j => .bl (decide (i ≤ j))) := opB0 fun _ _ _ _ _ _ _ q => le_int q
theorem op_gt : OpR X (compareOp .Gt) (rI0 fun i j => .bl (decide (j < i))) := opB0 fun _ _ _ _ _ _ _ q => gt_int q
theorem op_ge : OpR X (compareOp .GtE) (rI0 fun i j => .bl (decide (j ≤ i))) := opB0 fun _ _ _ _ _ _ _ q => ge_int q
theorem op_isN : OpR X (compareOp .Is) (fun x y H Q => y = .non ∧ Q (.bl (decide (x = .non))) H) := by
  intro pins s σ H x y v u Q I rx ry h
  obtain ⟨rfl, q⟩ := h
  cases ry
  refine is_none_gen (fin_bl I q ?_)
  cases x <;> first
    | (cases rx; rfl)
    | (obtain ⟨t, rfl⟩ := rx; rfl)
theorem nomark (b : Expr) {op : CmpOp} (h : op ≠ .In := by decide) (h2 : op ≠ .NotIn := by decide) : behindInMarks op b = false := by
  have e1 : (op == CmpOp.In) = false := by cases op <;> first | rfl | exact absurd rfl h
  have e2 : (op == CmpOp.NotIn) = false := by cases op <;> first | rfl | exact absurd rfl h2
  cases b <;> simp [behindInMarks, e1, e2]
theorem pe_cmpR {op : CmpOp} {r : R2} (ho : OpR X (compareOp op) r) (ha : PE X a ta) (hb : PE X b tb) (hm : behindInMarks op b = false) : PE X (.Compare a [op] [b] pos) (tOp r ta tb) := by
  intro pins s σ H Q I h
  exact wpAny_Compare1 (binT ha hb I h fun v u s2 x y H2 I2 rx ry q => ho pins s2 σ H2 x y v u Q I2 rx ry q) hm
def tTest (t : TE) : TT := fun σ H Q => t σ H fun x H' => IsBl x fun k => Q k H'
theorem pt_cmpR {op : CmpOp} {r : R2} (ho : OpR X (compareOp op) r) (ha : PE X a ta) (hb : PE X b tb) (hm : behindInMarks op b = false) : PT X (.Compare a [op] [b] pos) (tTest (tOp r ta tb)) := by
  intro pins s σ H Q I h
  refine wpAny_isTrue_Compare1 (thn (ha pins s σ H _ I h) fun v s1 ⟨x, H1, I1, r1, q1⟩ => thn (hb pins s1 σ H1 _ I1 q1) fun u s2 ⟨y, H2, I2, r2, q2⟩ =>
    thn (ho pins s2 σ H2 x y v u _ I2 r1 r2 q2) fun c s3 ⟨z, H3, I3, r3, k, e, q3⟩ => ?_) hm
  subst e
  cases r3
  exact wpAny_truthy_bool ⟨H3, I3, q3⟩
def tChain (r r' : R2) (ta tb tc : TE) : TE := fun σ H Q => ta σ H fun x H1 => tb σ H1 fun y H2 => r x y H2 fun z H3 => IsBl z fun k =>
  (if k = true then tc σ H3 fun w' H4 => r' y w' H4 Q else Q (.bl false) H3)
theorem pe_chain {op op' : CmpOp} {r r' : R2} (ho : OpR X (compareOp op) r) (ho' : OpR X (compareOp op') r') (ha : PE X a ta) (hb : PE X b tb) (hc : PE X c tc)
    (hm : lastMarks [op, op'] [b, c] = false := by with_unfolding_all rfl) : PE X (.Compare a [op, op'] [b, c] pos) (tChain r r' ta tb tc) := by
  intro pins s σ H Q I h
  refine Compare_chain (thn (ha pins s σ H _ I h) fun v s1 ⟨x, H1, I1, r1, q1⟩ => chain_link (thn (hb pins s1 σ H1 _ I1 q1) fun u s2 ⟨y, H2, I2, r2, q2⟩ =>
    thn (ho pins s2 σ H2 x y v u _ I2 r1 r2 q2) fun d s3 ⟨z, H3, I3, r3, k, e, q3⟩ => ?_)) hm
  subst e
  cases r3
  refine wpAny_truthy_bool ?_
  cases k with
  | false => exact ite_ff ⟨.bl false, H3, I3, rfl, q3⟩
  | true => exact ite_tt (chain_last (thn (hc pins s3 σ H3 _ I3 q3) fun w' s4 ⟨z', H4, I4, r4, q4⟩ => ho' pins s4 σ H4 y z' u w' Q I4 r2 r4 q4))
theorem line63 : (sizeLine : Nat) < 2 ^ 63 := by rw [sizeLine_eq]; decide
theorem op_add_str : OpR X (binaryOp .Add) (fun x y H Q => Ex2 fun i j => x = .str i ∧ y = .str j ∧ i.length + j.length ≤ sizeLine ∧ Q (.str (i ++ j)) H) := by
  intro pins s σ H x y v u Q I rx ry h
  obtain ⟨i, j, rfl, rfl, hz, q⟩ := h
  obtain ⟨t, rfl⟩ := rx
  obtain ⟨t', rfl⟩ := ry
  exact add_str (fun t' tk => ⟨.str (i ++ j), H, I.tok _, ⟨_, rfl⟩, q⟩) hz
theorem vals1 {x : V} {us : List Value} (r : Vals [x] us) : ∃ u, us = [u] ∧ RelV x u := by
  cases r with
  | cons r1 r2 => cases r2; exact ⟨_, rfl, r1⟩
theorem vals2 {x y : V} {us : List Value} (r : Vals [x, y] us) : Ex2 fun u w' => us = [u, w'] ∧ RelV x u ∧ RelV y w' := by
  cases r with
  | cons r1 r2 =>
    cases r2 with
    | cons r3 r4 => cases r4; exact ⟨_, _, rfl, r1, r3⟩
theorem call_abs : CallR X (.builtin "abs") (fun xs H Q => ∃ i, xs = [.int i] ∧ Q (.int (if i < 0 then -i else i)) H) := by
  intro pins s σ H xs us Q I r h
  obtain ⟨i, rfl, q⟩ := h
  obtain ⟨u, rfl, t, rfl⟩ := vals1 r
  exact call_abs_int fun u tk => ⟨.int (if i < 0 then -i else i), H, I.tok _, ⟨_, rfl⟩, q⟩
theorem call_int1 : CallR X (.type "int") (fun xs H Q => (∃ i, xs = [.int i] ∧ Q (.int i) H) ∨ ∃ k, xs = [.bl k] ∧ Q (.int (if k then 1 else 0)) H) := by
  intro pins s σ H xs us Q I r h
  rcases h with ⟨i, rfl, q⟩ | ⟨k, rfl, q⟩
  · obtain ⟨u, rfl, t, rfl⟩ := vals1 r
    exact call_int_int ⟨.int i, H, I, ⟨_, rfl⟩, q⟩
  · obtain ⟨u, rfl, r1⟩ := vals1 r
    cases r1
    exact call_int_bool ⟨.int (if k then 1 else 0), H, I.tok _, ⟨_, rfl⟩, q⟩
end
end L2
namespace L2
open PySem PySem.Spec PyProof.Rows
structure ObjM (h : Heap) (x dx C : Addr) (mA : Str → Option Value) : Prop where
  obj : h.get? x = some (PySem.W.instObj C dx)
  ns : h.Ns1 dx mA
  ne : dx ≠ x
theorem lookIn_ns {h : Heap} {dx : Addr} {mA : Str → Option Value} (n : h.Ns1 dx mA) : ∃ od, h.get? dx = some od ∧ ∀ name, PySem.W.lookIn name od = some (mA name) := by
  obtain ⟨o, es, ep, ho, hd, hk, _, hm⟩ := n
  refine ⟨o, ho, fun name => ?_⟩
  have e := hm name
  unfold nsFind findBy at e
  rw [← Array.find?_toList] at e
  unfold PySem.W.lookIn
  rw [hd]
  dsimp only
  split
  · rename_i y q
    rw [q] at e
    exact congrArg some e
  · rename_i q
    rw [q] at e
    have a : es.toList.any (·.refKey) = false := by
      rw [List.any_eq_false]
      intro y hy
      obtain ⟨z, t, hkey⟩ := hk y (Array.mem_toList_iff.mp hy)
      simp [DictEntry.refKey, hkey]
    have a' : ¬ es.toList.any (·.refKey) = true := by rw [a]; exact Bool.false_ne_true
    rw [if_neg a']
    exact congrArg some e
theorem ObjM.look {h : Heap} {x dx C : Addr} {mA : Str → Option Value} (I : ObjM h x dx C mA) : ∃ od, PySem.W.InstAt h x (PySem.W.instObj C dx) C (some od) ∧ ∀ name, PySem.W.lookIn name od = some (mA name) :=
  let ⟨od, ho, hl⟩ := lookIn_ns I.ns
  ⟨od, ⟨I.obj, rfl, rfl, ho⟩, hl⟩
section
variable {prog : Program} {w : World} {A : Around} {E : Value → Shared → Prop} {s : Shared} {K : PySem.W.Frag} {x dx C f : Addr} {mA : Str → Option Value} {name : Str} {v : Value}
end
section
variable {P : Program} {w : World} {H H' : Hp} {h h' : Heap} {a C dx : Addr} {fs fs' : List (Str × V)}
theorem ins_get (hok : HOk P w H h) (e : H a = some (.ins C dx fs)) : ∃ mA, ObjM h a dx C mA ∧ (∀ f, RelO (fs.lookup f) (mA f)) ∧ PySem.Within mA (fs.map (·.1)) ∧ fs.length ≤ 1000 ∧ H dx = some (.own a) := by
  obtain ⟨d, z, ne, ob, mA, n, r, q⟩ := (show ObjOk P w H h a (.ins C dx fs) from hok a _ e)
  exact ⟨mA, ⟨ob, n, ne⟩, r, q, z, d⟩
end
structure Cls (K : PySem.W.Frag) (C : Addr) : Prop where
  pg : PySem.W.plainGet K C Str.empty = true
  hd : PySem.W.hasDictIn K C = true
  po : PySem.W.plainOver K C = true
  sa : PySem.W.findIn K (.ref C) "__setattr__" = some (some (.builtin "object.__setattr__"))
theorem Cls.get {K : PySem.W.Frag} {C : Addr} (c : Cls K C) (f : Str) : PySem.W.plainGet K C f = true := c.pg
section
variable {X : Cx} {pins : List (Addr × Obj)} {σ : St} {H : Hp} {s : Shared} {a C dx : Addr} {fs : List (Str × V)} {f : Str} {v : V} {A : Around} {E : Value → Shared → Prop}
end
section
variable {X : Cx} {o e value : Expr} {f : Str} {pos pos' tpos : Pos} {ta tv : TE}
end
section
variable {X : Cx} {pins : List (Addr × Obj)} {σ : St} {H : Hp} {s : Shared} {A : Around} {E : Value → Shared → Prop} {Q : Value → Shared → Prop} {c : Value} {b : Bool}
inductive TyOf (K : PySem.W.Frag) (H : Hp) : V → Value → Prop where
  | non : TyOf K H .non (.type "NoneType")
  | bl (x : Bool) : TyOf K H (.bl x) (.type "bool")
  | int (i : Int) : TyOf K H (.int i) (.type "int")
  | str (x : Str) : TyOf K H (.str x) (.type "str")
  | flt (x : UInt64) : TyOf K H (.flt x) (.type "float")
  | lst {a : Addr} {xs : List V} (e : H a = some (.lst xs)) : TyOf K H (.ref a) (.type "list")
  | frz {a : Addr} {o : Obj} {xs : List V} (e : H a = some (.frz o (.lst xs))) : TyOf K H (.ref a) (.type "list")
  | tup {a : Addr} {xs : List V} (e : H a = some (.tup xs)) : TyOf K H (.ref a) (.type "tuple")
  | dK {a : Addr} {kvs : List (Key × V)} (e : H a = some (.dK kvs)) : TyOf K H (.ref a) (.type "dict")
  | dT {a : Addr} {kvs : List (List Key × V)} (e : H a = some (.dT kvs)) : TyOf K H (.ref a) (.type "dict")
  | ins {a C dx : Addr} {fs : List (Str × V)} (e : H a = some (.ins C dx fs)) (cl : Cls K C) (ha : PySem.W.findIn K (.ref C) "__class__" = some (some (.builtin "object.__class__")))
      (hn : PySem.W.specialIn K (.builtin "object.__class__") "__get__" = some (some (.builtin "getset_descriptor.__get__"))) (htk : PySem.W.takesIn K (.builtin "object.__class__") = some true)
      (hm : PySem.W.mroIn K C (.type "object") = some true) : TyOf K H (.ref a) (.ref C)
theorem isinst_ok {x : V} {u t : Value} (I : Inv X pins σ H s) (rx : RelV x u) (ty : TyOf X.K H x t) (e : PySem.W.kitOne X.K t c = some b) (h : ∀ tk, Q (.bool b) { s with toks := tk }) :
    wpAny (model X.prog X.w) A (call (.builtin "isinstance") [u, c]) Q E s := by
  cases ty with
  | non => cases (show u = Value.none from rx); exact PySem.W.kia_one PySem.W.kitx_none I.kIn True.intro e (fun z => nomatch z) h
  | bl y => cases (show u = Value.bool y from rx); exact PySem.W.kia_one PySem.W.kitx_bool I.kIn True.intro e (fun z => nomatch z) h
  | int i => obtain ⟨t, q⟩ := (show ∃ t, u = Value.int i t from rx); cases q; exact PySem.W.kia_one PySem.W.kitx_int I.kIn True.intro e (fun z => nomatch z) h
  | str y => obtain ⟨t, q⟩ := (show ∃ t, u = Value.str y t from rx); cases q; exact PySem.W.kia_one PySem.W.kitx_str I.kIn True.intro e (fun z => nomatch z) h
  | flt y => obtain ⟨t, q⟩ := (show ∃ t, u = Value.float y t from rx); cases q; exact PySem.W.kia_one PySem.W.kitx_float I.kIn True.intro e (fun z => nomatch z) h
  | @lst a xs ea =>
    cases (show u = Value.ref a from rx)
    obtain ⟨_, _, n, _, h1⟩ := (show ObjOk X.prog X.w H s.heap a (.lst xs) from I.hok a _ ea)
    exact PySem.W.kia_one PySem.W.kitx_list I.kIn ⟨_, h1, rfl⟩ e (fun z => nomatch z) h
  | @frz a ob xs ea =>
    cases (show u = Value.ref a from rx)
    obtain ⟨_, _, _, n, _, h1⟩ := (show ObjOk X.prog X.w H s.heap a (.frz ob (.lst xs)) from I.hok a _ ea)
    exact PySem.W.kia_one PySem.W.kitx_list I.kIn ⟨_, h1, rfl⟩ e (fun z => nomatch z) h
  | @tup a xs ea =>
    cases (show u = Value.ref a from rx)
    obtain ⟨_, _, _, p, _⟩ := (show ObjOk X.prog X.w H s.heap a (.tup xs) from I.hok a _ ea)
    obtain ⟨o, h1, h2, _⟩ := p
    exact PySem.W.kia_one PySem.W.kitx_tuple I.kIn ⟨o, h1, h2⟩ e (fun z => nomatch z) h
  | @dK a kvs ea =>
    cases (show u = Value.ref a from rx)
    obtain ⟨_, _, vs, _, p⟩ := (show ObjOk X.prog X.w H s.heap a (.dK kvs) from I.hok a _ ea)
    obtain ⟨o, es, ep, h1, h2, _⟩ := p
    exact PySem.W.kia_one PySem.W.kitx_dict I.kIn ⟨o, h1, h2.1⟩ e (fun z => nomatch z) h
  | @dT a kvs ea =>
    cases (show u = Value.ref a from rx)
    obtain ⟨_, _, xs, _, o, es, ep, h1, h2, _⟩ := (show ObjOk X.prog X.w H s.heap a (.dT kvs) from I.hok a _ ea)
    exact PySem.W.kia_one PySem.W.kitx_dict I.kIn ⟨o, h1, h2.1⟩ e (fun z => nomatch z) h
  | @ins a C dx fs ea cl ha hn htk hm =>
    cases (show u = Value.ref a from rx)
    obtain ⟨mA, O, _⟩ := ins_get I.hok ea
    obtain ⟨od, J, _⟩ := O.look
    exact PySem.W.kia_one (PySem.W.kitx_own (cl.get _) cl.hd ha hn htk hm) I.kIn J e (fun z => nomatch z) h
end
end L2
namespace L2
open PySem PySem.Spec PyProof.Rows
structure Room (k : Nat) (A : Around) : Prop where
  hd : A.handled = none
  dp : A.depth + 3 * k + 5 < recursionLimit
  un : A.units + 16 * k + 200 < cLine
  gd : A.guards = some []
theorem Room.mono {j k : Nat} {A : Around} (r : Room k A) (h : j ≤ k) : Room j A := ⟨r.hd, by have := r.dp; trivial, by have := r.un; trivial, r.gd⟩
theorem Room.deeper {k : Nat} {A : Around} (r : Room (k + 1) A) (env : Env) : Room k (A.deeper env) :=
  ⟨r.hd, by have := r.dp; show A.depth + 1 + 3 * k + 5 < _; trivial, by have := r.un; show A.units + 3 + 16 * k + 200 < _; trivial, r.gd⟩
theorem Room.depth {k : Nat} {A : Around} (r : Room k A) : A.depth < recursionLimit := by have := r.dp; trivial
theorem Room.units {k : Nat} {A : Around} (r : Room k A) : A.units + 64 < cLine := by have := r.un; trivial
def tNil : TA := fun _ H Q => Q [] H
def tCons (ta : TE) (tr : TA) : TA := fun σ H Q => ta σ H fun x H1 => tr σ H1 fun xs H2 => Q (x :: xs) H2
section
variable {X : Cx} {e : Expr} {es : List Expr} {te : TE} {t : TA} {pos : Pos}
theorem pa_nil : PA X [] tNil := fun _ _ _ _ H Q I h => Calls.spliced_nil ⟨[], H, I, .nil, h⟩
theorem pa_cons (ha : PE X e te) (hr : PA X es t) (hs : starEach (e :: es) X.env = (false, eval e X.env) :: starEach es X.env := by rfl) : PA X (e :: es) (tCons te t) := by
  intro pos pins s σ H Q I h
  rw [hs]
  show wpAny _ _ (spliced ((false, eval e X.env) :: backTo pos (starEach es X.env))) _ _ s
  refine Calls.spliced_cons (thn (ha pins s σ H _ I h) fun u s1 ⟨x, H1, I1, r1, q1⟩ => ?_)
  exact thn (hr pos pins s1 σ H1 _ I1 q1) fun us s2 ⟨xs, H2, I2, r2, q2⟩ => ⟨x :: xs, H2, I2, .cons r1 r2, q2⟩
def tTup (t : TA) : TE := fun σ H Q => t σ H fun xs H1 => xs.length ≤ sizeLine ∧ ∀ p, H1 p = none → Q (.ref p) (upd H1 p (.tup xs))
def tLst (t : TA) : TE := fun σ H Q => t σ H fun xs H1 => xs.length ≤ sizeLine ∧ ∀ p, H1 p = none → Q (.ref p) (upd H1 p (.lst xs))
theorem pe_tup {x1} (h : PA X es t) : PE X (.Tuple es x1 pos) (tTup t) := by
  intro pins s σ H Q I hq
  refine wpAny_Tuple_spliced (thn (h pos pins s σ H _ I hq) fun us s1 ⟨xs, H1, I1, r, z, q⟩ => ⟨by rw [← r.length]; exact z, ?_⟩)
  have hf : H1 s1.heap.objs.size = none := I1.hok.fresh (Nat.le_refl _)
  refine ⟨.ref s1.heap.objs.size, upd H1 s1.heap.objs.size (.tup xs), I1.laid (t' := s1.toks) (fun b u e => Heap.get?_push_of_some _ e) (Nat.le_refl _) ?_, rfl, q _ hf⟩
  exact ⟨z, us, r, ⟨_, Heap.get?_push_size _ rfl, rfl, _, rfl⟩, _, Heap.get?_push_size _ rfl, rfl⟩
theorem pe_lst (h : PA X es t) : PE X (.List es pos) (tLst t) := by
  intro pins s σ H Q I hq
  refine wpAny_List_spliced (thn (h pos pins s σ H _ I hq) fun us s1 ⟨xs, H1, I1, r, z, q⟩ => ⟨by rw [← r.length]; exact z, ?_⟩)
  have hf : H1 s1.heap.objs.size = none := I1.hok.fresh (Nat.le_refl _)
  refine ⟨.ref s1.heap.objs.size, upd H1 s1.heap.objs.size (.lst xs), I1.laid (t' := s1.toks) (fun b u e => Heap.get?_push_of_some _ e) (Nat.le_refl _) ?_, rfl, q _ hf⟩
  exact ⟨z, us, 0, r, Heap.get?_push_size _ rfl⟩
end
abbrev Sp := List V → Hp → VK → XK → Prop
abbrev CXT := List Env → Hp → Shared → XK → Value → Shared → Prop
structure Env0 (P : Program) (w : World) (K : PySem.W.Frag) (mg : Str → Option Value) (base : Heap) (A : Around) (outer : List Env) (s : Shared) (H : Hp) : Prop where
  frames : A.frames = some outer
  mod : Mod K mg base
  bs : ∀ b o, base.get? b = some o → s.heap.get? b = some o ∧ H b = none
  bsz : base.objs.size ≤ s.heap.objs.size
  funs : s.heap.FunFrames base outer
  frf : ∀ b ∈ frs outer, H b = none
  hok : HOk P w H s.heap
  bare : AllBare s.gens
def CE (outer : List Env) (P : Program) (w : World) (H : Hp) (s : Shared) (Q : VK) (u : Value) (s' : Shared) : Prop :=
  Ex2 fun v H' => s'.os = s.os ∧ AllBare s'.gens ∧ Un (frs outer) [] H H' s.heap s'.heap ∧ HOk P w H' s'.heap ∧ RelV v u ∧ Q v H'
def CR (CX : CXT) (outer : List Env) (P : Program) (w : World) (H : Hp) (s : Shared) (Q : VK) (E : XK) (r : Result) (s' : Shared) : Prop :=
  match r with
  | .ok (.ret u) => CE outer P w H s Q u s'
  | .ok _ => False
  | .error e => CX outer H s E e s'
structure FnOk (P : Program) (w : World) (K : PySem.W.Frag) (mg : Str → Option Value) (base : Heap) (CX : CXT) (k : Nat) (f : Addr) (fd : FuncData) (ps : List Str) (sp : Sp) : Prop where
  len : ∀ vs H Q E, sp vs H Q E → vs.length = ps.length
  run : ∀ (A : Around) (outer : List Env) (s : Shared) (H : Hp) (args : Args) (us : List Value) (vs : List V) (Q : VK) (E : XK), Room k A → Env0 P w K mg base A outer s H → BindsTo s fd args (ps.zip us) → Vals vs us → sp vs H Q E →
    codeAny (model P w) A (.call (.ref f) args) (CR CX outer P w H s Q E) s
theorem FnOk.imp {P : Program} {w : World} {K : PySem.W.Frag} {mg : Str → Option Value} {base : Heap} {CX : CXT} {k : Nat} {f : Addr} {fd : FuncData} {ps : List Str} {sp sp' : Sp} (F : FnOk P w K mg base CX k f fd ps sp)
    (h : ∀ vs H Q E, sp' vs H Q E → sp vs H Q E) : FnOk P w K mg base CX k f fd ps sp' :=
  ⟨fun vs H Q E q => F.len vs H Q E (h _ _ _ _ q), fun A outer s H args us vs Q E hr he hb hv hs => F.run A outer s H args us vs Q E hr he hb hv (h _ _ _ _ hs)⟩
section
variable {X : Cx} {pins : List (Addr × Obj)} {σ : St} {H : Hp} {s s' : Shared}
theorem Inv.env0 (I : Inv X pins σ H s) : Env0 X.prog X.w X.K X.mg X.base X.A X.stack s H :=
  ⟨I.ok.frames, I.ok.mod, I.bs, Nat.le_trans I.ok.bsz I.sz, I.stack, I.stkFree, I.hok, I.bare⟩
theorem Inv.after {Q : VK} {u : Value} (I : Inv X pins σ H s) (h : CE X.stack X.prog X.w H s Q u s') : EP X pins σ Q u s' := by
  obtain ⟨v, H', os, bare, un, hok, r, q⟩ := h
  obtain ⟨hh, g, d, t, os'⟩ := s'
  obtain rfl : os' = s.os := os
  exact ⟨v, H', I.call (h' := hh) (g' := g) (d' := d) (t' := t) (ch := []) un hok bare (fun b z => absurd z (by simp)), r, q⟩
end
def tCall (sp : Sp) (dvs : List V) (E : XK) (t : TA) : TE := fun σ H Q => t σ H fun vs H1 => sp (vs ++ dvs) H1 Q E
def Binds (K : PySem.W.Frag) (fd : FuncData) (ps : List Str) (ds : List Value) : Prop :=
  ∀ (s : Shared) (us : List Value), K.In s.heap → (us ++ ds).length = ps.length → BindsTo s fd ⟨us, []⟩ (ps.zip (us ++ ds))
theorem Binds.all {K : PySem.W.Frag} {fd : FuncData} {ps : List Str} (h : ∀ us : List Value, us.length = ps.length → bindArgs fd ⟨us, []⟩ = pure (ps.zip us)) : Binds K fd ps [] := fun s us _ hl => by
  rw [List.append_nil] at hl ⊢
  exact .of_eq (h us hl)
def Passes (CX : CXT) (X : Cx) (E : XK) : Prop := ∀ (pins : List (Addr × Obj)) (σ : St) (H : Hp) (s : Shared) (e : Value) (s' : Shared), Inv X pins σ H s → CX X.stack H s E e s' → X.xe e s'
section
variable {X : Cx} {CX : CXT} {k : Nat} {f C : Addr} {fd : FuncData} {ps : List Str} {sp : Sp} {dvs : List V} {ds : List Value} {E : XK} {x m : Str} {p pos apos : Pos} {e o : Expr} {es : List Expr} {ta : TE} {t : TA}
theorem run_fn {pins : List (Addr × Obj)} {σ : St} {H : Hp} {s : Shared} {Q : VK} {us : List Value} {vs : List V} (F : FnOk X.prog X.w X.K X.mg X.base CX k f fd ps sp) (hr : Room k X.A) (hb : Binds X.K fd ps ds) (hd : Vals dvs ds) (hx : Passes CX X E)
    (I : Inv X pins σ H s) (r : Vals vs us) (h : sp (vs ++ dvs) H Q E) : wpAny (model X.prog X.w) X.A (call (.ref f) us) (EP X pins σ Q) X.xe s := by
  have r2 : Vals (vs ++ dvs) (us ++ ds) := r.append hd
  have hl : (us ++ ds).length = ps.length := by rw [← r2.length]; exact F.len _ _ _ _ h
  refine wpAny_call (codeAny_mono (F.run X.A X.stack s H ⟨us, []⟩ (us ++ ds) (vs ++ dvs) Q E hr I.env0 (hb s us I.kIn hl) r2 h) fun r s' hq => ?_)
  cases r with
  | error e => exact hx pins σ H s e s' I hq
  | ok fl =>
    cases fl with
    | ret u => exact I.after hq
    | next => exact False.elim hq
    | brk => exact False.elim hq
    | cont => exact False.elim hq
theorem pe_call (F : FnOk X.prog X.w X.K X.mg X.base CX k f fd ps sp) (hr : Room k X.A) (hg : Gl X x) (hm : X.mg x = some (.ref f)) (hk : PySem.W.keepIn X.K (.ref f) = true) (hb : Binds X.K fd ps ds) (hd : Vals dvs ds) (hx : Passes CX X E)
    (ha : PA X (e :: es) t) (hdb : (x == ("__debug__" : Str)) = false := by decide) (he : starEach (e :: es) X.env = (false, eval e X.env) :: starEach es X.env := by rfl) (hpl : (backTo pos (starEach es X.env)).any (·.1) = false := by rfl) :
    PE X (.Call (.Name x p) (e :: es) [] pos) (tCall sp dvs E t) := by
  intro pins s σ H Q I h
  refine wpAny_Call_Name_kw (ld_glob I hg hm ?_ hdb)
  refine PySem.W.callWith_K (h₀ := X.base) I.ok.mod.kin hk (thn (ha pos pins s σ H _ I h) fun us s1 ⟨vs, H1, I1, r, q⟩ => ⟨I1.kIn, ?_⟩) he hpl
  exact run_fn F hr hb hd hx I1 r q
end
section
variable {X : Cx} {CX : CXT} {k : Nat} {f C : Addr} {fd : FuncData} {ps ks : List Str} {sp : Sp} {E : XK} {x m : Str} {p pos apos kpos : Pos} {e o : Expr} {es : List Expr} {kws : List Keyword} {te ta : TE} {t tk : TA} {nm : Option Str}
variable {g : List Value → List Value → List Value} {gV : List V → List V → List V}
end
structure FnScope (N P : List Str) (sc : Scope) : Prop where
  kind : sc.kind = .function
  co : sc.isCoroutine = false
  gen : sc.isGenerator = false
  nd : N.Nodup
  pre : N.take P.length = P
  par : ∀ x ∈ P, sc.names.lookup x = some .local ∨ sc.names.lookup x = some .cell
  nofree : ∀ y ∈ sc.names, y.2 ≠ .free
theorem bindL_out {kindOf : Str → Option NameKind} {x : Str} : ∀ {binds : List (Str × Value)} {m : Str → Option Value}, (∀ v, (x, v) ∉ binds) → bindL kindOf binds m x = m x
  | [], _, _ => rfl
  | (n, v) :: r, m, h => by
    unfold bindL
    rw [bindL_out fun w hw => h w (List.mem_cons_of_mem _ hw)]
    split
    · have : x ≠ n := by rintro rfl; exact h v List.mem_cons_self
      simp [this]
    · rfl
theorem bindC_out {kindOf : Str → Option NameKind} {x : Str} : ∀ {binds : List (Str × Value)} {m : Str → Option Value}, (∀ v, (x, v) ∉ binds) → bindC kindOf binds m x = m x
  | [], _, _ => rfl
  | (n, v) :: r, m, h => by
    unfold bindC
    rw [bindC_out fun w hw => h w (List.mem_cons_of_mem _ hw)]
    split
    · rfl
    · have : x ≠ n := by rintro rfl; exact h v List.mem_cons_self
      simp [this]
theorem bindL_get {kindOf : Str → Option NameKind} {x : Str} {v : Value} : ∀ {P : List Str} {vs : List Value} {i : Nat} {m : Str → Option Value}, P.Nodup → P[i]? = some x → vs[i]? = some v → kindOf x = some .local →
    bindL kindOf (P.zip vs) m x = some v
  | [], _, _, _, _, h, _, _ => by simp at h
  | _ :: _, [], _, _, _, _, h, _ => by simp at h
  | p :: P, w :: vs, 0, m, nd, h1, h2, hk => by
    simp at h1 h2; subst h1; subst h2
    show bindL kindOf ((p, w) :: P.zip vs) m p = _
    unfold bindL
    rw [bindL_out fun v hv => (List.nodup_cons.mp nd).1 (List.of_mem_zip hv).1, if_pos hk]
    simp
  | p :: P, w :: vs, i + 1, m, nd, h1, h2, hk => by
    show bindL kindOf ((p, w) :: P.zip vs) m x = _
    unfold bindL
    exact bindL_get (i := i) (List.nodup_cons.mp nd).2 (by simpa using h1) (by simpa using h2) hk
theorem bindC_get {kindOf : Str → Option NameKind} {x : Str} {v : Value} : ∀ {P : List Str} {vs : List Value} {i : Nat} {m : Str → Option Value}, P.Nodup → P[i]? = some x → vs[i]? = some v → kindOf x ≠ some .local →
    bindC kindOf (P.zip vs) m x = some v
  | [], _, _, _, _, h, _, _ => by simp at h
  | _ :: _, [], _, _, _, _, h, _ => by simp at h
  | p :: P, w :: vs, 0, m, nd, h1, h2, hk => by
    simp at h1 h2; subst h1; subst h2
    show bindC kindOf ((p, w) :: P.zip vs) m p = _
    unfold bindC
    rw [bindC_out fun v hv => (List.nodup_cons.mp nd).1 (List.of_mem_zip hv).1, if_neg hk]
    simp
  | p :: P, w :: vs, i + 1, m, nd, h1, h2, hk => by
    show bindC kindOf ((p, w) :: P.zip vs) m x = _
    unfold bindC
    exact bindC_get (i := i) (List.nodup_cons.mp nd).2 (by simpa using h1) (by simpa using h2) hk
def start (N : List Str) (vs : List V) : St := vs.map some ++ List.replicate (N.length - vs.length) none
def cxOf (CX : CXT) (P : Program) (w : World) (K : PySem.W.Frag) (mg : Str → Option Value) (base : Heap) (N : List Str) (qual : Str) (scope : Scope) (f : Addr) (cd : Value) (A : Around) (outer : List Env) (s : Shared) (H : Hp) (E : XK) : Cx where
  prog := P
  w := w
  K := K
  mg := mg
  base := base
  A := A.deeper (envOfC qual scope s.heap.objs.size f cd)
  N := N
  s₀ := s
  H₀ := H
  env := envOfC qual scope s.heap.objs.size f cd
  outer := outer
  stack := envOfC qual scope s.heap.objs.size f cd :: outer
  ex := []
  calm := true
  fn := fun _ => true
  pn := []
  xe := fun e s' => wpAny (model P w) (A.deeper (envOfC qual scope s.heap.objs.size f cd)) (leaving (envOfC qual scope s.heap.objs.size f cd) e) (fun _ s'' => CX outer H s E e s'') (fun e' s'' => CX outer H s E e' s'') s'
theorem cell_has {sc : Scope} {n : Nat} {x : Str} (h : sc.names.lookup x = some .cell) : ∃ c, (cellsFrom n sc.names []).lookup x = some c := by
  have q := PySem.W.cellsFrom_some sc.names n [] (.inl h)
  exact Option.isSome_iff_exists.mp q
theorem inv_start {CX : CXT} {P : Program} {w : World} {K : PySem.W.Frag} {mg : Str → Option Value} {base : Heap} {N ps : List Str} {qual : Str} {scope : Scope} {f : Addr} {cd : Value} {A : Around} {outer : List Env} {s s1 : Shared} {H : Hp} {E : XK} {us : List Value} {vs : List V}
    (S : FnScope N ps scope) (hd : A.handled = none) (e0 : Env0 P w K mg base A outer s H) (hl : vs.length = ps.length) (r : Vals vs us)
    (x : InCallC s s.heap.objs.size (bindL (envOfC qual scope s.heap.objs.size f cd).kindOf (ps.zip us) fun _ => none) (cellsFrom (s.heap.objs.size + 1) scope.names []) (bindC (envOfC qual scope s.heap.objs.size f cd).kindOf (ps.zip us) fun _ => none) s1) :
    Inv (cxOf CX P w K mg base N qual scope f cd A outer s H E) [] (start N vs) H s1 := by
  have hpl : ps.length ≤ N.length := by have := congrArg List.length S.pre; rw [List.length_take] at this; trivial
  obtain ⟨h1, tk, rfl, hk⟩ := x.done
  have noA : ∀ b : Addr, b ∉ (cxOf CX P w K mg base N qual scope f cd A outer s H E).ex := fun b z => absurd (show b ∈ ([] : List Addr) from z) (by simp)
  refine ⟨⟨e0.mod, S.kind, rfl, rfl, Nat.le_refl _, fun y z c h1 h2 => ?_, fun y hy => ?_, fun y c _ h => ?_, fun _ => hd, Around.frames_deeper e0.frames, .inr ⟨rfl, rfl⟩, fun b z => absurd z (noA b), e0.bs, e0.bsz, fun b _ _ => noA b, fun b z => absurd z (noA b), e0.funs, e0.frf⟩,
    rfl, e0.bare, Un.kept hk, ⟨_, x.toInCall.ns, fun i y v h1 h2 h3 => ?_⟩, fun y c h => ⟨_, x.cell y c h⟩, e0.hok.fresh (Nat.le_refl _), fun y c h => ?_, fun p hp => absurd (show p ∈ ([] : List (Addr × Obj)) from hp) (by simp), e0.hok.kept hk, ?_⟩
  · exact name_of_addr x.apart (PySem.mem_of_lookup h1) (PySem.mem_of_lookup h2)
  · have hy : scope.names.lookup y = some .cell ∨ scope.names.lookup y = some .free := hy
    rcases hy with hy | hy
    · exact cell_has hy
    · exact absurd rfl (S.nofree _ (PySem.mem_of_lookup hy))
  · exact Nat.le_of_lt (x.above y c (PySem.mem_of_lookup h))
  · have hi : i < vs.length := by
      unfold start at h2
      by_cases hi : i < vs.length
      · exact hi
      · rw [List.getElem?_append_right (by simpa using hi)] at h2
        rw [List.getElem?_replicate] at h2
        split at h2 <;> cases h2
    have ha : vs[i]? = some v := by
      unfold start at h2
      rw [List.getElem?_append_left (by simpa using hi), List.getElem?_map] at h2
      cases e : vs[i]? with
      | none => rw [e] at h2; cases h2
      | some a => rw [e] at h2; cases h2; rfl
    obtain ⟨u, hu, rv⟩ := r.get ha
    have hp : ps[i]? = some y := by
      rw [← S.pre, List.getElem?_take_of_lt (by trivial)]; exact h1
    have ndP : ps.Nodup := by rw [← S.pre]; exact S.nd.sublist (List.take_sublist _ _)
    refine ⟨u, rv, ?_⟩
    rcases S.par y (List.mem_of_getElem? hp) with k | k
    · exact .inl ⟨k, bindL_get ndP hp hu k⟩
    · obtain ⟨c, e⟩ := cell_has (n := s.heap.objs.size + 1) k
      refine .inr ⟨.inl k, c, e, ?_⟩
      have q := x.cell y c e
      rw [bindC_get ndP hp hu (by show scope.names.lookup y ≠ _; rw [k]; decide)] at q
      exact q
  · exact e0.hok.fresh (Nat.le_of_lt (x.above y c (PySem.mem_of_lookup h)))
  · unfold start
    show _ = N.length
    rw [List.length_append, List.length_map, List.length_replicate]
    trivial
theorem fn_of {CX : CXT} {P : Program} {w : World} {K : PySem.W.Frag} {mg : Str → Option Value} {base : Heap} {k : Nat} {f : Addr} {name qual : Str} {params : Arguments} {body : List Stmt} {scope : Scope} {dV kV doc pm cdv ct oc : Value} {an od : Option Addr}
    {osl : Array (Option Value)} {N ps : List Str} {sp : Sp} (lk : K.lookup f = some ⟨oc, od, .func (PySem.W.fnOf name qual params body scope dV kV doc pm an cdv ct), osl⟩) (hcd : PySem.W.codeIn K cdv qual = true) (S : FnScope N ps scope)
    (len : ∀ vs H Q E, sp vs H Q E → vs.length = ps.length)
    (hbody : ∀ (A : Around) (outer : List Env) (s : Shared) (H : Hp) (vs : List V) (Q : VK) (E : XK), Room k (A.deeper (envOfC qual scope s.heap.objs.size f cdv)) → sp vs H Q E →
      ∃ t, PSs (cxOf CX P w K mg base N qual scope f cdv A outer s H E) body t ∧ t { nx := fun _ H' => Q .non H', rt := Q } (start N vs) H) :
    FnOk P w K mg base CX (k + 1) f (PySem.W.fnOf name qual params body scope dV kV doc pm an cdv ct) ps sp := by
  refine ⟨len, fun A outer s H args us vs Q E hr e0 hb r hsp => ?_⟩
  have hl := len _ _ _ _ hsp
  have KX : K.In s.heap := e0.mod.kin.keeps fun b o e => (e0.bs b o e).1
  have lim : s.heap.NoLimit := e0.mod.nolimit.keeps fun b o e => (e0.bs b o e).1
  have hkind : ∀ y ∈ ps.zip us, scope.names.lookup y.1 = some .local ∨ (scope.names.lookup y.1 = some .cell ∧ ((cellsFrom (s.heap.objs.size + 1) scope.names []).lookup y.1).isSome = true) := fun ⟨n, v⟩ hy => by
    rcases S.par n (List.of_mem_zip hy).1 with q | q
    · exact .inl q
    · exact .inr ⟨q, PySem.W.cellsFrom_some _ _ _ (.inl q)⟩
  refine codeAny_call_function hr.depth (KX _ _ lk) rfl S.co S.gen rfl (PySem.W.codeRec_of KX hcd) (hb _ _ _ _ ?_)
  refine wpAny_newFunctionEnv_cells S.kind hkind fun env he s1 x => ?_
  subst he
  refine ⟨lim.keeps x.toInCall.keep, codeAny_func ?_⟩
  obtain ⟨t, ht, hq⟩ := hbody A outer s H vs Q E (hr.deeper _) hsp
  have I : Inv (cxOf CX P w K mg base N qual scope f cdv A outer s H E) [] (start N vs) H s1 := inv_start S hr.hd e0 hl r x
  refine wpAny_mono (ht [] s1 (start N vs) H _ I hq) (fun fl s' hs => ?_) fun e s' hs => hs
  have fin : ∀ {σ' : St} {H' : Hp} {v : V} {u : Value}, Inv (cxOf CX P w K mg base N qual scope f cdv A outer s H E) [] σ' H' s' → RelV v u → Q v H' → CE outer P w H s Q u s' :=
    fun {σ' H' v u} J rv q => ⟨v, H', J.os, J.bare, J.base, J.hok, rv, q⟩
  cases fl with
  | ret u =>
    obtain ⟨v, σ', H', J, rv, q⟩ := hs
    exact fin J rv q
  | next =>
    obtain ⟨σ', H', J, q⟩ := hs
    exact fin (v := V.non) (u := Value.none) J rfl q
  | brk =>
    obtain ⟨_, _, _, q⟩ := hs
    exact False.elim q
  | cont =>
    obtain ⟨_, _, _, q⟩ := hs
    exact False.elim q
end L2
namespace L2
open PySem PySem.Spec PyProof.Rows
section
variable {X : Cx} {x : Str} {p pos : Pos} {e : Expr} {es : List Expr} {t : TA} {id T : String} {r : List V → Hp → VK → Prop}
def tCB (r : List V → Hp → VK → Prop) (t : TA) : TE := fun σ H Q => t σ H fun vs H1 => r vs H1 Q
theorem pe_callB (hc : CallR X (.builtin id) r) (hg : Gl X x) (hm : X.mg x = none) (hv : bootBuiltins x = some (.builtin id)) (ha : PA X (e :: es) t) (hn : x ≠ "__name__" := by decide) (hdb : (x == ("__debug__" : Str)) = false := by decide)
    (he : starEach (e :: es) X.env = (false, eval e X.env) :: starEach es X.env := by rfl) (hpl : (backTo pos (starEach es X.env)).any (·.1) = false := by rfl) : PE X (.Call (.Name x p) (e :: es) [] pos) (tCB r t) := by
  intro pins s σ H Q I h
  refine wpAny_Call_Name_kw (ld_blt I hg hm hv ?_ hn hdb)
  exact PyProof.Rows.callWith_builtin1 (thn (ha pos pins s σ H _ I h) fun us s1 ⟨vs, H1, I1, r1, q1⟩ => hc pins s1 σ H1 vs us Q I1 r1 q1) he hpl
theorem pe_callTy (hc : CallR X (.type T) r) (hg : Gl X x) (hm : X.mg x = none) (hv : bootBuiltins x = some (.type T)) (ha : PA X (e :: es) t) (hn : x ≠ "__name__" := by decide) (hdb : (x == ("__debug__" : Str)) = false := by decide)
    (he : starEach (e :: es) X.env = (false, eval e X.env) :: starEach es X.env := by rfl) (hpl : (backTo pos (starEach es X.env)).any (·.1) = false := by rfl) : PE X (.Call (.Name x p) (e :: es) [] pos) (tCB r t) := by
  intro pins s σ H Q I h
  refine wpAny_Call_Name_kw (ld_blt I hg hm hv ?_ hn hdb)
  exact PyProof.Rows.callWith_type1 (thn (ha pos pins s σ H _ I h) fun us s1 ⟨vs, H1, I1, r1, q1⟩ => hc pins s1 σ H1 vs us Q I1 r1 q1) he hpl
end
end L2
namespace HT
open PySem PyProof.Rows
section
open PySem.SeqAt
open PySem.AutoSeq1 (wpAny_loadPart')
open PySem.MeetsSeq PySem.MeetsSeq2 PySem.MeetsSeq3
end
section
variable {prog : Program} {w : World} {A : Around} {E : Value → Shared → Prop} {s : Shared}
def sIx (n d : Nat) : Option Int → Nat
  | none => d
  | some v => if v < 0 then (v + (n : Int)).toNat else min v.toNat n
theorem sIx_none (n d : Nat) : sIx n d none = d := rfl
theorem sIx_nat (n d k : Nat) : sIx n d (some (k : Int)) = min k n := by
  show (if (k : Int) < 0 then ((k : Int) + (n : Int)).toNat else min (k : Int).toNat n) = min k n
  rw [if_neg (by trivial), Int.toNat_natCast]
end
end HT
namespace L2
open PySem PySem.Spec PyProof.Rows
abbrev TO := St → Hp → (Option Int → Hp → Prop) → Prop
def PO (X : Cx) (e : Option Expr) (t : TO) : Prop :=
  ∀ (pins : List (Addr × Obj)) (s : Shared) (σ : St) (H : Hp) (Q : Option Int → Hp → Prop), Inv X pins σ H s → t σ H Q →
    wpAny (model X.prog X.w) X.A (evalPart e X.env) (fun u s' => Ex2 fun o H' => Inv X pins σ H' s' ∧ IsPart u o ∧ Q o H') X.xe s
def tNoPart : TO := fun _ H Q => Q none H
def tPart (t : TE) : TO := fun σ H Q => t σ H fun x H1 => IsIn x fun i => Q (some i) H1
section
variable {X : Cx} {e : Expr} {te : TE} {lo hi : Option Expr} {tl th : TO} {pos p2 : Pos}
theorem po_none : PO X none tNoPart := by
  intro pins s σ H Q I h
  rw [evalPart_none]
  exact wpAny_pure ⟨none, H, I, .none, h⟩
theorem po_some (h : PE X e te) : PO X (some e) (tPart te) := by
  intro pins s σ H Q I hw
  rw [evalPart_some]
  refine thn (h pins s σ H _ I hw) fun u s1 ⟨x, H1, I1, r1, q1⟩ => ?_
  obtain ⟨i, rfl, q⟩ := q1
  obtain ⟨t, rfl⟩ := r1
  exact ⟨some i, H1, I1, .int i t, q⟩
def SlR (X : Cx) (r : V → Option Int → Option Int → Hp → VK → Prop) : Prop :=
  ∀ (pins : List (Addr × Obj)) (s : Shared) (σ : St) (H : Hp) (x : V) (v vl vu : Value) (lo hi : Option Int) (sl : Addr) (Q : VK), Inv X pins σ H s → RelV x v → s.heap.IsSliceOf sl vl vu .none → IsPart vl lo → IsPart vu hi → r x lo hi H Q →
    Ex2 fun T id => typeLookup (.type T) "__getitem__" = pure (some (.builtin id)) ∧ s.TypeIs v T ∧ wpAny (model X.prog X.w) X.A (getItem v (.ref sl)) (EP X pins σ Q) X.xe s
def tSl (r : V → Option Int → Option Int → Hp → VK → Prop) (te : TE) (tl th : TO) : TE := fun σ H Q => te σ H fun x H1 => tl σ H1 fun l H2 => th σ H2 fun u H3 => r x l u H3 Q
theorem pe_slice {r : V → Option Int → Option Int → Hp → VK → Prop} (hr : SlR X r) (he : PE X e te) (hl : PO X lo tl) (hu : PO X hi th) : PE X (.Subscript e (.Slice lo hi none p2) pos) (tSl r te tl th) := by
  intro pins s σ H Q I h
  refine Subscript_ (thn (he pins s σ H _ I h) fun v s1 ⟨x, H1, I1, r1, q1⟩ => ?_)
  refine wpAny_Slice (thn (hl pins s1 σ H1 _ I1 q1) fun vl s2 ⟨l, H2, I2, pl, q2⟩ => thn (hu pins s2 σ H2 _ I2 q2) fun vu s3 ⟨u, H3, I3, pu, q3⟩ => ?_)
  rw [evalPart_none]
  refine wpAny_pure ?_
  have I4 : Inv X pins σ H3 { s3 with heap := s3.heap.push { cls := .type "slice", data := .fields #[vl, vu, .none] } } := I3.kept (t' := s3.toks) fun b ob q => Heap.get?_push_of_some _ q
  obtain ⟨T, id, hT, ht, hg⟩ := hr pins { s3 with heap := s3.heap.push { cls := .type "slice", data := .fields #[vl, vu, .none] } } σ H3 x v vl vu l u s3.heap.objs.size Q I4 r1 (Heap.IsSliceOf.new ..) pl pu q3
  show wpAny (model X.prog X.w) X.A (subscriptTail e (.Slice lo hi none p2) v (.ref s3.heap.objs.size)) (EP X pins σ Q) X.xe { s3 with heap := s3.heap.push { cls := .type "slice", data := .fields #[vl, vu, .none] } }
  exact tail_any (ops := [.ref s3.heap.objs.size, v]) ht hT hg (by with_unfolding_all rfl)
def cutV (xs : List V) (lo hi : Option Int) : List V := (xs.drop (HT.sIx xs.length 0 lo)).take (HT.sIx xs.length xs.length hi - HT.sIx xs.length 0 lo)
theorem cutV_length (xs : List V) (lo hi : Option Int) : (cutV xs lo hi).length ≤ xs.length := by
  unfold cutV
  rw [List.length_take, List.length_drop]
  trivial
end
end L2
namespace L2
open PySem PySem.Spec PyProof.Rows
def ixN (n : Nat) (i : Int) : Option Nat := if 0 ≤ i then (if i < n then some i.toNat else none) else if -(n : Int) ≤ i then some (i + n).toNat else none
def atI {α : Type} (xs : List α) (i : Int) : Option α := (ixN xs.length i).bind fun j => xs[j]?
theorem ixN_seq {n : Nat} {i : Int} {j : Nat} (h : ixN n i = some j) : seqIndex? i n = some j ∧ j < n ∧ -(n : Int) ≤ i ∧ i < n := by
  unfold ixN at h
  by_cases h0 : 0 ≤ i
  · rw [if_pos h0] at h
    by_cases h1 : i < n
    · rw [if_pos h1] at h
      have e : i.toNat = j := Option.some.inj h
      exact ⟨by rw [seqIndex_of h0 h1, e], by trivial, by trivial, h1⟩
    · rw [if_neg h1] at h; cases h
  · rw [if_neg h0] at h
    by_cases h1 : -(n : Int) ≤ i
    · rw [if_pos h1] at h
      have e : (i + n).toNat = j := Option.some.inj h
      exact ⟨by rw [seqIndex_neg (by trivial) h1, e], by trivial, h1, by trivial⟩
    · rw [if_neg h1] at h; cases h
theorem atI_get {α : Type} {xs : List α} {i : Int} {v : α} (h : atI xs i = some v) : ∃ j, seqIndex? i xs.length = some j ∧ xs[j]? = some v ∧ j < xs.length ∧ -(xs.length : Int) ≤ i ∧ i < xs.length := by
  unfold atI at h
  cases e : ixN xs.length i with
  | none => rw [e] at h; cases h
  | some j =>
    rw [e] at h
    obtain ⟨h1, h2, h3, h4⟩ := ixN_seq e
    exact ⟨j, h1, h, h2, h3, h4⟩
theorem atI_nat {α : Type} {xs : List α} {j : Nat} {v : α} (h : xs[j]? = some v) : atI xs (j : Int) = some v := by
  have hj : j < xs.length := (List.getElem?_eq_some_iff.mp h).1
  have e : ixN xs.length (j : Int) = some j := by
    unfold ixN
    rw [if_pos (by trivial), if_pos (by trivial)]; simp
  unfold atI; rw [e]; exact h
def PlainIx (b : Expr) : Prop := ∀ o i, subscripted b false o i = operate [o, i] (getItem o i)
def IxR (X : Cx) (r : R2) : Prop :=
  ∀ (value slice : Expr) (pins : List (Addr × Obj)) (s : Shared) (σ : St) (H : Hp) (x y : V) (v u : Value) (Q : VK), Inv X pins σ H s → RelV x v → RelV y u → r x y H Q →
    subscripted slice false v u = operate [v, u] (getItem v u) → wpAny (model X.prog X.w) X.A (subscriptTail value slice v u) (EP X pins σ Q) X.xe s
def MtR (X : Cx) (id : String) (r : V → List V → Hp → VK → Prop) : Prop :=
  ∀ (pins : List (Addr × Obj)) (s : Shared) (σ : St) (H : Hp) (x : V) (xs : List V) (v : Value) (us : List Value) (Q : VK), Inv X pins σ H s → RelV x v → Vals xs us → r x xs H Q →
    wpAny (model X.prog X.w) X.A (call (.builtin id) (v :: us)) (EP X pins σ Q) X.xe s
section
variable {X : Cx} {a b : Expr} {ta tb : TE} {pos : Pos}
theorem IxR.or {r r' : R2} (h : IxR X r) (h' : IxR X r') : IxR X (fun x y H Q => r x y H Q ∨ r' x y H Q) := by
  intro value slice pins s σ H x y v u Q I rx ry q hs
  rcases q with q | q
  · exact h value slice pins s σ H x y v u Q I rx ry q hs
  · exact h' value slice pins s σ H x y v u Q I rx ry q hs
theorem pe_ix {r : R2} (hr : IxR X r) (ha : PE X a ta) (hb : PE X b tb) (hs : PlainIx b) : PE X (.Subscript a b pos) (tOp r ta tb) := by
  intro pins s σ H Q I h
  exact Subscript_ (binT ha hb I h fun v u s2 x y H2 I2 rx ry q => hr a b pins s2 σ H2 x y v u Q I2 rx ry q (hs _ _))
inductive rIxL_ (K : PySem.W.Frag) (x : V) (y : V) (H : Hp) (Q : VK) : Prop
  | mk (p : _) (xs : _) (i : _) (v : _) (h0 : x = .ref p) (h1 : y = .int i) (h2 : SqL K H p xs) (h3 : atI xs i = some v) (h4 : Q v H)
def rIxL (K : PySem.W.Frag) : R2 := fun x y H Q => rIxL_ K x y H Q
inductive rIxT_ (K : PySem.W.Frag) (x : V) (y : V) (H : Hp) (Q : VK) : Prop
  | mk (p : _) (xs : _) (i : _) (v : _) (h0 : x = .ref p) (h1 : y = .int i) (h2 : SqT K H p xs) (h3 : atI xs i = some v) (h4 : Q v H)
def rIxT (K : PySem.W.Frag) : R2 := fun x y H Q => rIxT_ K x y H Q
inductive rIxS_ (x : V) (y : V) (H : Hp) (Q : VK) : Prop
  | mk (z : _) (i : _) (c : _) (h0 : x = .str z) (h1 : y = .int i) (h2 : z.length ≤ sizeLine) (h3 : atI z.cps.toList i = some c) (h4 : Q (.str ⟨#[c]⟩) H)
def rIxS : R2 := fun x y H Q => rIxS_  x y H Q
theorem ix_list : IxR X (rIxL X.K) := by
  intro value slice pins s σ H x y v u Q I rx ry h hs
  obtain ⟨p, xs, i, z, rfl, rfl, hq, he, q⟩ := h
  cases rx
  obtain ⟨t, rfl⟩ := ry
  obtain ⟨its, r, pl, hz⟩ := I.list hq
  obtain ⟨j, h1, h2, h3, h4, h5⟩ := atI_get he
  obtain ⟨w, ew, rw'⟩ := r.get h2
  have hl := r.length
  have hn := line63
  have fin : EP X pins σ Q w s := ⟨z, H, I, rw', q⟩
  by_cases h0 : 0 ≤ i
  · have hj : i.toNat = j := by
      rw [seqIndex_of h0 h5] at h1
      exact Option.some.inj h1
    exact item_listR pl.isList h0 (by trivial) (by rw [hj]; simpa using ew) fin hs
  · have hj : (i + (its.toArray.size : Int)).toNat = j := by
      rw [seqIndex_neg (by trivial) h4] at h1
      rw [List.size_toArray, ← hl]
      exact Option.some.inj h1
    exact subscriptTail_builtinR (x := w) pl.isList.typeIs slot_list_getitem.lookup
      (wpAny_getItem_list_neg (Q := fun r s' => r = w ∧ EP X pins σ Q r s') pl.isList (by trivial) (by rw [List.size_toArray] <;> trivial) (by trivial) (by rw [hj]; simpa using ew) ⟨rfl, fin⟩) hs
theorem ix_tup : IxR X (rIxT X.K) := by
  intro value slice pins s σ H x y v u Q I rx ry h hs
  obtain ⟨p, xs, i, z, rfl, rfl, hq, he, q⟩ := h
  cases rx
  obtain ⟨t, rfl⟩ := ry
  obtain ⟨its, r, pl, hz⟩ := I.tuple hq
  obtain ⟨j, h1, h2, h3, h4, h5⟩ := atI_get he
  obtain ⟨w, ew, rw'⟩ := r.get h2
  have hl := r.length
  have hn := line63
  have fin : EP X pins σ Q w s := ⟨z, H, I, rw', q⟩
  exact subscriptTail_builtinR (x := w) pl.typeIs slot_tuple_getitem.lookup
    (getItem_tuple (j := j) (Q := fun r s' => r = w ∧ EP X pins σ Q r s') pl (by trivial) (by trivial) (by rw [List.size_toArray, ← hl]; exact h1) (by simpa using ew) ⟨rfl, fin⟩) hs
theorem ix_str : IxR X rIxS := by
  intro value slice pins s σ H x y v u Q I rx ry h hs
  obtain ⟨z, i, c, rfl, rfl, hz, he, q⟩ := h
  obtain ⟨t, rfl⟩ := rx
  obtain ⟨t', rfl⟩ := ry
  obtain ⟨j, h1, h2, h3, h4, h5⟩ := atI_get he
  have hl : z.cps.toList.length = z.length := by simp [Str.length]
  rw [hl] at h1 h4 h5
  have hn := line63
  exact tail_any (typeIs_str s z t) slot_str_getitem.lookup (getItem_str (c := c) (by
    have e1 : decide (i < -(2 ^ 63 : Int)) = false := decide_eq_false (by trivial)
    have e2 : decide (i ≥ 2 ^ 63) = false := decide_eq_false (by trivial)
    rw [e1, e2, Bool.or_false]) (by rw [h1]; simpa using h2) ⟨.str ⟨#[c]⟩, H, I.tok _, ⟨_, rfl⟩, q⟩) hs
def rIx (K : PySem.W.Frag) : R2 := fun x y H Q => rIxL K x y H Q ∨ rIxT K x y H Q ∨ rIxS x y H Q
theorem ix_seq : IxR X (rIx X.K) := ix_list.or (ix_tup.or ix_str)
theorem mapSeq_set (its : List Value) (n j : Nat) (u : Value) : Obj.mapSeq (·.setIfInBounds j u) { cls := .type "list", data := .seq its.toArray n } = { cls := .type "list", data := .seq (its.set j u).toArray n } := by
  simp [Obj.mapSeq]
theorem Inv.lst {pins : List (Addr × Obj)} {σ : St} {H : Hp} {s : Shared} {p : Addr} {xs : List V} (I : Inv X pins σ H s) (h : H p = some (.lst xs)) :
    Ex2 fun (its : List Value) (n : Nat) => Vals xs its ∧ s.heap.get? p = some { cls := .type "list", data := .seq its.toArray n } ∧ xs.length ≤ sizeLine := by
  obtain ⟨z, its, n, r, e⟩ := I.hok p _ h
  exact ⟨its, n, r, e, z⟩
theorem Inv.lstUpd {pins : List (Addr × Obj)} {σ : St} {H : Hp} {s : Shared} {p : Addr} {xs ys : List V} {its its' : List Value} {n n' : Nat} {f : Obj → Obj} (I : Inv X pins σ H s) (h : H p = some (.lst xs))
    (ho : s.heap.get? p = some { cls := .type "list", data := .seq its.toArray n }) (hf : f { cls := .type "list", data := .seq its.toArray n } = { cls := .type "list", data := .seq its'.toArray n' }) (r : Vals ys its') (hz : ys.length ≤ sizeLine) (t : Nat) :
    Inv X pins σ (upd H p (.lst ys)) { s with heap := s.heap.update p f, toks := t } := by
  have e : (s.heap.update p f).get? p = some { cls := .type "list", data := .seq its'.toArray n' } := by
    rw [Heap.get?_update_self f ho (by rw [hf] <;> rfl), hf]
  refine I.write (x := p) (e := p) (by rw [h]; trivial) (.inl rfl) (fun b u hb q => (Heap.get?_update_other _ _ (Ne.symm hb)).trans q) ⟨_, e⟩ ?_
  exact ⟨hz, its', n', r, e⟩
inductive rSetL_ (o : V) (i : V) (v : V) (H : Hp) (Q : (Hp → Prop)) : Prop
  | mk (p : _) (xs : _) (k : _) (j : _) (h0 : o = .ref p) (h1 : i = .int k) (h2 : H p = some (.lst xs)) (h3 : ixN xs.length k = some j) (h4 : Q (upd H p (.lst (xs.set j v))))
def rSetL : V → V → V → Hp → (Hp → Prop) → Prop := fun o i v H Q => rSetL_  o i v H Q
theorem set_list : PSet X rSetL := by
  intro pins s σ H o i v ov iv u Q I ro ri rv h
  obtain ⟨p, xs, k, j, rfl, rfl, hp, hj, q⟩ := h
  cases ro
  obtain ⟨t, rfl⟩ := ri
  obtain ⟨its, n, r, ho, hz⟩ := I.lst hp
  obtain ⟨h1, h2, h3, h4⟩ := ixN_seq hj
  have hl := r.length
  have hn := line63
  have I' : Inv X pins σ (upd H p (.lst (xs.set j v))) { s with heap := s.heap.update p (Obj.mapSeq (·.setIfInBounds j u)) } :=
    I.lstUpd hp ho (mapSeq_set its n j u) (r.set rv j) (by rw [List.length_set]; exact hz) s.toks
  by_cases h0 : 0 ≤ k
  · have hk : k.toNat = j := by
      rw [seqIndex_of h0 h4] at h1
      exact Option.some.inj h1
    exact PySem.W.ki_setAt ho h0 (by trivial) (by rw [List.size_toArray, ← hl]; exact h4) (by rw [hk]; exact ⟨_, I', q⟩)
  · have hk : (k + (its.toArray.size : Int)).toNat = j := by
      rw [seqIndex_neg (by trivial) h3] at h1
      rw [List.size_toArray, ← hl]
      exact Option.some.inj h1
    exact PySem.W.ki_setBack ho (by trivial) (by rw [List.size_toArray, ← hl]; exact h3) (by trivial) (by rw [hk]; exact ⟨_, I', q⟩)
theorem slice_bounds (lo hi : Option Int) (n : Nat) : (sliceBounds lo hi none n).1 = ((HT.sIx n 0 lo : Nat) : Int) ∧ (sliceBounds lo hi none n).2.1 = ((HT.sIx n n hi : Nat) : Int) ∧ (sliceBounds lo hi none n).2.2 = 1 := by
  refine ⟨?_, ?_, rfl⟩
  · cases lo with
    | none => simp [sliceBounds, HT.sIx]
    | some i =>
      simp only [sliceBounds, HT.sIx, Option.getD_none, show (1 : Int) > 0 by decide, if_true]
      by_cases h : i < 0
      · simp only [h, if_true] <;> trivial
      · simp only [h, if_false] <;> trivial
  · cases hi with
    | none => simp [sliceBounds, HT.sIx]
    | some i =>
      simp only [sliceBounds, HT.sIx, Option.getD_none, show (1 : Int) > 0 by decide, if_true]
      by_cases h : i < 0
      · simp only [h, if_true] <;> trivial
      · simp only [h, if_false] <;> trivial
theorem slicePick_cut (its : List Value) (lo hi : Option Int) : slicePick its.toArray lo hi none = ((its.drop (HT.sIx its.length 0 lo)).take (HT.sIx its.length its.length hi - HT.sIx its.length 0 lo)).toArray := by
  obtain ⟨h1, h2, h3⟩ := slice_bounds lo hi its.toArray.size
  unfold slicePick
  rw [h1, h2, h3]
  simp only [sliceRange_one, pick_run, List.size_toArray] <;> rfl
inductive rSlL_ (K : PySem.W.Frag) (x : V) (lo : Option Int) (hi : Option Int) (H : Hp) (Q : VK) : Prop
  | mk (a : _) (xs : _) (h0 : x = .ref a) (h1 : SqL K H a xs) (h2 : ∀ p, H p = none → Q (.ref p) (upd H p (.lst (cutV xs lo hi))))
def rSlL (K : PySem.W.Frag) : V → Option Int → Option Int → Hp → VK → Prop := fun x lo hi H Q => rSlL_ K x lo hi H Q
theorem sl_list : SlR X (rSlL X.K) := by
  intro pins s σ H x v vl vu lo hi sl Q I rx hs pl pu h
  obtain ⟨a, xs, rfl, hx, q⟩ := h
  cases rx
  obtain ⟨its, r, ht, hz⟩ := I.list hx
  have hlen := r.length
  refine ⟨"list", _, slot_list_getitem.lookup, ht.isList.typeIs, ?_⟩
  refine wpAny_getItem_list_slice ht.isList hs pl pu .none (by simp) ?_ (by rw [List.size_toArray] <;> trivial)
  rw [slicePick_cut, ← hlen]
  refine ⟨.ref s.heap.objs.size, _, I.laid (t' := s.toks) (o := .lst (cutV xs lo hi)) (fun b ob q => Heap.get?_push_of_some _ q) (Nat.le_refl _) ?_, rfl, q _ (I.hok.fresh (Nat.le_refl _))⟩
  exact ⟨Nat.le_trans (cutV_length xs lo hi) hz, _, 0, (r.drop (HT.sIx xs.length 0 lo)).take (HT.sIx xs.length xs.length hi - HT.sIx xs.length 0 lo), Heap.get?_push_size _ rfl⟩
theorem call_len_seq : CallR X (.builtin "len") (fun xs H Q => Ex2 fun p ys => xs = [.ref p] ∧ (SqL X.K H p ys ∨ SqT X.K H p ys) ∧ Q (.int ys.length) H) := by
  intro pins s σ H xs us Q I r h
  obtain ⟨p, ys, rfl, hq, q⟩ := h
  obtain ⟨u, rfl, rx⟩ := vals1 r
  cases rx
  have hn := line63
  rcases hq with hq | hq
  · obtain ⟨its, r', pl, hz⟩ := I.list hq
    have hlen := r'.length
    exact Calls.call_len_list pl.isList (by simp only [List.size_toArray] <;> trivial) ⟨.int ys.length, H, I.tok _, ⟨s.toks + 1, by rw [List.size_toArray, hlen]⟩, q⟩
  · obtain ⟨its, r', pl, hz⟩ := I.tuple hq
    have hlen := r'.length
    exact len_tuple pl (by simp only [List.size_toArray] <;> trivial) ⟨.int ys.length, H, I.tok _, ⟨s.toks + 1, by rw [List.size_toArray, hlen]⟩, q⟩
theorem call_list_of : CallR X (.type "list") (fun xs H Q => Ex2 fun p ys => xs = [.ref p] ∧ (SqL X.K H p ys ∨ SqT X.K H p ys) ∧ ∀ l, H l = none → Q (.ref l) (upd H l (.lst ys))) := by
  intro pins s σ H xs us Q I r h
  obtain ⟨p, ys, rfl, hq, q⟩ := h
  obtain ⟨u, rfl, rx⟩ := vals1 r
  cases rx
  have fin : ∀ (its : List Value), Vals ys its → ys.length ≤ sizeLine → ∀ (h' : Heap) (c' : Nat), (∀ b o', s.heap.get? b = some o' → h'.get? b = some o') →
      h'.get? s.heap.objs.size = some { cls := .type "list", dict := none, data := .seq its.toArray c', slots := #[] } → EP X pins σ Q (.ref s.heap.objs.size) { s with heap := h' } := fun its r' hz h' c' kp e =>
    ⟨.ref s.heap.objs.size, _, I.laid (t' := s.toks) kp (Nat.le_refl _) (show ObjOk X.prog X.w _ h' _ (.lst ys) from ⟨hz, its, c', r', e⟩), rfl, q _ (I.hok.fresh (Nat.le_refl _))⟩
  rcases hq with hq | hq
  · obtain ⟨its, r', pl, hz⟩ := I.list hq
    have hlen := r'.length
    obtain ⟨o, ho, hc, n, hd⟩ := pl.isList
    exact call_list_seq p (.inl rfl) ho hc hd (fun h' c' kp e => fin its r' hz h' c' kp e) (by simp only [List.size_toArray] <;> trivial)
  · obtain ⟨its, r', pl, hz⟩ := I.tuple hq
    have hlen := r'.length
    obtain ⟨o, ho, hc, n, hd⟩ := pl
    exact call_list_seq p (.inr rfl) ho hc hd (fun h' c' kp e => fin its r' hz h' c' kp e) (by simp only [List.size_toArray] <;> trivial)
theorem call_tuple_of : CallR X (.type "tuple") (fun xs H Q => Ex2 fun p ys => xs = [.ref p] ∧ ((SqL X.K H p ys ∧ ∀ l, H l = none → Q (.ref l) (upd H l (.tup ys))) ∨ (SqT X.K H p ys ∧ Q (.ref p) H))) := by
  intro pins s σ H xs us Q I r h
  obtain ⟨p, ys, rfl, h⟩ := h
  obtain ⟨u, rfl, rx⟩ := vals1 r
  cases rx
  rcases h with ⟨hq, q⟩ | ⟨hq, q⟩
  · obtain ⟨its, r', pl, hz⟩ := I.list hq
    have hlen := r'.length
    refine call_tuple_list pl.isList (fun h' kp => ?_) (by simp only [List.size_toArray] <;> trivial)
    have I1 : Inv X pins σ H { s with heap := h' } := I.kept (t' := s.toks) kp
    have I2 : Inv X pins σ (upd H h'.objs.size (.tup ys)) { s with heap := h'.push { cls := .type "tuple", data := .seq its.toArray } } :=
      I1.laid (t' := s.toks) (fun b o e => Heap.get?_push_of_some _ e) (Nat.le_refl _) (show ObjOk X.prog X.w _ _ _ (.tup ys) from ⟨hz, its, r', IsTup.new _ _, _, Heap.get?_push_size _ rfl, rfl⟩)
    exact ⟨.ref h'.objs.size, _, I2, rfl, q _ (I1.hok.fresh (Nat.le_refl _))⟩
  · obtain ⟨its, r', pl, hz⟩ := I.tuple hq
    exact call_tuple_same pl ⟨.ref p, H, I, rfl, q⟩
def tyV (K : PySem.W.Frag) (T : String) (x : V) (H : Hp) : Prop := match x with
  | .str _ => T = "str"
  | .int _ => T = "int"
  | .ref p => (T = "list" ∧ ∃ xs, SqL K H p xs) ∨ (T = "tuple" ∧ ∃ o, K.lookup p = some o ∧ o.cls = .type "tuple" ∧ o.dict = none) ∨
      (T = "dict" ∧ ((∃ kvs, H p = some (.dK kvs)) ∨ ∃ kvs, H p = some (.dT kvs))) ∨ (T = "set" ∧ Ex2 fun S n => H p = some (.set S n))
  | _ => False
theorem tyV_is {pins : List (Addr × Obj)} {σ : St} {H : Hp} {s : Shared} {T : String} {x : V} {v : Value} (I : Inv X pins σ H s) (r : RelV x v) (ty : tyV X.K T x H) :
    s.TypeIs v T ∧ ∀ a, v = .ref a → ∃ ob, s.heap.get? a = some ob ∧ ob.dict = none := by
  cases x with
  | str z =>
    obtain ⟨t, rfl⟩ := r
    cases (show T = "str" from ty)
    exact ⟨typeIs_str s z t, fun _ e => nomatch e⟩
  | int i =>
    obtain ⟨t, rfl⟩ := r
    cases (show T = "int" from ty)
    exact ⟨typeIs_int s i t, fun _ e => nomatch e⟩
  | ref p =>
    cases r
    rcases ty with ⟨rfl, xs, hq⟩ | ⟨rfl, o, hk, hc, hd⟩ | ⟨rfl, hk⟩ | ⟨rfl, S, n, hk⟩
    · obtain ⟨its, _, pl, _⟩ := I.list hq
      refine ⟨pl.isList.typeIs, fun a e => ?_⟩
      cases e
      obtain ⟨o, n, e, c, hd, _⟩ := pl
      exact ⟨o, e, hd⟩
    · refine ⟨⟨o, I.kIn p o hk, hc⟩, fun a e => ?_⟩
      cases e
      exact ⟨o, I.kIn _ o hk, hd⟩
    · have z : ∃ o, s.heap.get? p = some o ∧ o.ExactDict := by
        rcases hk with ⟨kvs, hk⟩ | ⟨kvs, hk⟩
        · obtain ⟨_, _, _, _, o, _, _, e, ex, _⟩ := I.hok p _ hk
          exact ⟨o, e, ex⟩
        · obtain ⟨_, _, _, _, o, _, _, e, ex, _⟩ := I.hok p _ hk
          exact ⟨o, e, ex⟩
      obtain ⟨o, e, ex⟩ := z
      refine ⟨⟨o, e, ex.1⟩, fun a e2 => ?_⟩
      cases e2
      exact ⟨o, e, ex.2.1⟩
    · obtain ⟨o, _, _, _, e, ex, _⟩ := I.hok p _ hk
      refine ⟨⟨o, e, ex.1⟩, fun a e2 => ?_⟩
      cases e2
      exact ⟨o, e, ex.2.1⟩
  | _ => exact False.elim ty
def tBM (K : PySem.W.Frag) (T : String) (r : V → List V → Hp → VK → Prop) (to : TE) (t : TA) : TE := fun σ H Q => to σ H fun x H1 => tyV K T x H1 ∧ t σ H1 fun xs H2 => r x xs H2 Q
variable {o e : Expr} {es : List Expr} {to : TE} {t : TA} {name : Str} {apos cpos : Pos} {T id : String} {r : V → List V → Hp → VK → Prop}
theorem pe_bm (pa : PlainAttrs T) (slot : Slot T name id) (hty : typeOf (.builtin id) = pure (.type "method_descriptor")) (hm : MtR X id r) (ho : PE X o to) (ha : PA X (e :: es) t)
    (hbase : attributeBase o name X.env (eval o X.env) = eval o X.env := by rfl)
    (hfew : ((backTo cpos (starEach (e :: es) X.env)).all (fun x => !x.1) && (backToKw cpos (keywordEach [] X.env)).all (fun x => x.1.isSome)
      && decide ((e :: es).length + ([] : List Keyword).length + (if ([] : List Keyword).isEmpty then 0 else 1) < 30)) = true := by rfl)
    (hline : (apos.endLine == cpos.line) = true := by rfl) (hs : starEach (e :: es) X.env = (false, eval e X.env) :: starEach es X.env := by rfl) (hplain : (backTo cpos (starEach es X.env)).any (·.1) = false := by rfl) :
    PE X (.Call (.Attribute o name apos) (e :: es) [] cpos) (tBM X.K T r to t) := by
  intro pins s σ H Q I h
  refine wpAny_Call_method_late hbase hfew hline rfl (thn (ho pins s σ H _ I h) fun v s1 ⟨x, H1, I1, r1, ty, q1⟩ => ?_)
  obtain ⟨h1, h2⟩ := tyV_is I1 r1 ty
  refine ⟨T, id, pa, slot, hty, h1, h2, ?_⟩
  have hA := ha cpos pins s1 σ H1 _ I1 q1
  rw [hs] at hA ⊢
  refine Calls.callWith_builtin (by show (false || (backTo cpos (starEach es X.env)).any (·.1)) = false; rw [hplain] <;> rfl) (Calls.evalArgs_plain ?_)
  exact thn hA fun us s2 ⟨vs, H2, I2, r2, q2⟩ => hm pins s2 σ H2 x vs v us Q I2 r1 r2 q2
/- xs.append(e), list.index on a module's tuple .. are MtR facts of 06m -/
end
end L2
namespace L2
open PySem PySem.Spec PyProof.Rows
def MtM (X : Cx) (id : String) (r : V → List V → Hp → VK → Prop) : Prop :=
  ∀ (pins : List (Addr × Obj)) (s : Shared) (σ : St) (H : Hp) (x : V) (xs : List V) (v : Value) (us : List Value) (Q : VK), Inv X pins σ H s → RelV x v → Vals xs us → r x xs H Q →
    wpAny (model X.prog X.w) X.A (call (.builtin id) (v :: us)) (EP X pins σ Q) X.xe s
theorem Vals.one : ∀ {x : V} {us : List Value}, Vals [x] us → ∃ u, us = [u] ∧ RelV x u
  | _, _, .cons r .nil => ⟨_, rfl, r⟩
theorem Vals.two : ∀ {x y : V} {us : List Value}, Vals [x, y] us → Ex2 fun u v => us = [u, v] ∧ RelV x u ∧ RelV y v
  | _, _, _, .cons r (.cons q .nil) => ⟨_, _, rfl, r, q⟩
theorem Vals.eraseIdx : ∀ {xs : List V} {us : List Value} (i : Nat), Vals xs us → Vals (xs.eraseIdx i) (us.eraseIdx i)
  | _, _, _, .nil => .nil
  | _, _, 0, .cons _ t => t
  | _, _, i + 1, .cons r t => .cons r (Vals.eraseIdx i t)
theorem Vals.rep {xs : List V} {us : List Value} (h : Vals xs us) : ∀ k : Nat, Vals (List.replicate k xs).flatten (List.replicate k us).flatten
  | 0 => .nil
  | k + 1 => by
    rw [List.replicate_succ, List.replicate_succ, List.flatten_cons, List.flatten_cons]
    exact Vals.append h (Vals.rep h k)
theorem len_erase {α : Type} : ∀ (l : List α) (i : Nat), (l.eraseIdx i).length ≤ l.length
  | [], _ => Nat.le_refl _
  | _ :: _, 0 => Nat.le_succ _
  | _ :: r, i + 1 => Nat.succ_le_succ (len_erase r i)
theorem foldl_rep (its : List Value) : ∀ (k : Nat) (acc : List Value),
    List.foldl (fun x1 x2 => x1 ++ x2) acc.toArray (List.replicate k its.toArray) = (acc ++ (List.replicate k its).flatten).toArray
  | 0, acc => by simp
  | k + 1, acc => by
    have e : acc.toArray ++ its.toArray = (acc ++ its).toArray := by simp
    have e2 : (acc ++ its) ++ (List.replicate k its).flatten = acc ++ (List.replicate (k + 1) its).flatten := by
      rw [List.replicate_succ, List.flatten_cons, List.append_assoc]
    rw [← e2, ← foldl_rep its k (acc ++ its), ← e, List.replicate_succ, List.foldl_cons]
section
variable {X : Cx} {pins : List (Addr × Obj)} {σ : St} {H : Hp} {s : Shared} {l b : Addr} {xs ys zs : List V}
theorem Inv.lset {its its' : List Value} {n : Nat} {f : Array Value → Array Value} {t' : Nat} (I : Inv X pins σ H s) (hH : H l = some (.lst xs))
    (e : s.heap.get? l = some { cls := .type "list", data := .seq its.toArray n }) (hf : f its.toArray = its'.toArray) (hv : Vals ys its') (hz : ys.length ≤ sizeLine) :
    Inv X pins σ (upd H l (.lst ys)) { s with heap := s.heap.update l (Obj.mapSeq f), toks := t' } := by
  have q := PySem.IsL.update e f
  rw [hf] at q
  refine I.write (x := l) (e := l) (by rw [hH]; exact trivial) (.inl rfl) (fun b' u hb hu => (Heap.get?_update_other s.heap (Obj.mapSeq f) (Ne.symm hb)).trans hu) ⟨_, q⟩ ?_
  exact ⟨hz, its', _, hv, q⟩
theorem Inv.lnew {its : List Value} {t' : Nat} (I : Inv X pins σ H s) (hv : Vals ys its) (hz : ys.length ≤ sizeLine) :
    Inv X pins σ (upd H s.heap.objs.size (.lst ys)) { s with heap := s.heap.push { cls := .type "list", data := .seq its.toArray }, toks := t' } :=
  I.laid (fun _ _ q => Heap.get?_push_of_some _ q) (Nat.le_refl _) ⟨hz, its, 0, hv, Heap.get?_push_size _ rfl⟩
theorem Inv.fresh (I : Inv X pins σ H s) : H s.heap.objs.size = none := I.hok.fresh (Nat.le_refl _)
theorem Inv.lstM (I : Inv X pins σ H s) (hH : H l = some (.lst xs)) : xs.length ≤ sizeLine ∧ Ex2 fun (its : List Value) (n : Nat) => Vals xs its ∧ xs.length = its.length ∧ s.heap.get? l = some { cls := .type "list", data := .seq its.toArray n } := by
  obtain ⟨z, its, n, r, e⟩ := I.hok l _ hH
  exact ⟨z, its, n, r, r.length, e⟩
theorem notLongL {n : Nat} (h : n ≤ sizeLine) : Builtin.List.listTooLong n = false := by
  unfold Builtin.List.listTooLong
  exact decide_eq_false (by trivial)
end
section
variable {X : Cx}
inductive rAppend_ (x : V) (vs : List V) (H : Hp) (Q : VK) : Prop
  | mk (l : _) (xs : _) (y : _) (h0 : x = .ref l) (h1 : vs = [y]) (h2 : H l = some (.lst xs)) (h3 : xs.length < sizeLine) (h4 : Q .non (upd H l (.lst (xs ++ [y]))))
def rAppend : V → List V → Hp → VK → Prop := fun x vs H Q => rAppend_  x vs H Q
theorem mt_append : MtM X "list.append" rAppend := by
  intro pins s σ H x vs v us Q I rx rv h
  obtain ⟨l, xs, y, rfl, rfl, hH, hz, q⟩ := h
  cases rx
  obtain ⟨u, rfl, ru⟩ := rv.one
  obtain ⟨z, its, n, r, hl, e⟩ := I.lstM hH
  refine call_meets F.slot_list_append ⟨_, e, rfl⟩ F.entry_list_append (F.args_list_append_2 _ _) (PySem.list_append l its.toArray n u (by rw [List.size_toArray]; trivial)) ⟨e, ?_⟩
  refine ⟨.non, _, I.lset (its' := its ++ [u]) hH e (by simp) (r.append (.cons ru .nil)) ?_, rfl, q⟩
  rw [List.length_append, List.length_singleton]
  trivial
inductive rPopAt_ (x : V) (vs : List V) (H : Hp) (Q : VK) : Prop
  | mk (l : _) (xs : _) (i : _) (k : _) (y : _) (h0 : x = .ref l) (h1 : vs = [.int i]) (h2 : H l = some (.lst xs)) (h3 : -(2 ^ 63) ≤ i) (h4 : i < 2 ^ 63) (h5 : seqIndex? i xs.length = some k) (h6 : xs[k]? = some y) (h7 : Q y (upd H l (.lst (xs.eraseIdx k))))
def rPopAt : V → List V → Hp → VK → Prop := fun x vs H Q => rPopAt_  x vs H Q
theorem mt_popAt : MtM X "list.pop" rPopAt := by
  intro pins s σ H x vs v us Q I rx rv h
  obtain ⟨l, xs, i, k, y, rfl, rfl, hH, h1, h2, hk, hy, q⟩ := h
  cases rx
  obtain ⟨u, rfl, ru⟩ := rv.one
  obtain ⟨t, rfl⟩ := ru
  obtain ⟨z, its, n, r, hl, e⟩ := I.lstM hH
  obtain ⟨w, hw, rw'⟩ := r.get hy
  refine call_meets F.slot_list_pop ⟨_, e, rfl⟩ F.entry_list_pop (F.args_list_pop_2 _ _)
    (MeetsSeq.list_pop_at l its.toArray n i t k w (fitsIndex_both h1 h2) (by rw [List.size_toArray, ← hl]; exact hk) (by rw [← Array.getElem?_toList]; exact hw) (by rw [List.size_toArray]; trivial)) ⟨e, ?_⟩
  refine ⟨y, _, I.lset (its' := its.eraseIdx k) hH e ?_ (r.eraseIdx k) ?_, rw', q⟩
  · show its.toArray.eraseIdxIfInBounds k = (its.eraseIdx k).toArray
    rw [List.eraseIdxIfInBounds_toArray]
  · have := len_erase xs k
    trivial
inductive rCat_ (x : V) (y : V) (H : Hp) (Q : VK) : Prop
  | mk (l : _) (b : _) (xs : _) (zs : _) (h0 : x = .ref l) (h1 : y = .ref b) (h2 : H l = some (.lst xs)) (h3 : H b = some (.lst zs)) (h4 : xs.length + zs.length ≤ sizeLine) (h5 : ∀ p, H p = none → Q (.ref p) (upd H p (.lst (xs ++ zs))))
def rCat : R2 := fun x y H Q => rCat_  x y H Q
theorem op_cat : OpR X (binaryOp .Add) rCat := by
  intro pins s σ H x y v u Q I rx ry h
  obtain ⟨l, b, xs, zs, rfl, rfl, hH, hB, hz, q⟩ := h
  cases rx
  cases ry
  obtain ⟨z, its, n, r, hl, e⟩ := I.lstM hH
  obtain ⟨z2, its2, n2, r2, hl2, e2⟩ := I.lstM hB
  refine PySem.P.add_list e e2 ?_ (by rw [List.size_toArray, List.size_toArray]; trivial)
  have ea : its.toArray ++ its2.toArray = (its ++ its2).toArray := by simp
  rw [ea]
  exact ⟨.ref _, _, I.lnew (t' := s.toks) (r.append r2) (by rw [List.length_append]; trivial), rfl, q _ I.fresh⟩
inductive rRep_ (x : V) (y : V) (H : Hp) (Q : VK) : Prop
  | mk (l : _) (k : _) (xs : _) (h0 : x = .ref l) (h1 : y = .int k) (h2 : H l = some (.lst xs)) (h3 : -(2 ^ 63) ≤ k) (h4 : k < 2 ^ 63) (h5 : xs.length * k.toNat ≤ sizeLine) (h6 : ∀ p, H p = none → Q (.ref p) (upd H p (.lst (List.replicate k.toNat xs).flatten)))
def rRep : R2 := fun x y H Q => rRep_  x y H Q
theorem len_rep {α : Type} (xs : List α) (k : Nat) : (List.replicate k xs).flatten.length = k * xs.length := by
  induction k with
  | zero => simp
  | succ k ih => rw [List.replicate_succ, List.flatten_cons, List.length_append, ih, Nat.succ_mul, Nat.add_comm]
theorem op_rep : OpR X (binaryOp .Mult) rRep := by
  intro pins s σ H x y v u Q I rx ry h
  obtain ⟨l, k, xs, rfl, rfl, hH, h1, h2, hz, q⟩ := h
  cases rx
  obtain ⟨t, rfl⟩ := ry
  obtain ⟨z, its, n, r, hl, e⟩ := I.lstM hH
  have hlen : its.toArray.size * k.toNat ≤ sizeLine := by rw [List.size_toArray, ← hl]; exact hz
  have hcap : ¬ its.toArray.size * k.toNat > (2 ^ 63 - 1) / 8 := by
    have : (sizeLine : Nat) ≤ (2 ^ 63 - 1) / 8 := by decide
    trivial
  have hfit : ¬ (!Builtin.List.listFitsIndex k) = true := by
    rw [fitsIndex_both h1 h2]
    exact Bool.false_ne_true
  have hlong : ¬ Builtin.List.listTooLong (its.toArray.size * k.toNat) = true := by
    rw [notLongL hlen]
    exact Bool.false_ne_true
  have hnew : List.foldl (fun x1 x2 => x1 ++ x2) #[] (List.replicate (if its.toArray.isEmpty = true then 0 else k.toNat) its.toArray) = (List.replicate k.toNat its).flatten.toArray := by
    have f0 : ∀ m : Nat, List.foldl (fun x1 x2 => x1 ++ x2) #[] (List.replicate m its.toArray) = (List.replicate m its).flatten.toArray := fun m => by
      have := foldl_rep its m []
      rw [List.nil_append] at this
      exact this
    rw [f0]
    cases its with
    | nil => simp
    | cons a r' => rw [if_neg (by simp)]
  refine wpAny_binaryOp_repeat_ref (T := "list") (U := "int") (by decide) ⟨_, e, rfl⟩ (fun s' => typeIs_int s' k t) noFill_list_mul F.fills_int_mul F.slot_int_rmul repeat_list F.slot_int_index.lookup
    (call_meets F.slot_int_rmul (typeIs_int s k t) F.entry_int_rmul (F.args_int_rmul_2 _ _) (int___rmul___int_list k t l its.toArray n)
      ⟨e, rfl, ⟨_, e, rfl⟩, call_meets F.slot_list_mul ⟨_, e, rfl⟩ F.entry_list_mul (F.args_list_mul_2 _ _) (AutoListH.list___mul___list_int_3 l its.toArray n k t hfit hcap hlong) ⟨e, ?_⟩⟩)
  rw [hnew]
  exact ⟨.ref _, _, I.lnew (t' := s.toks) (r.rep k.toNat) (by rw [len_rep, Nat.mul_comm]; exact hz), rfl, q _ I.fresh⟩
end
section
variable {prog : Program} {w : World} {A : Around} {E : Value → Shared → Prop} {s : Shared}
set_option maxRecDepth 100000 in
end
section
variable {X : Cx}
end
end L2
namespace Att
open PySem PySem.W PySem.Calls PyProof.Rows
theorem ints_of_wellAll {P : Params} {h : Heap} : ∀ (ns : List Int) (vs : List Value), WellAll P h vs (ns.map WData.int) → IntsAre vs ns := by
  intro ns
  induction ns with
  | nil =>
    intro vs w
    rw [List.map_nil] at w
    cases w
    exact .nil
  | cons n ns ih =>
    intro vs w
    rw [List.map_cons] at w
    cases w with
    | cons a b =>
      cases a
      exact .cons _ _ (ih _ b)
theorem script_of {l : OpenLaw} {n : Nat} (hn : l.most = some n) {P : Params} {h : Heap} {args : List WData} {vals : List Value}
    (hpre : l.row.toRowW.claim.pre args = true) (hwl : WellAll P h vals args) :
    ∃ a vs ns, vals = [Value.ref a] ∧ args = [WData.list (ns.map WData.int)] ∧ h.get? a = some { cls := .type "list", data := .seq vs.toArray } ∧ IntsAre vs ns ∧ ns.length ≤ n := by
  have hsh : WShape.hasAll [] args [.list .int] = true := (pre_splitW hpre).1
  have hc : l.pre.holds [] { args := args } = true := (pre_splitW hpre).2
  obtain ⟨d, r, rfl, h1, h2⟩ := hasAllW_cons hsh
  obtain rfl := hasAllW_nil h2
  obtain ⟨xs, rfl, h3⟩ := hasW_list h1
  obtain ⟨ns, rfl⟩ := items_int h3
  have hlen : ns.length ≤ n := by
    unfold OpenLaw.pre at hc
    have h4 : (WTm.not (.lt (.lit (.int (n : Int))) (.len (.arg 0)))).holds [] { args := [.list (ns.map .int)] } = true := by
      have h4 := (holds_andW hc).1
      rw [hn] at h4
      exact h4
    have h5 := condW_of h4 (w_not (w_lt w_lit (w_len_list (w_arg rfl))))
    rw [List.length_map] at h5
    refine Nat.le_of_not_lt fun q => ?_
    have q' : (n : Int) < ((ns.length : Nat) : Int) := by trivial
    first
      | (rw [decide_eq_true q'] at h5; exact absurd h5 (by decide))
      | (simp at h5; trivial)
  cases hwl with
  | cons w1 w2 =>
    cases w2
    cases w1 with
    | list ho hall => exact ⟨_, _, ns, rfl, rfl, ho, ints_of_wellAll ns _ hall, hlen⟩
theorem post_true (l : OpenLaw) (args : List WData) : l.row.toRowW.claim.post args (.bool true) args = true :=
  postW_of (r := l.row.toRowW) (X := (true == true))
    (show WShape.has [] (.bool true) .bool = true by first | rfl | decide | simp [WShape.has, WShape.arms, WShape.armsAll])
    (show (WTm.eq .res (.lit (.bool true))).value [] { args := args, res := some (.bool true), after := args } = some (.bool (true == true)) from w_eq_bool (w_res rfl) w_lit) rfl
theorem attach_call {l : OpenLaw} {n : Nat} {q : Program} {loose : List Str} {XP : (Str → Option Value) → Heap → Prop} {YP : World → Heap → Prop} {d : DefRec}
    (hn : l.most = some n) (hdf : d.params.defaults = [])
    (call : ∀ (w : World) (s₀ s₁ : Shared) (mg mb : Str → Option Value) (fa : Addr) (o : Obj) (pm cd doc : Value) (a : Addr) (vs : List Value) (ns : List Int),
      Ground q loose [] XP w s₀ mg mb s₁.heap → YP w s₁.heap →
      s₁.heap.get? fa = some o → o.data = .func (docDef d.name d.params d.body d.scope pm cd doc) → s₁.heap.CodeRec cd d.name → mg d.name = some (.ref fa) →
      s₁.heap.get? a = some { cls := .type "list", data := .seq vs.toArray } → IntsAre vs ns → ns.length ≤ n → s₁.gens = #[] →
      codeAny (model l.prog w) callerA (.call (.ref fa) ⟨[.ref a], []⟩) (fun r s' => r = .ok (.ret (.bool true)) ∧ OldK s₁.heap s'.heap ∧ s'.os = s₁.os ∧ AllBare s'.gens) s₁) :
    WalkO q loose XP YP l.row.toRowW d [] (fun f vs => PySem.call f vs) := by
  intro w s₀ s₁ mg mb G Y fa o pm cd doc dV kV ho hd hcd hD hmg hg args vals as hpre hlay hrd hwl hlo
  obtain rfl : dV = .none := Dflts.none hD hdf
  obtain rfl : kV = .none := Dflts.noKw hD
  obtain ⟨a, vs, ns, rfl, rfl, hobj, hints, hlen⟩ := script_of hn hpre hwl
  refine enter_call (codeAny_mono (call w s₀ s₁ mg mb fa o pm cd doc a vs ns G Y ho (fd_plain hd) hcd hmg hobj hints hlen hg) fun r s' hq => ?_)
  obtain ⟨rfl, h2, h3, h4⟩ := hq
  exact ⟨.inl ⟨.bool true, .bool true, [], rfl, fun _ => rfl, .bool true, post_true l _, fun _ => ⟨List.Pairwise.nil, fun _ hm => (nomatch hm)⟩⟩, h2, h3, h4⟩
section
variable {prog : Program} {w : World} {A : Around} {E : Value → Shared → Prop} {s : Shared} {K : Frag}
end
end Att
namespace L2
open PySem PySem.Spec PyProof.Rows
theorem vals_ints : ∀ {vs : List Value} {ns : List Int}, IntsAre vs ns → Vals (ns.map V.int) vs
  | _, _, .nil => .nil
  | _, _, .cons n t h => .cons ⟨t, rfl⟩ (vals_ints h)
def Only (H : Hp) : Prop := ∀ b, H b = none ∨ Ex2 fun o xs => H b = some (.frz o (.lst xs))
theorem law_call {P : Program} {w : World} {K : PySem.W.Frag} {mg mb : Str → Option Value} {CX : CXT} {k : Nat} {fa a : Addr} {fd : FuncData} {x : Str} {sp : Sp} {s₁ : Shared} {vs : List Value} {ns : List Int}
    (KX : K.In s₁.heap) (hns : s₁.heap.Ns mainGlobals mg) (hb : s₁.heap.Ns builtinsNs mb) (hbb : ∀ x : Str, x ≠ "__name__" → mb x = bootBuiltins x) (hlim : s₁.heap.NoLimit) (hg : s₁.gens = #[])
    (ha : s₁.heap.get? a = some { cls := .type "list", data := .seq vs.toArray }) (hi : IntsAre vs ns) (hl : ns.length ≤ sizeLine) (hr : Room k callerA)
    (F : ∀ base : Heap, K.In base → base.Ns mainGlobals mg → FnOk P w K mg base CX k fa fd [x] sp) (hbind : ∀ (s : Shared) (u : Value), BindsTo s fd ⟨[u], []⟩ [(x, u)])
    (hsp : ∀ H : Hp, Only H → SqL K H a (ns.map V.int) → sp [.ref a] H (fun v _ => v = .bl true) fun _ _ _ => False)
    (hCX : ∀ H e s', CX [] H s₁ (fun _ _ _ => False) e s' → False) :
    codeAny (model P w) callerA (.call (.ref fa) ⟨[.ref a], []⟩) (fun r s' => r = .ok (.ret (.bool true)) ∧ OldK s₁.heap s'.heap ∧ s'.os = s₁.os ∧ AllBare s'.gens) s₁ := by
  have rv := vals_ints hi
  have lenV := hi.length
  have core : ∀ H : Hp, Only H → SqL K H a (ns.map V.int) → HOk P w H s₁.heap → (∀ b, H b ≠ none → b = a) → (H a ≠ none → K.lookup a = none) →
      codeAny (model P w) callerA (.call (.ref fa) ⟨[.ref a], []⟩) (fun r s' => r = .ok (.ret (.bool true)) ∧ OldK s₁.heap s'.heap ∧ s'.os = s₁.os ∧ AllBare s'.gens) s₁ := by
    intro H hO hS hok hA hK
    have base_of : ∀ {b : Addr} {o : Obj}, s₁.heap.get? b = some o → H b = none → (hidT s₁.heap H).get? b = some o := fun e n => hidT_get e n
    have noA : ∀ {b : Addr} {o : Obj} {es : Array DictEntry} {ep : Nat}, s₁.heap.get? b = some o → o.data = .dict es ep → H b = none := fun {b o es ep} e d => by
      cases q : H b with
      | none => rfl
      | some u =>
        have e' : b = a := hA b (by rw [q]; simp)
        subst e'
        rw [ha] at e; cases e
        have d' : Data.seq vs.toArray _ = Data.dict es ep := d
        cases d'
    have nsK : ∀ {b : Addr} {m : Str → Option Value}, s₁.heap.Ns b m → (hidT s₁.heap H).Ns b m := fun {b m} ⟨o, es, ep, e, d, r⟩ => ⟨o, es, ep, base_of e (noA e d), d, r⟩
    have hKb : K.In (hidT s₁.heap H) := fun b o e => base_of (KX b o e) (by
      cases q : H b with
      | none => rfl
      | some u =>
        have e' : b = a := hA b (by rw [q]; simp)
        subst e'
        rw [hK (by rw [q]; simp)] at e; cases e)
    have hM : Mod K mg (hidT s₁.heap H) := ⟨hKb, nsK hns, ⟨mb, nsK hb, hbb⟩, let ⟨mc, h1, h2⟩ := hlim; ⟨mc, nsK h1, h2⟩⟩
    have e0 : Env0 P w K mg (hidT s₁.heap H) callerA [] s₁ H := ⟨rfl, hM, fun b o e => of_hidT e, Nat.le_of_eq (hidT_size _ _), trivial, fun b hb => absurd (show b ∈ ([] : List Addr) from hb) (by simp), hok, .of_eq hg⟩
    refine codeAny_mono ((F _ hKb (nsK hns)).run callerA [] s₁ H ⟨[.ref a], []⟩ [.ref a] [.ref a] _ _ hr e0 (hbind s₁ (.ref a)) (.cons rfl .nil) (hsp H hO hS)) fun r s' h => ?_
    cases r with
    | error e => exact (hCX H e s' h).elim
    | ok fl =>
      cases fl with
      | next => exact False.elim h
      | brk => exact False.elim h
      | cont => exact False.elim h
      | ret u =>
        obtain ⟨v, H', os, bare, un, hok', r', q⟩ := h
        have q' : v = .bl true := q
        subst q'
        obtain rfl : u = Value.bool true := r'
        refine ⟨rfl, OldK.of_keep fun b o e => ?_, os, bare⟩
        cases q : H b with
        | none => exact un.keep b o e q (by intro z; exact absurd (show b ∈ ([] : List Addr) from z) (by simp)) (by simp)
        | some u =>
          rcases hO b with z | ⟨ob, xs, z⟩
          · rw [q] at z; cases z
          · have z2 := un.frzs b ob _ z
            obtain ⟨e1, _⟩ := hok b _ z
            obtain ⟨e2, _⟩ := hok' b _ z2
            rw [e] at e1; cases e1
            exact e2
  cases hk : K.lookup a with
  | some o =>
    have e := KX a o hk
    rw [ha] at e
    cases e
    refine core (fun _ => none) (fun _ => .inl rfl) (.inr ⟨_, vs.toArray, _, hk, rfl, rfl, rfl, by rw [List.size_toArray, lenV]; exact hl, by simpa using rv⟩) (fun b u z => by have z' : (none : Option HO) = some u := z; cases z') (fun b z => absurd rfl z) fun z => absurd rfl z
  | none =>
    refine core (fun b => if b = a then some (.frz { cls := .type "list", data := .seq vs.toArray } (.lst (ns.map V.int))) else none) (fun b => ?_) (.inl (.inr ⟨{ cls := .type "list", data := .seq vs.toArray }, if_pos rfl⟩)) (fun b u z => ?_) (fun b z => ?_) fun _ => hk
    · by_cases hb : b = a
      · exact .inr ⟨_, _, if_pos hb⟩
      · exact .inl (if_neg hb)
    · by_cases hb : b = a
      · have z' := (if_pos hb).symm.trans z
        cases z'
        subst hb
        exact ⟨ha, by rw [List.length_map]; exact hl, vs, _, rv, ha⟩
      · have z' := (if_neg hb).symm.trans z
        cases z'
    · by_cases hb : b = a
      · exact hb
      · exact absurd (if_neg hb) z
end L2
namespace L2
open PySem PySem.Spec PyProof.Rows
abbrev KOf {K : PySem.W.Frag} {h : Heap} (_ : K.In h) : PySem.W.Frag := K
theorem walk_of {l : PySem.W.OpenLaw} {n k : Nat} {q : Program} {loose : List Str} {XP : (Str → Option Value) → Heap → Prop} {YP : World → Heap → Prop} {d : DefRec} {K : Params → PySem.W.Frag} {CX : World → CXT} {sp : World → Sp} {x : Str}
    (hn : l.most = some n) (hn2 : n ≤ sizeLine) (hdf : d.params.defaults = []) (hr : Room k callerA)
    (hY : ∀ (w : World) (h : Heap), YP w h → (K w.params).In h)
    (F : ∀ (w : World) (mg : Str → Option Value) (fa : Addr) (h : Heap), (K w.params).In h → h.Ns mainGlobals mg → mg d.name = some (.ref fa) →
      ∃ fd : FuncData, (∀ (s : Shared) (u : Value), BindsTo s fd ⟨[u], []⟩ [(x, u)]) ∧
        ∀ base : Heap, (K w.params).In base → base.Ns mainGlobals mg → FnOk l.prog w (K w.params) mg base (CX w) k fa fd [x] (sp w))
    (hsp : ∀ (w : World) (H : Hp) (a : Addr) (ns : List Int), ns.length ≤ n → Only H → SqL (K w.params) H a (ns.map V.int) → sp w [.ref a] H (fun v _ => v = .bl true) fun _ _ _ => False)
    (hCX : ∀ (w : World) (H : Hp) (s : Shared) (e : Value) (s' : Shared), CX w [] H s (fun _ _ _ => False) e s' → False) :
    PySem.W.WalkO q loose XP YP l.row.toRowW d [] (fun f vs => PySem.call f vs) := by
  refine Att.attach_call hn hdf fun w s₀ s₁ mg mb fa o pm cd doc a vs ns G Y ho hd hcd hmg hobj hints hlen hg => ?_
  have KX := hY w _ Y
  obtain ⟨fd, hb, hF⟩ := F w mg fa _ KX G.T.g hmg
  exact law_call KX G.T.g G.T.b G.T.builtins G.T.nolimit hg hobj hints (Nat.le_trans hlen hn2) hr hF hb (fun H hO hS => hsp w H a ns hlen hO hS) fun H e s' => hCX w H s₁ e s'
theorem walk_ofK {l : PySem.W.OpenLaw} {n k : Nat} {q : Program} {loose : List Str} {XP : (Str → Option Value) → Heap → Prop} {YP : World → Heap → Prop} {d : DefRec} {K : Params → PySem.W.Frag} {CX : CXT} {sp : PySem.W.Frag → Sp} {x : Str}
    (hn : l.most = some n) (hn2 : n ≤ sizeLine) (hdf : d.params.defaults = []) (hr : Room k callerA)
    (hY : ∀ (w : World) (h : Heap), YP w h → (K w.params).In h)
    (F : ∀ (w : World) (mg : Str → Option Value) (fa : Addr) (h : Heap), (K w.params).In h → h.Ns mainGlobals mg → mg d.name = some (.ref fa) →
      ∃ fd : FuncData, (∀ (s : Shared) (u : Value), BindsTo s fd ⟨[u], []⟩ [(x, u)]) ∧
        ∀ base : Heap, (K w.params).In base → base.Ns mainGlobals mg → FnOk l.prog w (K w.params) mg base CX k fa fd [x] (sp (K w.params)))
    (hsp : ∀ (K : PySem.W.Frag) (H : Hp) (a : Addr) (ns : List Int), ns.length ≤ n → Only H → SqL K H a (ns.map V.int) → sp K [.ref a] H (fun v _ => v = .bl true) fun _ _ _ => False)
    (hCX : ∀ (H : Hp) (s : Shared) (e : Value) (s' : Shared), CX [] H s (fun _ _ _ => False) e s' → False) :
    PySem.W.WalkO q loose XP YP l.row.toRowW d [] (fun f vs => PySem.call f vs) :=
  walk_of (K := K) (CX := fun _ => CX) (sp := fun w => sp (K w.params)) hn hn2 hdf hr hY F (fun w H a ns h1 h2 h3 => hsp (K w.params) H a ns h1 h2 h3) fun _ H s e s' => hCX H s e s'
end L2
/- THE LAST THEOREM (shape; LID, My.* are yours):
   My.Adr: a structure of the addresses that your layer names (classes, functions); My.Txt K t: a structure (Prop) of the equations over K;
   My.txt_mk : {K} {implicit addresses ..} (e1 : nsIn K mainGlobals "law" = some (some (.ref f))) (e2 : K.lookup f = some ⟨oc, od, .func (fnOf "law" "law" params body scope dV kV doc pm an cdv ct), sl⟩) (e3 : codeIn K cdv "law" = true) .. : ∃ t, My.Txt K t
set_option maxRecDepth 100000 in
set_option maxHeartbeats 0 in
theorem PySem.Challenge.cw_LID_holds : PySem.Challenge.rw_LID.Holds := by
  w_on; o_law; k_head; (case hw => w_witness2)
  k_fill
  refine L2.walk_of (l := PySem.Challenge.rw_LID) (n := 63) (k := 40) (x := "script") (CX := fun w => ..) (sp := fun _ => My.sp_law) rfl (by decide) rfl ⟨rfl, by decide, by decide⟩ (fun w h Y => PySem.W.kIn_of Y) ?F ?S ?C
  case F =>
    intro w mg fa h KX G hmg
    have T : ∃ t, My.Txt (L2.KOf KX) t := by
      dsimp only [L2.KOf]                          -- K must stand as «<heap const> w.params» for k_is
      refine' My.txt_mk ?e1 ?e2 ?e3 ..
      (case e1 => PySem.W.k_is)                    -- in the order: a name -> its address -> its object -> its parts
      (case e2 => PySem.W.k_is)
      ..
    obtain ⟨t, T⟩ := T
    have e0 := hmg.symm.trans (PySem.W.mg_of KX G T.law)
    cases e0                                       -- fa is the law's own address
    exact ⟨_, fun s u => .of_eq rfl, fun base kb nb => My.law_fn T kb nb⟩     -- if «.of_eq rfl» comes too early: refine' ⟨_, ?b, fun base kb nb => My.law_fn T kb nb⟩; exact fun s u => .of_eq rfl
  case S => exact fun w H a ns hl hO hS => ..
  case C => exact ..
(the tactic k_is has no namespace: write k_is) -/
namespace L2
open PySem PySem.Spec PyProof.Rows
def defArgs (s : Stmt) : Arguments := match s with
  | .FunctionDef _ a _ _ _ _ _ _ _ _ => a
  | _ => { posonlyargs := [], args := [], vararg := none, kwonlyargs := [], kw_defaults := [], kwarg := none, defaults := [] }
def defBody (s : Stmt) : List Stmt := match s with
  | .FunctionDef _ _ b _ _ _ _ _ _ _ => b
  | _ => []
def defScope (s : Stmt) : Scope := match s with
  | .FunctionDef _ _ _ _ _ _ sc _ _ _ => sc
  | _ => { kind := .function, names := [], isGenerator := false, isCoroutine := false }
abbrev CX0 : CXT := fun _ _ _ _ _ _ => False
abbrev E0 : XK := fun _ _ _ => False
theorem pass0 {X : Cx} : Passes CX0 X E0 := fun _ _ _ _ _ _ _ h => h.elim
structure Fun (K : PySem.W.Frag) (x qual : Str) (st : Stmt) (f : Addr) (fd : FuncData) : Prop where
  ex : Ex9 fun (oc : Value) (od : Option Addr) (kV doc pm : Value) (an : Option Addr) (cdv ct : Value) (osl : Array (Option Value)) =>
    fd = PySem.W.fnOf x qual (defArgs st) (defBody st) (defScope st) .none kV doc pm an cdv ct ∧ K.lookup f = some ⟨oc, od, .func fd, osl⟩ ∧ PySem.W.codeIn K cdv qual = true
  kp : PySem.W.keepIn K (.ref f) = true
section
variable {P : Program} {w : World} {K : PySem.W.Frag} {mg : Str → Option Value} {base : Heap}
theorem Fun.ok {x qual : Str} {st : Stmt} {f : Addr} {fd : FuncData} {N ps : List Str} {k : Nat} {sp : Sp} (F : Fun K x qual st f fd) (S : FnScope N ps (defScope st)) (len : ∀ vs H Q E, sp vs H Q E → vs.length = ps.length)
    (hbody : ∀ (cdv : Value) (A : Around) (outer : List Env) (s : Shared) (H : Hp) (vs : List V) (Q : VK) (E : XK), Room k (A.deeper (envOfC qual (defScope st) s.heap.objs.size f cdv)) → sp vs H Q E →
      ∃ t, PSs (cxOf CX0 P w K mg base N qual (defScope st) f cdv A outer s H E).nox (defBody st) t ∧ t { nx := fun _ H' => Q .non H', rt := Q } (start N vs) H) : FnOk P w K mg base CX0 (k + 1) f fd ps sp := by
  obtain ⟨oc, od, kV, doc, pm, an, cdv, ct, osl, rfl, lk, hcd⟩ := F.ex
  refine fn_of lk hcd S len fun A outer s H vs Q E hr hsp => ?_
  obtain ⟨t, h, q⟩ := hbody cdv A outer s H vs Q E hr hsp
  exact ⟨t, h.nox, q⟩
theorem Fun.binds {x qual : Str} {st : Stmt} {f : Addr} {fd : FuncData} {ps : List Str} (F : Fun K x qual st f fd)
    (h : ∀ (kV doc pm : Value) (an : Option Addr) (cdv ct : Value) (us : List Value), us.length = ps.length → bindArgs (PySem.W.fnOf x qual (defArgs st) (defBody st) (defScope st) .none kV doc pm an cdv ct) ⟨us, []⟩ = pure (ps.zip us)) : Binds K fd ps [] := by
  obtain ⟨oc, od, kV, doc, pm, an, cdv, ct, osl, rfl, lk, hcd⟩ := F.ex
  exact .all (h kV doc pm an cdv ct)
theorem fun_mk {x qual : Str} {st : Stmt} {f : Addr} {oc : Value} {od an : Option Addr} {osl : Array (Option Value)} {kV doc pm cdv ct : Value} (l : K.lookup f = some ⟨oc, od, .func (PySem.W.fnOf x qual (defArgs st) (defBody st) (defScope st) .none kV doc pm an cdv ct), osl⟩)
    (c : PySem.W.codeIn K cdv qual = true) (k : PySem.W.keepIn K (.ref f) = true) : Fun K x qual st f (PySem.W.fnOf x qual (defArgs st) (defBody st) (defScope st) .none kV doc pm an cdv ct) := ⟨⟨oc, od, kV, doc, pm, an, cdv, ct, osl, rfl, l, c⟩, k⟩
end
section
variable {X : Cx}
theorem pv (i : Nat) {x : Str} {pos : Pos} (hN : X.N[i]? = some x := by rfl) (hv : Vis X.env.scope x := by first | exact Or.inl rfl | exact Or.inr (Or.inl rfl) | exact Or.inr (Or.inr rfl)) (hd : (x == ("__debug__" : Str)) = false := by decide)
    (hcd : (x == ("__classdict__" : Str)) = false := by decide) : PE X (.Name x pos) (tVar i) := pe_var hN hv hd hcd
end
theorem iteF {A B : Prop} (h : B) : if false = true then A else B := by
  rw [if_neg Bool.false_ne_true]
  exact h
theorem iteT {A B : Prop} (h : A) : if true = true then A else B := by
  rw [if_pos rfl]
  exact h
theorem ite2 {c A B : Prop} [Decidable c] (h1 : c → A) (h2 : ¬ c → B) : if c then A else B := by
  by_cases h : c
  · rw [if_pos h]
    exact h1 h
  · rw [if_neg h]
    exact h2 h
def Same (H H' : Hp) : Prop := ∀ b o, H b = some o → H' b = some o
theorem Same.refl (H : Hp) : Same H H := fun _ _ h => h
theorem Same.trans {H H1 H2 : Hp} (a : Same H H1) (b : Same H1 H2) : Same H H2 := fun c o h => b c o (a c o h)
theorem Same.free {H H' : Hp} (e : Same H H') {l : Addr} (h : H' l = Option.none) : H l = Option.none := by
  cases q : H l with
  | none => rfl
  | some o =>
    rw [e l o q] at h
    cases h
theorem Same.seq {K : PySem.W.Frag} {H H' : Hp} {a : Addr} {xs : List V} (e : Same H H') (h : SqL K H a xs) : SqL K H' a xs := by
  rcases h with (h | ⟨o, h⟩) | h
  · exact .inl (.inl (e _ _ h))
  · exact .inl (.inr ⟨o, e _ _ h⟩)
  · exact .inr h
end L2
namespace L2
open PySem
theorem clos_ok {scope : Scope} {env : Env} (h : ∀ y ∈ scope.names, y.2 = .free → ∃ c, env.cells.lookup y.1 = some c) :
    ∃ cl, closureFor scope env = pure cl ∧ (∀ x c, cl.lookup x = some c → env.cells.lookup x = some c) ∧ (∀ y ∈ scope.names, y.2 = .free → ∃ c, cl.lookup y.1 = some c) := by
  have go : ∀ (names : List (Str × NameKind)) (acc : List (Str × Addr)), (∀ y ∈ names, y.2 = .free → ∃ c, env.cells.lookup y.1 = some c) → (∀ x c, acc.lookup x = some c → env.cells.lookup x = some c) →
      ∃ cl, (forIn names acc (fun (x : Str × NameKind) (cs : List (Str × Addr)) => match x with
        | (name, kind) => if (kind == .free) = true then (do let a ← cellOf env name; pure (ForInStep.yield ((name, a) :: cs))) else pure (ForInStep.yield cs)) : Sem (List (Str × Addr))) = pure cl ∧
        (∀ x c, cl.lookup x = some c → env.cells.lookup x = some c) ∧ (∀ y ∈ names, y.2 = .free → ∃ c, cl.lookup y.1 = some c) ∧ (∀ x c, acc.lookup x = some c → ∃ c', cl.lookup x = some c') := by
    intro names
    induction names with
    | nil => intro acc _ ha; exact ⟨acc, rfl, ha, fun y hy => (by cases hy), fun x c e => ⟨c, e⟩⟩
    | cons x r ih =>
      intro acc hn ha
      obtain ⟨name, kind⟩ := x
      rw [List.forIn_cons]
      by_cases hk : kind = .free
      · subst hk
        obtain ⟨c, hc⟩ := hn (name, .free) List.mem_cons_self rfl
        have e : cellOf env name = pure c := by unfold cellOf; rw [hc]
        obtain ⟨cl, e1, e2, e3, e4⟩ := ih ((name, c) :: acc) (fun y hy => hn y (List.mem_cons_of_mem _ hy)) (fun x c' hx => by
          rw [List.lookup_cons] at hx
          split at hx
          · rename_i hb
            have : x = name := by simpa using hb
            subst this
            cases hx; exact hc
          · exact ha x c' hx)
        refine ⟨cl, ?_, e2, fun y hy hf => ?_, fun x c' hx => ?_⟩
        · simp only [beq_self_eq_true, if_true]
          rw [e, pure_bind, pure_bind]
          exact e1
        · rcases List.mem_cons.mp hy with rfl | hy
          · exact e4 name c (by simp)
          · exact e3 y hy hf
        · by_cases hb : (x == name) = true
          · have : x = name := by simpa using hb
            subst this
            exact e4 x c (by simp)
          · exact e4 x c' (by rw [List.lookup_cons]; simp only [Bool.not_eq_true] at hb; rw [hb]; exact hx)
      · have hb : (kind == NameKind.free) = false := by simpa using hk
        obtain ⟨cl, e1, e2, e3, e4⟩ := ih acc (fun y hy => hn y (List.mem_cons_of_mem _ hy)) ha
        refine ⟨cl, ?_, e2, fun y hy hf => ?_, e4⟩
        · simp only [hb, Bool.false_eq_true, if_false]
          rw [pure_bind]
          exact e1
        · rcases List.mem_cons.mp hy with rfl | hy
          · exact absurd hf hk
          · exact e3 y hy hf
  obtain ⟨cl, e1, e2, e3, _⟩ := go scope.names [] h (fun x c e => by simp at e)
  refine ⟨cl, ?_, e2, e3⟩
  unfold closureFor
  show (forIn scope.names _ _ >>= fun cs => pure cs) = _
  rw [bind_pure]
  exact e1
section
variable {prog : Program} {w : World} {A : Around} {R : Result → Shared → Prop} {s : Shared}
theorem compLoop_all {elt target iter : Expr} {ifs : List Expr} {scope : Scope} {pos : Pos} {it acc : Value} {env : Env} (I : Nat → Shared → Prop)
    (turn : ∀ n s, I n s → wpAny (model prog w) A (pyNext it) (fun r s₁ => match r with
      | none => R (.ok .next) s₁
      | some v => wpAny (model prog w) A (letOwnedTupleGo target it v) (fun _ s₁' => wpAny (model prog w) A (assign target env v) (fun _ s₂ =>
          wpAny (model prog w) A (forIn ifs true fun c r => if r = true then do let ok ← isTrue c env (eval c env); pure (ForInStep.yield ok) else pure (ForInStep.yield r)) (fun ok s₃ =>
            if ok = true then wpAny (model prog w) A (eval elt env) (fun x s₄ =>
              wpAny (model prog w) A (call (.builtin "list.append") [acc, x]) (fun _ s₅ => ∃ m, m < n ∧ I m s₅) (fun _ _ => False) s₄) (fun _ _ => False) s₃
            else ∃ m, m < n ∧ I m s₃) (fun _ _ => False) s₂) (fun _ _ => False) s₁') (fun _ _ => False) s₁) (fun _ _ => False) s)
    (n : Nat) (h : I n s) :
    codeAny (model prog w) A (.compLoop (.ListComp elt [⟨target, iter, ifs, 0⟩] scope pos) 0 it acc env) R s := by
  refine codeAny_loop rfl I (fun n s hI => ?_) n h
  show wpAny _ A ((compTurn (.ListComp elt [⟨target, iter, ifs, 0⟩] scope pos) 0 it acc env).onRaise (fun x => do noteFrame x env; theTreesLotGoes x)) _ _ s
  refine wpAny_noted ?_
  rw [compTurn_list]
  refine wpAny_bind (wpAny_standAt (wpAny_bind (wpAny_mono (turn n s hI) (fun r s₁ h₁ => ?_) fun _ _ h' => h'.elim)))
  cases r with
  | none => exact wpAny_pure h₁
  | some v =>
    refine wpAny_bind (wpAny_mono h₁ (fun _ s₁' h₁' => ?_) fun _ _ h' => h'.elim)
    refine wpAny_bind (wpAny_mono h₁' (fun _ s₂ h₂ => wpAny_bind (wpAny_mono h₂ (fun ok s₃ h₃ => ?_) fun _ _ h' => h'.elim)) fun _ _ h' => h'.elim)
    cases ok with
    | false => exact wpAny_pure ⟨rfl, h₃⟩
    | true =>
      exact wpAny_bind (wpAny_bind (wpAny_mono h₃ (fun x s₄ h₄ => wpAny_bind (wpAny_mono h₄ (fun _ s₅ h₅ => wpAny_pure (wpAny_pure ⟨rfl, h₅⟩)) fun _ _ h' => h'.elim)) fun _ _ h' => h'.elim))
end
end L2
namespace L2
open PySem PySem.Spec PyProof.Rows
section
variable {X : Cx}
theorem call_isinst : CallR X (.builtin "isinstance") (fun xs H Q => Ex4 fun x T t b => xs = [x, .ty T] ∧ TyOf X.K H x t ∧ PySem.W.kitOne X.K t (.type T) = some b ∧ Q (.bl b) H) := by
  intro pins s σ H xs us Q I r h
  obtain ⟨x, T, t, b, rfl, ty, e, q⟩ := h
  obtain ⟨u, c, rfl, ru, rc⟩ := r.two
  obtain rfl : c = Value.type T := rc
  exact isinst_ok I ru ty e fun tk => ⟨.bl b, H, I.tok tk, rfl, q⟩
end
def cxComp (X : Cx) (scope : Scope) (cl : List (Str × Addr)) (C : Addr) (N' : List Str) (s : Shared) (H : Hp) (ex : List Addr) (pn : List (Addr × Obj)) : Cx :=
  { X with N := N', s₀ := s, H₀ := H, env := compEnvC scope cl C X.env, outer := X.stack, ex := ex, fn := fun _ => false, pn := pn, xe := fun _ _ => False }
def cst (L : Nat) (src : List Nat) (σ : St) : St := List.replicate L none ++ src.map fun j => (σ[j]?).join
def Back (σ σ' : St) : Prop := σ'.length = σ.length ∧ ∀ (i : Nat) v, σ[i]? = some (some v) → σ'[i]? = some (some v)
theorem back1 {x : V} {r : St} : Back (none :: r) (some x :: r) := ⟨rfl, fun i v e => by
  cases i with
  | zero => simp at e
  | succ i => simpa using e⟩
theorem back2 {x y : V} {r : St} : Back (none :: none :: r) (some x :: some y :: r) := ⟨rfl, fun i v e => by
  cases i with
  | zero => simp at e
  | succ i =>
    cases i with
    | zero => simp at e
    | succ i => simpa using e⟩
def PIfs (X : Cx) (ifs : List Expr) (t : TT) : Prop :=
  ∀ (pins : List (Addr × Obj)) (s : Shared) (σ : St) (H : Hp) (Q : Bool → Hp → Prop), Inv X pins σ H s → t σ H Q →
    wpAny (model X.prog X.w) X.A (forIn ifs true fun c r => if r = true then do let ok ← isTrue c X.env (eval c X.env); pure (ForInStep.yield ok) else pure (ForInStep.yield r)) (TP X pins σ Q) X.xe s
def tT : TT := fun _ H Q => Q true H
theorem pifs_nil {X : Cx} : PIfs X [] tT := fun _ _ _ H _ I h => wpAny_pure ⟨H, I, h⟩
def compChk (esc : Scope) (N : List Str) (scope : Scope) (N' : List Str) (L : Nat) (src : List Nat) : Bool :=
  (scope.kind == .function) && scope.names.all (fun y => y.2 != .cell && (y.2 != .local || scope.names.lookup y.1 == some .local) && (y.2 != .free || esc.names.lookup y.1 == some .cell || esc.names.lookup y.1 == some .free)) &&
    (N'.length == L + src.length) && (List.range src.length).all fun i => match src[i]?, N'[L + i]? with
      | some j, some x => (N[j]? == some x) && (scope.names.lookup x == some .free)
      | _, _ => false
structure CompOk (esc : Scope) (N : List Str) (scope : Scope) (N' : List Str) (L : Nat) (src : List Nat) : Prop where
  kind : scope.kind = .function
  nocell : ∀ y ∈ scope.names, y.2 ≠ .cell
  loc : ∀ y ∈ scope.names, y.2 = .local → scope.names.lookup y.1 = some .local
  free : ∀ y ∈ scope.names, y.2 = .free → esc.names.lookup y.1 = some .cell ∨ esc.names.lookup y.1 = some .free
  len : N'.length = L + src.length
  frees : ∀ (i j : Nat), src[i]? = some j → ∃ x, N'[L + i]? = some x ∧ N[j]? = some x ∧ scope.names.lookup x = some .free
theorem compOk_of {esc : Scope} {N : List Str} {scope : Scope} {N' : List Str} {L : Nat} {src : List Nat} (h : compChk esc N scope N' L src = true) : CompOk esc N scope N' L src := by
  unfold compChk at h
  simp only [Bool.and_eq_true, List.all_eq_true] at h
  obtain ⟨⟨⟨h1, h2⟩, h3⟩, h4⟩ := h
  refine ⟨by simpa using h1, fun y hy => ?_, fun y hy e => ?_, fun y hy e => ?_, by simpa using h3, fun i j e => ?_⟩
  · have := (h2 y hy).1.1
    simpa using this
  · have := (h2 y hy).1.2
    rw [e] at this
    simpa using this
  · have := (h2 y hy).2
    rw [e] at this
    simpa using this
  · have hi : i < src.length := (List.getElem?_eq_some_iff.mp e).1
    have := h4 i (List.mem_range.mpr hi)
    rw [e] at this
    cases q : N'[L + i]? with
    | none => rw [q] at this; simp at this
    | some x =>
      rw [q] at this
      simp only [Bool.and_eq_true, beq_iff_eq] at this
      exact ⟨x, rfl, this.1, this.2⟩
def CompW (J : It) (σc : St) (g : TG) (tt : TT) (te : TE) (D : Addr) (H1 : Hp) (Q : VK) : Prop :=
  ∃ W : Nat → Nat → Hp → List V → Prop, (∃ m, W 0 m (upd H1 D (.lst [])) []) ∧ ∀ i m H ys, W i m H ys → H D = some (.lst ys) ∧
    ((J.stop i H ∧ Q (.ref D) H) ∨ (J.go i H ∧ ys.length < sizeLine ∧ ∃ N : Hp → List V → Prop, (∀ H' ys', N H' ys' → ∃ m', m' < m ∧ W (i + 1) m' H' ys') ∧
      ∀ x H', J.yld i H x H' → g x σc H' fun σ2 H2 => Back σc σ2 ∧ tt σ2 H2 fun b H3 => if b = true then te σ2 H3 fun y H4 => H4 D = some (.lst ys) ∧ N (upd H4 D (.lst (ys ++ [y]))) (ys ++ [y]) else N H3 ys))
def tComp (wi : TI) (L : Nat) (src : List Nat) (g : TG) (tt : TT) (te : TE) : TE := fun σ H Q => wi σ H fun J H1 => ∀ D, H1 D = none → CompW J (cst L src σ) g tt te D H1 Q
section
variable {X : Cx} {elt tg iter : Expr} {ifs : List Expr} {scope : Scope} {pos : Pos} {N' : List Str} {L : Nat} {src : List Nat} {wi : TI} {g : TG} {tt : TT} {te : TE}
theorem comp_run (hc : X.calm = true) (ck : CompOk X.env.scope X.N scope N' L src) {cl : List (Str × Addr)} {pins : List (Addr × Obj)} {s : Shared} {σ : St} {H : Hp} {Q : VK} (I : Inv X pins σ H s)
    (hsub : ∀ x c, cl.lookup x = some c → X.env.cells.lookup x = some c) (hhas : ∀ y ∈ scope.names, y.2 = .free → ∃ c, cl.lookup y.1 = some c)
    (hi : PI X tg iter wi) (hg : ∀ cl C s H ex pn, PG (cxComp X scope cl C N' s H ex pn) tg g) (hif : ∀ cl C s H ex pn, PIfs (cxComp X scope cl C N' s H ex pn) ifs tt)
    (he : ∀ cl C s H ex pn, PE (cxComp X scope cl C N' s H ex pn) elt te) (h : tComp wi L src g tt te σ H Q) {RR : Value → Addr → Result → Shared → Prop}
    (hRR : ∀ D C H' f s' m, Inv X pins σ H' s' → s'.heap.Ns C m → FpOk X pins H' C → Q (.ref D) H' → RR (.ref D) C (.ok f) s') :
    wpAny (model X.prog X.w) X.A (eval iter X.env) (fun x s₁ => wpAny (model X.prog X.w) X.A (pyIter x) (fun it s₂ => wpAny (model X.prog X.w) X.A (newList []) (fun acc s₃ =>
      wpAny (model X.prog X.w) X.A (newFunctionEnv scope X.env.globals cl [] X.env.qual none .none (some X.env)) (fun cenv s₄ =>
        codeAny (model X.prog X.w) X.A (.compStart (.ListComp elt [⟨tg, iter, ifs, 0⟩] scope pos) 0 it acc { cenv with scope := relabel scope X.env }) (RR acc cenv.locals) s₄) X.xe s₃) X.xe s₂) X.xe s₁) X.xe s := by
  refine thn (hi pins s σ H _ I h) fun v s1 h1 => thn h1 fun itv s2 h2 => ?_
  obtain ⟨it, fp, tn, J, H2, e, I2, T, st2, f2, q⟩ := h2
  subst e
  refine wpAny_newObj_type (wpAny_newFunctionEnv ck.nocell (by intro y hy; simp at hy) (fun h₁ hns₁ hsb₁ => ?_) ck.kind)
  dsimp only at hns₁ hsb₁ ⊢
  generalize hH2 : s2.heap.push { cls := .type "list", dict := none, data := .seq ([] : List Value).toArray } = hp2 at hns₁ hsb₁ ⊢
  have hC : hp2.objs.size = s2.heap.objs.size + 1 := by rw [← hH2, Heap.size_push]
  have hDC : s2.heap.objs.size ≠ hp2.objs.size := by rw [hC]; exact Nat.ne_of_lt (Nat.lt_succ_self _)
  have hCle : s2.heap.objs.size ≤ hp2.objs.size := by rw [hC]; exact Nat.le_succ _
  have below : ∀ b, b < s2.heap.objs.size → b ≠ hp2.objs.size ∧ b ≠ s2.heap.objs.size := fun b hb => ⟨by rw [hC]; exact Nat.ne_of_lt (Nat.lt_succ_of_lt hb), Nat.ne_of_lt hb⟩
  have old : ∀ b o, s2.heap.get? b = some o → h₁.get? b = some o := fun b o e => hsb₁.extBut b o (below b (Heap.lt_size e)).1 (Heap.get?_push_of_some _ (hH2 ▸ Heap.get?_push_of_some _ e))
  have hacc : h₁.get? s2.heap.objs.size = some { cls := .type "list", dict := none, data := .seq ([] : List Value).toArray } := hsb₁.extBut _ _ hDC (Heap.get?_push_of_some _ (hH2 ▸ Heap.get?_push_size _ rfl))
  have hDn : H2 s2.heap.objs.size = none := I2.fresh
  obtain ⟨W, ⟨m0, w0⟩, turn⟩ := q _ hDn
  have fpo : ∀ b ∈ fp, ∃ o, s2.heap.get? b = some o ∧ ∀ v, o.data ≠ .cell v := T.obj _ _ st2
  have fplt : ∀ b ∈ fp, b < s2.heap.objs.size := fun b hb => by obtain ⟨o, e, _⟩ := fpo b hb; exact Heap.lt_size e
  have hfrs : ∀ b ∈ fp, b ∉ frs X.stack := fun b hb z => by
    rcases List.mem_cons.mp (I2.stkSub b z) with z' | z'
    · exact (f2 b hb).2.1 z'
    · exact (f2 b hb).2.2.1 z'
  generalize hX : cxComp X scope cl hp2.objs.size N' s2 H2 fp (X.pn ++ pins) = X'
  have ok' : X'.Ok := by
    subst hX
    refine ⟨I2.ok.mod, ck.kind, I2.ok.glob, I2.ok.blt, hCle, fun x y c e1 e2 => I2.ok.inj x y c (hsub _ _ e1) (hsub _ _ e2), fun x hx => ?_, fun x c z _ => (by cases z), I2.ok.hd, I2.ok.frames, .inl rfl, fun b hb => ⟨(below b (fplt b hb)).1, fun x c e => (f2 b hb).2.2.2.2.1 x c (hsub _ _ e)⟩,
      I2.bs, Nat.le_trans I2.ok.bsz I2.sz, fun b o e hb => ?_, hfrs, I2.stack, I2.stkFree⟩
    · -- a name that is a cell or free
      have hx' : (relabel scope X.env).names.lookup x = some .cell ∨ (relabel scope X.env).names.lookup x = some .free := hx
      have key : ∀ (names : List (Str × NameKind)), (∀ y ∈ names, y.2 ≠ .cell) →
          ((names.map fun (n, k) => if (k == NameKind.free && X.env.scope.kind == .function && X.env.kindOf n == some .cell) then (n, NameKind.cell) else (n, k)).lookup x = some .cell ∨
           (names.map fun (n, k) => if (k == NameKind.free && X.env.scope.kind == .function && X.env.kindOf n == some .cell) then (n, NameKind.cell) else (n, k)).lookup x = some .free) → ∃ y ∈ names, y.1 = x ∧ y.2 = .free := by
        intro names
        induction names with
        | nil => intro _ h; rcases h with h | h <;> simp at h
        | cons y r ih =>
          intro hn h
          obtain ⟨n, k⟩ := y
          by_cases hb : x = n
          · subst hb
            refine ⟨(x, k), List.mem_cons_self, rfl, ?_⟩
            by_cases hk : k = .free
            · exact hk
            · exfalso
              have hkb : (k == NameKind.free) = false := by simpa using hk
              have hnc : k ≠ .cell := hn (x, k) List.mem_cons_self
              simp only [List.map_cons, hkb, Bool.false_and, Bool.false_eq_true, if_false, List.lookup_cons, beq_self_eq_true, if_true] at h
              rcases h with h | h
              · exact hnc (Option.some.inj h)
              · exact hk (Option.some.inj h)
          · have hb' : (x == n) = false := by simpa using hb
            have h' : ((r.map fun (n, k) => if (k == NameKind.free && X.env.scope.kind == .function && X.env.kindOf n == some .cell) then (n, NameKind.cell) else (n, k)).lookup x = some .cell ∨
                (r.map fun (n, k) => if (k == NameKind.free && X.env.scope.kind == .function && X.env.kindOf n == some .cell) then (n, NameKind.cell) else (n, k)).lookup x = some .free) := by
              rw [List.map_cons] at h
              dsimp only at h
              by_cases hcnd : (k == NameKind.free && X.env.scope.kind == .function && X.env.kindOf n == some .cell) = true
              · rw [if_pos hcnd] at h
                simpa only [List.lookup_cons, hb'] using h
              · rw [if_neg hcnd] at h
                simpa only [List.lookup_cons, hb'] using h
            obtain ⟨y, hy, e1, e2⟩ := ih (fun y hy => hn y (List.mem_cons_of_mem _ hy)) h'
            exact ⟨y, List.mem_cons_of_mem _ hy, e1, e2⟩
      obtain ⟨y, hy, e1, e2⟩ := key scope.names ck.nocell hx'
      obtain ⟨c, hc'⟩ := hhas y hy e2
      exact ⟨c, e1 ▸ hc'⟩
    · rcases (f2 b hb).2.2.2.1 with z | z
      · exact I2.ok.noex b o e z
      · exact absurd (Nat.lt_of_lt_of_le (Heap.lt_size e) (Nat.le_trans I2.ok.bsz z)) (Nat.lt_irrefl _)
  have stat : ∀ {H' : Hp}, (∀ b ∈ fp, H' b = none) → ∀ b ∈ fp, FpOk X' [] H' b := by
    subst hX
    intro H' hn b hb
    refine ⟨hn b hb, (below b (fplt b hb)).1, hfrs b hb, .inl hb, fun x c e => (f2 b hb).2.2.2.2.1 x c (hsub _ _ e), fun p hp => ?_⟩
    have hp' : p ∈ X.pn ++ pins := by simpa [cxComp] using hp
    exact (f2 b hb).2.2.2.2.2 p hp'
  have I1 : Inv X' [] (cst L src σ) (upd H2 s2.heap.objs.size (.lst [])) { s2 with heap := h₁, toks := s2.toks + ([] : List (Str × Value)).length } := by
    subst hX
    have up : ∀ b o, H2 b = some o → upd H2 s2.heap.objs.size (.lst []) b = some o := fun b o e => by rw [upd_ne (ne_of_none e hDn)]; exact e
    have upn : ∀ b, b < s2.heap.objs.size → H2 b = none → upd H2 s2.heap.objs.size (.lst []) b = none := fun b hb e => by rw [upd_ne (Nat.ne_of_lt hb)]; exact e
    refine ⟨ok', rfl, I2.bare, Un.laid old (Nat.le_refl _) hDn, ⟨_, hns₁, fun i x v e1 e2 e3 => ?_⟩, fun x c e => ?_, ?_, fun x c e => ?_, fun p hp => ?_, I2.hok.laid old (Nat.le_refl _) ⟨Nat.zero_le _, [], 0, .nil, hacc⟩, ?_⟩
    · -- the names of the def around
      have hiL : L ≤ i := by
        by_cases hlt : i < L
        · exfalso
          unfold cst at e2
          rw [List.getElem?_append_left (by simpa using hlt), List.getElem?_replicate, if_pos hlt] at e2
          cases e2
        · trivial
      have e2' : (src.map fun j => (σ[j]?).join)[i - L]? = some (some v) := by
        unfold cst at e2
        rw [List.getElem?_append_right (by simpa using hiL), List.length_replicate] at e2
        exact e2
      rw [List.getElem?_map] at e2'
      cases hj : src[i - L]? with
      | none => rw [hj] at e2'; cases e2'
      | some j =>
        rw [hj] at e2'
        have e3' : (σ[j]?).join = some v := Option.some.inj e2'
        have hσ : σ[j]? = some (some v) := by
          cases q : σ[j]? with
          | none => rw [q] at e3'; cases e3'
          | some o => rw [q] at e3'; exact congrArg some e3'
        obtain ⟨x', g1, g2, g3⟩ := ck.frees (i - L) j hj
        have : L + (i - L) = i := by trivial
        rw [this] at g1
        have ex : x' = x := Option.some.inj (g1.symm.trans e1)
        subst ex
        have hfree := ck.free _ (PySem.mem_of_lookup g3) rfl
        obtain ⟨m, hn, hl⟩ := I2.loc
        obtain ⟨u, r, l⟩ := hl j x' v g2 hσ (hfree.elim (fun z => .inr (.inl z)) fun z => .inr (.inr z))
        refine ⟨u, r, .inr ⟨?_, ?_⟩⟩
        · -- its kind in the block
          have key : ∀ (names : List (Str × NameKind)), names.lookup x' = some .free →
              ((names.map fun (n, k) => if (k == NameKind.free && X.env.scope.kind == .function && X.env.kindOf n == some .cell) then (n, NameKind.cell) else (n, k)).lookup x' = some .cell ∨
               (names.map fun (n, k) => if (k == NameKind.free && X.env.scope.kind == .function && X.env.kindOf n == some .cell) then (n, NameKind.cell) else (n, k)).lookup x' = some .free) := by
            intro names
            induction names with
            | nil => intro h; simp at h
            | cons y r ih =>
              intro h
              obtain ⟨n, k⟩ := y
              by_cases hb : x' = n
              · subst hb
                simp only [List.lookup_cons, beq_self_eq_true, if_true] at h
                have hk : k = .free := Option.some.inj h
                subst hk
                rw [List.map_cons]
                dsimp only
                by_cases hcnd : (NameKind.free == NameKind.free && X.env.scope.kind == .function && X.env.kindOf x' == some .cell) = true
                · rw [if_pos hcnd]; left; simp [List.lookup_cons]
                · rw [if_neg hcnd]; right; simp [List.lookup_cons]
              · have hb' : (x' == n) = false := by simpa using hb
                have h' := ih (by simpa only [List.lookup_cons, hb'] using h)
                rw [List.map_cons]
                dsimp only
                by_cases hcnd : (k == NameKind.free && X.env.scope.kind == .function && X.env.kindOf n == some .cell) = true
                · rw [if_pos hcnd]; simpa only [List.lookup_cons, hb'] using h'
                · rw [if_neg hcnd]; simpa only [List.lookup_cons, hb'] using h'
          exact key scope.names g3
        · obtain ⟨c, hcl⟩ := hhas _ (PySem.mem_of_lookup g3) rfl
          have hcx := hsub _ _ hcl
          rcases l with ⟨k1, _⟩ | ⟨_, c', e4, z⟩
          · exfalso
            have k1' : X.env.scope.names.lookup x' = some .local := k1
            rcases hfree with z | z
            · rw [z] at k1'; cases k1'
            · rw [z] at k1'; cases k1'
          · rw [hcx] at e4
            cases e4
            obtain ⟨o, ho, hd⟩ := z
            exact ⟨c, hcl, o, old _ _ ho, hd⟩
    · obtain ⟨v, o, ho, hd⟩ := I2.cell x c (hsub _ _ e)
      exact ⟨v, o, old _ _ ho, hd⟩
    · show upd H2 s2.heap.objs.size (.lst []) hp2.objs.size = none
      rw [upd_ne (Ne.symm hDC)]
      exact I2.hok.fresh hCle
    · obtain ⟨v, o, ho, hd⟩ := I2.cell x c (hsub _ _ e)
      exact upn c (Heap.lt_size ho) (I2.freeC x c (hsub _ _ e))
    · have hp' : p ∈ X.pn ++ pins := by simpa [cxComp] using hp
      obtain ⟨e, n, ne, nf, d⟩ := I2.pin p hp'
      have hlt := Heap.lt_size e
      refine ⟨old _ _ e, upn _ hlt n, (below _ hlt).1, fun z => ?_, d⟩
      rcases List.mem_cons.mp (I2.stkSub _ z) with z' | z'
      · exact ne z'
      · exact nf z'
    · show (cst L src σ).length = N'.length
      unfold cst
      rw [List.length_append, List.length_replicate, List.length_map, ck.len]
  have eA : X'.A = X.A := by subst hX; rfl
  have eP : X'.prog = X.prog := by subst hX; rfl
  have eW : X'.w = X.w := by subst hX; rfl
  have eK : X'.K = X.K := by subst hX; rfl
  have ec : X'.calm = true := by subst hX; exact hc
  have exe : X'.xe = fun _ _ => False := by subst hX; rfl
  have eE : X'.env = compEnvC scope cl hp2.objs.size X.env := by subst hX; rfl
  have hg' : PG X' tg g := by subst hX; exact hg _ _ _ _ _ _
  have hif' : PIfs X' ifs tt := by subst hX; exact hif _ _ _ _ _ _
  have he' : PE X' elt te := by subst hX; exact he _ _ _ _ _ _
  have aft : ∀ {H' : Hp} {s' : Shared}, Inv X' [] (cst L src σ) H' s' → Inv X pins σ H' s' ∧ (∃ m, s'.heap.Ns hp2.objs.size m) ∧ FpOk X pins H' hp2.objs.size := by
    subst hX
    intro H' s' J
    refine ⟨I2.call' (ch := fp) J.os J.base J.hok J.bare fun b hb => ⟨(f2 b hb).2.2.2.1, (f2 b hb).2.1, (f2 b hb).2.2.2.2.1, (f2 b hb).2.2.2.2.2⟩, ?_, I2.fpOk hCle J.free⟩
    obtain ⟨m, hn, _⟩ := J.loc
    exact ⟨m, hn⟩
  have st1 : tn 0 h₁ := T.keep _ _ _ st2 fun b hb o e => old b o e
  have loop : ∀ s₃ : Shared, s₃ = { s2 with heap := h₁, toks := s2.toks + ([] : List (Str × Value)).length } →
      codeAny (model X.prog X.w) X.A (.compLoop (.ListComp elt [⟨tg, iter, ifs, 0⟩] scope pos) 0 (.ref it) (.ref s2.heap.objs.size) (compEnvC scope cl hp2.objs.size X.env))
        (RR (.ref s2.heap.objs.size) hp2.objs.size) s₃ := by
    rintro s₃ rfl
    refine compLoop_all (fun n s' => Ex3 fun i H' ys => Inv X' [] (cst L src σ) H' s' ∧ tn i s'.heap ∧ (∀ b ∈ fp, H' b = none) ∧ W i n H' ys) ?_ m0
      ⟨0, _, [], I1, st1, fun b hb => (by rw [upd_ne (below b (fplt b hb)).2]; exact (f2 b hb).1), w0⟩
    rintro n s3 ⟨i, H3, ys, I3, st3, fr3, w3⟩
    obtain ⟨hD, alt⟩ := turn i n H3 ys w3
    rcases alt with ⟨stop, qn⟩ | ⟨go, hlen, N, hN, step⟩
    · have d := T.done X' eP eW eK ec i [] s3 (cst L src σ) H3 (fun _ _ => False) I3 (stat fr3) st3 stop
      rw [eA] at d
      refine thn d fun r s4 ⟨hr, I4⟩ => ?_
      subst hr
      obtain ⟨J, ⟨m, hn⟩, fpC⟩ := aft I4
      exact hRR _ _ H3 .next s4 m J hn fpC qn
    · have d := T.item X' eP eW eK ec i [] s3 (cst L src σ) H3 (fun _ _ => False) I3 (stat fr3) st3 go
      rw [eA] at d
      refine thn d fun r s4 ⟨u, hr, h4⟩ => ?_
      subst hr
      refine thn h4 fun _ s5 ⟨x, H5, I5, r5, y5, st5, fr5⟩ => ?_
      have I5' := I5.pinned (stat fr5) (T.obj _ _ st5)
      have a1 := hg' _ s5 (cst L src σ) H5 x u _ I5' r5 (step x H5 y5)
      rw [eP, eW, eA, eE, exe] at a1
      refine thn a1 fun _ s6 ⟨σ6, H6, I6, bk, q6⟩ => ?_
      have a2 := hif' _ s6 σ6 H6 _ I6 q6
      rw [eP, eW, eA, eE, exe] at a2
      refine thn a2 fun b s7 ⟨H7, I7, q7⟩ => ?_
      have again : ∀ {H8 : Hp} {s8 : Shared} {ys' : List V}, Inv X' ([] ++ pinsAt fp s5.heap) σ6 H8 s8 → N H8 ys' → ∃ m, m < n ∧ Ex3 fun i H' ys => Inv X' [] (cst L src σ) H' s8 ∧ tn i s8.heap ∧ (∀ b ∈ fp, H' b = none) ∧ W i m H' ys := fun {H8 s8 ys'} I8 n8 => by
        obtain ⟨m', hm, w8⟩ := hN H8 ys' n8
        refine ⟨m', hm, i + 1, H8, ys', (I8.unpinned).weak bk.1.symm bk.2, T.keep _ _ _ st5 fun b hb o e => (I8.pin (b, o) (List.mem_append_right _ (List.mem_append_right _ (mem_pinsAt hb e)))).1, fun b hb => ?_, w8⟩
        obtain ⟨o, e, d⟩ := T.obj _ _ st5 b hb
        exact (I8.pin (b, o) (List.mem_append_right _ (List.mem_append_right _ (mem_pinsAt hb e)))).2.1
      cases b with
      | false =>
        rw [if_neg Bool.false_ne_true] at q7 ⊢
        exact again I7 q7
      | true =>
        rw [if_pos rfl] at q7 ⊢
        have a3 := he' _ s7 σ6 H7 _ I7 q7
        rw [eP, eW, eA, eE, exe] at a3
        refine thn a3 fun xv s8 ⟨y, H8, I8, r8, hD8, q8⟩ => ?_
        have a4 := mt_append (X := X') _ s8 σ6 H8 (.ref s2.heap.objs.size) [y] (.ref s2.heap.objs.size) [xv] (fun _ H' => H' = upd H8 s2.heap.objs.size (.lst (ys ++ [y]))) I8 rfl (.cons r8 .nil) ⟨_, ys, y, rfl, rfl, hD8, hlen, rfl⟩
        rw [eP, eW, eA, exe] at a4
        refine thn a4 fun _ s9 ⟨_, H9, I9, _, e9⟩ => ?_
        subst e9
        exact again I9 q8
  exact codeAny_compStart_list (loop _ rfl) (T.self _ 0 _ _ _ st1 (loop _ rfl))
theorem pe_comp (hc : X.calm = true) (ck : compChk X.env.scope X.N scope N' L src = true) (hi : PI X tg iter wi) (hg : ∀ cl C s H ex pn, PG (cxComp X scope cl C N' s H ex pn) tg g) (hif : ∀ cl C s H ex pn, PIfs (cxComp X scope cl C N' s H ex pn) ifs tt)
    (he : ∀ cl C s H ex pn, PE (cxComp X scope cl C N' s H ex pn) elt te) (hs : ∀ x, foldedSetIterable iter X.env x = pure x := by intro _; rfl) :
    PE X (.ListComp elt [⟨tg, iter, ifs, 0⟩] scope pos) (tComp wi L src g tt te) := by
  intro pins s σ H Q I h
  have ck := compOk_of ck
  obtain ⟨cl, hclos, hsub, hhas⟩ := clos_ok (scope := scope) (env := X.env) fun y hy e => I.ok.has y.1 (ck.free y hy e)
  rw [eval_ListComp]
  refine wpAny_comprehension_free (use := none) rfl hs hclos ck.kind ck.loc (comp_run hc ck I hsub hhas hi hg hif he h (RR := fun acc C => compPost (model X.prog X.w) X.A X.xe none (EP X pins σ Q) acc C) ?_)
  intro D C H' f s' m J hn fpC q
  refine ⟨m, hn, fun h' hsb => ⟨.ref D, H', ?_, rfl, q⟩⟩
  obtain ⟨f0, f1, f2, f3, f4, f5⟩ := fpC
  exact J.turned (t' := s'.toks) (fun b o hb e => (hsb.2 b hb).trans e) f0 f1 f3 f4 f5
theorem ps_setComp {j : Nat} {y : Str} {py spos : Pos} (hN : X.N.Nodup) (hj : X.N[j]? = some y) (hy : X.env.scope.names.lookup y = some .local) (hsw : swapsWith (.ListComp elt [⟨tg, iter, ifs, 0⟩] scope pos) (some (.Name y py)) spos.line X.env = pure true)
    (hc : X.calm = true) (ck : compChk X.env.scope X.N scope N' L src = true) (hi : PI X tg iter wi) (hg : ∀ cl C s H ex pn, PG (cxComp X scope cl C N' s H ex pn) tg g) (hif : ∀ cl C s H ex pn, PIfs (cxComp X scope cl C N' s H ex pn) ifs tt)
    (he : ∀ cl C s H ex pn, PE (cxComp X scope cl C N' s H ex pn) elt te) (hs : ∀ x, foldedSetIterable iter X.env x = pure x := by intro _; rfl) :
    PS X (.Assign [.Name y py] (.ListComp elt [⟨tg, iter, ifs, 0⟩] scope pos) spos) (tAsg (tComp wi L src g tt te) (gName j)) := by
  intro pins s σ H D I h
  have ck := compOk_of ck
  obtain ⟨cl, hclos, hsub, hhas⟩ := clos_ok (scope := scope) (env := X.env) fun y hy e => I.ok.has y.1 (ck.free y hy e)
  rw [exec_Assign_Name_used _ _ _ _ hsw]
  refine wpAny_bind (wpAny_standAt (wpAny_bind ?_))
  show wpAny _ X.A (do let _ ← comprehension (.ListComp elt [⟨tg, iter, ifs, 0⟩] scope pos) scope X.env _ (newList []) false (eval iter X.env) (some (assign (.Name y py) X.env))) _ _ s
  refine wpAny_bind (wpAny_mono (wpAny_comprehension_free (use := some (assign (.Name y py) X.env)) (Q := fun _ s' => SP X pins D .next s') rfl hs hclos ck.kind ck.loc
    (comp_run hc ck I hsub hhas hi hg hif he h (RR := fun acc C => compPost (model X.prog X.w) X.A X.xe (some (assign (.Name y py) X.env)) (fun _ s' => SP X pins D .next s') acc C) ?_)) (fun _ s' hq => wpAny_pure (wpAny_pure hq)) fun _ _ e => e)
  intro L' C H' f s' m J hn fpC q
  show wpAny _ X.A (assign (.Name y py) X.env (.ref L')) _ _ _
  refine wpAny_assign_Name (store_ok2 J hN hj (.inl hy) (v := .ref L') rfl (fun s2 J2 hsb => ?_) (.inr hy))
  obtain ⟨f0, f1, f2, f3, f4, f5⟩ := fpC
  obtain ⟨a, hsb, ha⟩ := hsb
  have hCa : C ≠ a := by
    rcases ha with rfl | ha
    · exact f1
    · exact fun z => f4 _ _ ha z.symm
  refine ⟨m, hn.sameBut hsb hCa, fun h' hsb' => ⟨_, H', ?_, q⟩⟩
  exact J2.turned (t' := s2.toks) (fun b o hb e => (hsb'.2 b hb).trans e) f0 f1 f3 f4 f5
end
theorem comp_over {J : It} {n : Nat} {H1 : Hp} {D : Addr} {σc : St} {g : TG} {tt : TT} {te : TE} {Q : VK} (Pv : Nat → Hp → List V → Prop) (hz : n ≤ sizeLine) (h0 : Pv 0 (upd H1 D (.lst [])) [])
    (hD : ∀ i H ys, Pv i H ys → H D = some (.lst ys) ∧ ys.length ≤ i)
    (hgo : ∀ i H ys, i < n → Pv i H ys → J.go i H) (hst : ∀ H ys, Pv n H ys → J.stop n H)
    (hs : ∀ i H ys x H', i < n → Pv i H ys → J.yld i H x H' → g x σc H' fun σ2 H2 => Back σc σ2 ∧ tt σ2 H2 fun b H3 => if b = true then te σ2 H3 fun y H4 => H4 D = some (.lst ys) ∧ Pv (i + 1) (upd H4 D (.lst (ys ++ [y]))) (ys ++ [y]) else Pv (i + 1) H3 ys)
    (hd : ∀ H ys, Pv n H ys → Q (.ref D) H) : CompW J σc g tt te D H1 Q := by
  refine ⟨fun i m H ys => m = n - i ∧ i ≤ n ∧ Pv i H ys, ⟨n, by simp, Nat.zero_le _, h0⟩, ?_⟩
  rintro i m H ys ⟨rfl, hi, p⟩
  obtain ⟨q1, q2⟩ := hD i H ys p
  refine ⟨q1, ?_⟩
  by_cases hlt : i < n
  · exact .inr ⟨hgo i H ys hlt p, by trivial, Pv (i + 1), fun H' ys' p' => ⟨n - (i + 1), by trivial, rfl, hlt, p'⟩, fun x H' y => hs i H ys x H' hlt p y⟩
  · have e : i = n := by trivial
    subst e
    exact .inl ⟨hst H ys p, hd H ys p⟩
theorem comp_each {J : It} {n : Nat} {H1 : Hp} {D : Addr} {σc : St} {g : TG} {te : TE} {Q : VK} (Pv : Nat → Hp → List V → Prop) (hz : n ≤ sizeLine) (h0 : Pv 0 (upd H1 D (.lst [])) [])
    (hD : ∀ i H ys, Pv i H ys → H D = some (.lst ys) ∧ ys.length ≤ i)
    (hgo : ∀ i H ys, i < n → Pv i H ys → J.go i H) (hst : ∀ H ys, Pv n H ys → J.stop n H)
    (hs : ∀ i H ys x H', i < n → Pv i H ys → J.yld i H x H' → g x σc H' fun σ2 H2 => Back σc σ2 ∧ te σ2 H2 fun y H4 => H4 D = some (.lst ys) ∧ Pv (i + 1) (upd H4 D (.lst (ys ++ [y]))) (ys ++ [y]))
    (hd : ∀ H ys, Pv n H ys → Q (.ref D) H) : CompW J σc g tT te D H1 Q := by
  refine comp_over Pv hz h0 hD hgo hst (fun i H ys x H' hi p y => ?_) hd
  have e := hs i H ys x H' hi p y
  have q : (fun (σ2 : St) (H2 : Hp) => Back σc σ2 ∧ tT σ2 H2 fun b H3 => if b = true then te σ2 H3 fun y H4 => H4 D = some (.lst ys) ∧ Pv (i + 1) (upd H4 D (.lst (ys ++ [y]))) (ys ++ [y]) else Pv (i + 1) H3 ys) =
      (fun σ2 H2 => Back σc σ2 ∧ te σ2 H2 fun y H4 => H4 D = some (.lst ys) ∧ Pv (i + 1) (upd H4 D (.lst (ys ++ [y]))) (ys ++ [y])) := by
    funext σ2 H2
    unfold tT
    dsimp only
    rw [if_pos rfl]
  rw [q]
  exact e
end L2
namespace L2
open PySem PySem.Spec PyProof.Rows
section
variable {X : Cx} {pins : List (Addr × Obj)} {σ : St} {H : Hp} {s : Shared} {h' : Heap}
theorem Inv.turnedNew {t' : Nat} {ch : List Addr} {T : Addr} {o : HO} (I : Inv X pins σ H s) (hf : ∀ b ∈ ch, FpOk X pins H b) (k : ∀ b u, b ∉ ch → s.heap.get? b = some u → h'.get? b = some u)
    (hT : s.heap.objs.size ≤ T) (new : ObjOk X.prog X.w (upd H T o) h' T o) : Inv X pins σ (upd H T o) { s with heap := h', toks := t' } := by
  have hn : H T = none := I.hok.fresh hT
  refine I.step (g' := s.gens) (d' := s.drawn) (ch := ch) (fun b hb => ?_) (fun b o _ _ hc e _ => k b o hc e) (fun b o _ _ hc e _ => ⟨o.slots, k b o hc e⟩) (fun b o hc e n => ?_)
    (fun b o hc e => ⟨o, k b o hc e⟩) (fun b xs e => ?_) (fun b o u e => ?_) (fun b ps e => ?_) (fun m hm => ?_) (fun b u e => ?_) I.bare
  · obtain ⟨f0, f1, f2, f3, f4, f5⟩ := hf b hb
    exact ⟨f3, f1, f4, f5⟩
  · rw [upd_ne (Nat.ne_of_lt (Nat.lt_of_lt_of_le (Heap.lt_size e) hT))]; exact n
  · rw [upd_ne (ne_of_none e hn)]; exact e
  · rw [upd_ne (ne_of_none e hn)]; exact e
  · exact ⟨#[], by rw [upd_ne (ne_of_none e hn), e]; simp⟩
  · obtain ⟨o, es, ep, ho, r⟩ := hm
    exact ⟨o, es, ep, k _ o (fun z => (hf _ z).2.1 rfl) ho, r⟩
  · by_cases hb : b = T
    · subst hb; rw [upd_same] at e; cases e; exact new
    · rw [upd_ne hb] at e
      refine (I.hok b u e).stay (fun c v hc q => k c v (fun z => ?_) q) (fun c q => by rw [upd_ne (ne_of_none q hn)]; exact q) fun c xs q => by rw [upd_ne (ne_of_none q hn)]; exact q
      have hcn := (hf c z).1
      rcases hc with rfl | hc
      · rw [e] at hcn; cases hcn
      · rw [hc] at hcn; cases hcn
end
section
variable {X : Cx}
theorem bools_get {bs : List Bool} {us : List Value} (r : Vals (bs.map V.bl) us) {i : Nat} {v : Value} (e : us[i]? = some v) : ∃ b, bs[i]? = some b ∧ v = .bool b := by
  have hl := r.length
  rw [List.length_map] at hl
  have hi : i < us.length := (List.getElem?_eq_some_iff.mp e).1
  have hb : bs[i]? = some bs[i] := by simp [hl, hi]
  obtain ⟨u, h1, h2⟩ := r.get (i := i) (x := .bl bs[i]) (by rw [List.getElem?_map, hb]; rfl)
  rw [e] at h1
  cases h1
  exact ⟨_, hb, h2⟩
theorem kept_it {s : Shared} {h' : Heap} {o : Obj} (hk : ∀ b x, b ∉ [s.heap.objs.size] → (s.heap.push o).get? b = some x → h'.get? b = some x) : ∀ b x, s.heap.get? b = some x → h'.get? b = some x :=
  fun b x e => hk b x (fun hm => by rw [List.mem_singleton.mp hm] at e; exact Nat.lt_irrefl _ (Heap.lt_size e)) (Heap.get?_push_of_some _ e)
theorem call_all (hc : X.calm = true) : CallR X (.builtin "all") (fun xs H Q => Ex2 fun (l : Addr) (bs : List Bool) => xs = [.ref l] ∧ SqL X.K H l (bs.map V.bl) ∧ Q (.bl (bs.all id)) H) := by
  intro pins s σ H xs us Q I r h
  obtain ⟨l, bs, rfl, hq, q⟩ := h
  obtain ⟨u, rfl, ru⟩ := r.one
  obtain rfl : u = .ref l := ru
  obtain ⟨its, rv, p, hz⟩ := I.list hq
  have hl := p.isList
  have hlt : l < s.heap.objs.size := by obtain ⟨_, e, _⟩ := hl; exact Heap.lt_size e
  refine call_all_walk (wpAny_pyIter_list hl ?_)
  refine ⟨s.heap.objs.size, [s.heap.objs.size, l], [s.heap.objs.size], its.toArray.size, _, _, fun i => (bs[i]?).getD true, rfl, Walks.list (A := X.A.in1) (I.ok.hd hc) _ l (Nat.ne_of_lt hlt) its.toArray,
    ⟨⟨_, Heap.get?_push_size _ rfl, rfl, rfl⟩, hl.push _⟩, fun i v s' Q' E' hP hQ => ?_, fun h' tk hk => ?_⟩
  · obtain ⟨b, e, rfl⟩ := bools_get rv (i := i) (v := v) (by simpa using hP)
    simp only [e, Option.getD_some] at hQ
    exact wpAny_truthy_bool hQ
  · have e : ((List.range its.toArray.size).all fun i => (bs[i]?).getD true) = bs.all id := by
      rw [List.size_toArray, ← rv.length, List.length_map]; exact LSm.range_all bs
    rw [e]
    exact ⟨.bl _, H, I.kept (kept_it hk), rfl, q⟩
theorem call_any (hc : X.calm = true) : CallR X (.builtin "any") (fun xs H Q => Ex2 fun (l : Addr) (bs : List Bool) => xs = [.ref l] ∧ SqL X.K H l (bs.map V.bl) ∧ Q (.bl (bs.any id)) H) := by
  intro pins s σ H xs us Q I r h
  obtain ⟨l, bs, rfl, hq, q⟩ := h
  obtain ⟨u, rfl, ru⟩ := r.one
  obtain rfl : u = .ref l := ru
  obtain ⟨its, rv, p, hz⟩ := I.list hq
  have hl := p.isList
  have hlt : l < s.heap.objs.size := by obtain ⟨_, e, _⟩ := hl; exact Heap.lt_size e
  refine call_any_walk (wpAny_pyIter_list hl ?_)
  refine ⟨s.heap.objs.size, [s.heap.objs.size, l], [s.heap.objs.size], its.toArray.size, _, _, fun i => (bs[i]?).getD false, rfl, Walks.list (A := X.A.in1) (I.ok.hd hc) _ l (Nat.ne_of_lt hlt) its.toArray,
    ⟨⟨_, Heap.get?_push_size _ rfl, rfl, rfl⟩, hl.push _⟩, fun i v s' Q' E' hP hQ => ?_, fun h' tk hk => ?_⟩
  · obtain ⟨b, e, rfl⟩ := bools_get rv (i := i) (v := v) (by simpa using hP)
    simp only [e, Option.getD_some] at hQ
    exact wpAny_truthy_bool hQ
  · have e : ((List.range its.toArray.size).any fun i => (bs[i]?).getD false) = bs.any id := by
      rw [List.size_toArray, ← rv.length, List.length_map]; exact LSm.range_any bs
    rw [e]
    exact ⟨.bl _, H, I.kept (kept_it hk), rfl, q⟩
end
def Ite (K : PySem.W.Frag) (a : Addr) : It :=
  ⟨fun i H => Ex2 fun xs x => SqL K H a xs ∧ xs[i]? = some x, fun i H v H' => Ex2 fun T x => H T = none ∧ v = .ref T ∧ H' = upd H T (.tup [.int (i : Int), x]) ∧ ∀ xs, SqL K H a xs → xs[i]? = some x, fun i H => ∃ xs, SqL K H a xs ∧ xs.length ≤ i⟩
theorem turn_enum {P : Program} {w : World} {K : PySem.W.Frag} {es : List Expr} {kk : Nat} {pos : Pos} (a e it : Addr) (hne : e ≠ it) :
    Turn P w K (.Tuple es kk pos) (Ite K a) [e, it] e (fun i h => (∃ old, IsEnum h e it i old) ∧ h.IsListIter it a i) where
  mem := by simp
  obj := fun i h st b hb => by
    obtain ⟨⟨old, he⟩, o, e1, c, d⟩ := st
    have hb' : b = e ∨ b = it := by simpa using hb
    rcases hb' with rfl | rfl
    · exact ⟨_, he, fun v z => by
        have z' : Data.fields _ = Data.cell v := z
        cases z'⟩
    · exact ⟨o, e1, fun v z => by rw [d] at z; cases z⟩
  keep := fun i h h' st k => by
    obtain ⟨⟨old, he⟩, hi⟩ := st
    exact ⟨⟨old, k e (by simp) _ he⟩, hi.at fun o q => k it (by simp) o q⟩
  item := by
    intro X hP hw hK hc i pins s σ H E I hf st hg
    subst hP hw hK
    obtain ⟨⟨old, he⟩, hit⟩ := st
    obtain ⟨xs, x, hq, hx⟩ := hg
    obtain ⟨its, rv, p, hz⟩ := I.list hq
    obtain ⟨u, hu, ru⟩ := rv.get hx
    have hnT : H s.heap.objs.size = none := I.fresh
    refine wpAny_pyNext_enum_item he hit p.isList (x := u) (by simpa using hu) hne fun h' ho hit' hT hsz hk => ?_
    refine ⟨_, rfl, wpAny_letOwnedTupleGo_enum (s := { s with heap := h', toks := s.toks + 1 }) ho fun h'' he'' hs'' => ?_⟩
    have helt : e < s.heap.objs.size := Heap.lt_size he
    have hilt : it < s.heap.objs.size := by obtain ⟨_, y, _⟩ := hit; exact Heap.lt_size y
    have hT'' : h''.get? s.heap.objs.size = some { cls := .type "tuple", data := .seq #[.int i s.toks, u] } := (hs''.2 _ (Nat.ne_of_gt helt)).trans hT
    refine ⟨.ref s.heap.objs.size, upd H s.heap.objs.size (.tup [.int (i : Int), x]), I.turnedNew (ch := [e, it]) (t' := s.toks + 1) hf (fun b o hb q => ?_) (Nat.le_refl _) ?_, rfl, ⟨_, x, hnT, rfl, rfl, fun ys hy => by rw [I.list_inj hy hq]; exact hx⟩, ⟨⟨u, ?_⟩, hit'.extBut hs''.extBut (Ne.symm hne)⟩, fun b hb => ?_⟩
    · have h1 : b ≠ e := fun z => hb (by simp [z])
      have h2 : b ≠ it := fun z => hb (by simp [z])
      exact (hs''.2 b h1).trans (hk b o h1 h2 q)
    · exact ⟨by show 2 ≤ sizeLine; decide, [.int i s.toks, u], .cons ⟨_, rfl⟩ (.cons ru .nil), ⟨_, hT'', rfl, _, rfl⟩, _, hT'', rfl⟩
    · simpa using he''
    · have hb' : b = e ∨ b = it := by simpa using hb
      have hlt : b < s.heap.objs.size := by rcases hb' with rfl | rfl <;> assumption
      rw [upd_ne (Nat.ne_of_lt hlt)]
      exact (hf b hb).1
  done := by
    intro X hP hw hK hc i pins s σ H E I hf st hg
    subst hP hw hK
    obtain ⟨⟨old, he⟩, hit⟩ := st
    obtain ⟨xs, hq, hx⟩ := hg
    obtain ⟨its, rv, p, hz⟩ := I.list hq
    obtain ⟨f0, f1, f2, f3, f4, f5⟩ := hf it (by simp)
    have hl := rv.length
    exact wpAny_pyNext_enum_end (I.ok.hd hc) he hit p.isList (by simp; trivial) fun h' eb => ⟨rfl, I.turned (t' := s.toks) (fun b o hb e => eb b o hb e) f0 f1 f3 f4 f5⟩
  self := fun _ _ _ _ _ st h => by
    obtain ⟨⟨old, he⟩, _⟩ := st
    exact wpAny_pyIter_enum he h
def iEnum (K : PySem.W.Frag) (ta : TA) : TI := fun σ H R => ta σ H fun vs H1 => ∃ a, vs = [.ref a] ∧ (∃ xs, SqL K H1 a xs) ∧ R (Ite K a) H1
theorem pi_enum {X : Cx} {es : List Expr} {kk : Nat} {tp : Pos} {a : Expr} {ta : TA} {p pos : Pos} (hg : Gl X "enumerate") (hm : X.mg "enumerate" = none) (ha : PA X [a] ta) (hs : starEach [a] X.env = [(false, eval a X.env)] := by rfl) :
    PI X (.Tuple es kk tp) (.Call (.Name "enumerate" p) [a] [] pos) (iEnum X.K ta) := by
  intro pins s σ H R I h
  refine Call_ (ld_blt I hg hm boot_enumerate (PyProof.Rows.callWith_type1 (thn (ha pos pins s σ H _ I h) fun us s1 ⟨vs, H1, I1, r1, q1⟩ => ?_) hs rfl))
  obtain ⟨a, rfl, ⟨xs, hq⟩, q⟩ := q1
  obtain ⟨u, rfl, ru⟩ := r1.one
  obtain rfl : u = .ref a := ru
  obtain ⟨its, rv, p, hz⟩ := I1.list hq
  refine call_enumerate_list p.isList fun h' hE hI hsz hk => wpAny_pyIter_enum hE ?_
  have I2 : Inv X pins σ H1 { s1 with heap := h', toks := s1.toks } := I1.kept hk
  refine ⟨s1.heap.objs.size + 1, [s1.heap.objs.size + 1, s1.heap.objs.size], _, _, H1, rfl, I2, turn_enum a (s1.heap.objs.size + 1) s1.heap.objs.size (Nat.succ_ne_self _), ⟨⟨_, hE⟩, hI⟩, fun b hb => ?_, q⟩
  have hb' : b = s1.heap.objs.size + 1 ∨ b = s1.heap.objs.size := by simpa using hb
  have hle : s1.heap.objs.size ≤ b := by rcases hb' with rfl | rfl <;> trivial
  exact I1.fpOk hle (I1.hok.fresh hle)
end L2
namespace L2
open PySem PySem.Spec PyProof.Rows
theorem boot_b_len : bootBuiltins "len" = some (.builtin "len") := by decide +kernel
theorem boot_b_abs : bootBuiltins "abs" = some (.builtin "abs") := by decide +kernel
theorem boot_b_all : bootBuiltins "all" = some (.builtin "all") := by decide +kernel
theorem boot_b_any : bootBuiltins "any" = some (.builtin "any") := by decide +kernel
theorem boot_b_divmod : bootBuiltins "divmod" = some (.builtin "divmod") := by decide +kernel
theorem boot_b_isinstance : bootBuiltins "isinstance" = some (.builtin "isinstance") := by decide +kernel
theorem boot_ty_int : bootBuiltins "int" = some (.type "int") := by decide +kernel
theorem boot_ty_bool : bootBuiltins "bool" = some (.type "bool") := by decide +kernel
theorem boot_ty_str : bootBuiltins "str" = some (.type "str") := by decide +kernel
theorem boot_ty_list : bootBuiltins "list" = some (.type "list") := by decide +kernel
theorem boot_ty_tuple : bootBuiltins "tuple" = some (.type "tuple") := by decide +kernel
theorem pe_ty {X : Cx} {x : Str} {T : String} {pos : Pos} (hg : Gl X x) (hm : X.mg x = none) (hv : bootBuiltins x = some (.type T)) (hn : x ≠ "__name__" := by decide) (hd : (x == ("__debug__" : Str)) = false := by decide) : PE X (.Name x pos) (tC (.ty T)) :=
  pe_bltn (v := .ty T) hg hm hv rfl hn hd
mutual
inductive IsD (E : Addr → Prop) (H : Hp) : V → PyData → Prop
  | non : IsD E H .non .none
  | bl (b : Bool) : IsD E H (.bl b) (.bool b)
  | int (i : Int) : IsD E H (.int i) (.int i)
  | str (x : Str) : IsD E H (.str x) (.str x)
  | lst {a : Addr} {xs : List V} {ds : List PyData} (h : H a = some (.lst xs)) (ne : ¬ E a) (r : IsAll E H xs ds) : IsD E H (.ref a) (.list ds)
  | tup {a : Addr} {xs : List V} {ds : List PyData} (h : H a = some (.tup xs)) (r : IsAll E H xs ds) : IsD E H (.ref a) (.tuple ds)
inductive IsAll (E : Addr → Prop) (H : Hp) : List V → List PyData → Prop
  | nil : IsAll E H [] []
  | cons {x : V} {xs : List V} {d : PyData} {ds : List PyData} (h : IsD E H x d) (r : IsAll E H xs ds) : IsAll E H (x :: xs) (d :: ds)
end
structure SameE (E : Addr → Prop) (H H' : Hp) : Prop where
  old : ∀ a o, ¬ E a → H a = some o → H' a = some o
  tup : ∀ a xs, H a = some (.tup xs) → H' a = some (.tup xs)
mutual
theorem IsD.mono {E : Addr → Prop} {H H' : Hp} (k : SameE E H H') : ∀ {v : V} {d : PyData}, IsD E H v d → IsD E H' v d
  | _, _, .non => .non
  | _, _, .bl b => .bl b
  | _, _, .int i => .int i
  | _, _, .str x => .str x
  | _, _, .lst h ne r => .lst (k.old _ _ ne h) ne (IsAll.mono k r)
  | _, _, .tup h r => .tup (k.tup _ _ h) (IsAll.mono k r)
theorem IsAll.mono {E : Addr → Prop} {H H' : Hp} (k : SameE E H H') : ∀ {vs : List V} {ds : List PyData}, IsAll E H vs ds → IsAll E H' vs ds
  | _, _, .nil => .nil
  | _, _, .cons h r => .cons (IsD.mono k h) (IsAll.mono k r)
end
theorem SameE.trans {E : Addr → Prop} {H H1 H2 : Hp} (a : SameE E H H1) (b : SameE E H1 H2) : SameE E H H2 := ⟨fun c o n h => b.old c o n (a.old c o n h), fun c xs h => b.tup c xs (a.tup c xs h)⟩
theorem Same.toE {E : Addr → Prop} {H H' : Hp} (a : Same H H') : SameE E H H' := ⟨fun c o _ h => a c o h, fun c xs h => a c _ h⟩
theorem Same.new {H : Hp} {p : Addr} {o : HO} (h : H p = none) : Same H (upd H p o) := fun b u e => by rw [upd_ne (ne_of_none e h)]; exact e
theorem IsAll.length {E : Addr → Prop} {H : Hp} : ∀ {vs : List V} {ds : List PyData}, IsAll E H vs ds → vs.length = ds.length
  | _, _, .nil => rfl
  | _, _, .cons _ r => by simp [IsAll.length r]
theorem IsAll.get {E : Addr → Prop} {H : Hp} : ∀ {vs : List V} {ds : List PyData} {i : Nat} {v : V}, IsAll E H vs ds → vs[i]? = some v → ∃ d, ds[i]? = some d ∧ IsD E H v d
  | _, _, _, _, .nil, e => by simp at e
  | _, _, 0, _, .cons h _, e => by simp at e; subst e; exact ⟨_, rfl, h⟩
  | _, _, i + 1, v, .cons _ r, e => by
    obtain ⟨d, h1, h2⟩ := IsAll.get (i := i) (v := v) r (by simpa using e)
    exact ⟨d, by simpa using h1, h2⟩
theorem IsAll.append {E : Addr → Prop} {H : Hp} : ∀ {vs ws : List V} {ds es : List PyData}, IsAll E H vs ds → IsAll E H ws es → IsAll E H (vs ++ ws) (ds ++ es)
  | _, _, _, _, .nil, s => s
  | _, _, _, _, .cons h r, s => .cons h (IsAll.append r s)
mutual
theorem IsD.reads {E : Addr → Prop} {P : Program} {w : World} {H : Hp} {h : Heap} (ok : HOk P w H h) : ∀ {v : V} {d : PyData}, IsD E H v d → ∀ {u : Value}, RelV v u → ∃ as, Reads h u d as
  | _, _, .non, u, r => by obtain rfl : u = .none := r; exact ⟨_, .none⟩
  | _, _, .bl b, u, r => by obtain rfl : u = .bool b := r; exact ⟨_, .bool b⟩
  | _, _, .int i, u, r => by obtain ⟨t, rfl⟩ := r; exact ⟨_, .int i t⟩
  | _, _, .str x, u, r => by obtain ⟨t, rfl⟩ := r; exact ⟨_, .str x t⟩
  | _, _, .lst (a := a) (xs := xs) e _ q, u, r => by
    obtain rfl : u = .ref a := r
    obtain ⟨_, its, n, rv, e1⟩ := (show ObjOk P w H h a (.lst xs) from ok a _ e)
    obtain ⟨as, ra⟩ := IsAll.reads ok q rv
    exact ⟨_, .list e1 rfl rfl (by simpa using ra)⟩
  | _, _, .tup (a := a) (xs := xs) e q, u, r => by
    obtain rfl : u = .ref a := r
    obtain ⟨_, its, rv, ⟨o, e1, c, n, dd⟩, _⟩ := (show ObjOk P w H h a (.tup xs) from ok a _ e)
    obtain ⟨as, ra⟩ := IsAll.reads ok q rv
    exact ⟨_, .tuple e1 c dd (by simpa using ra)⟩
theorem IsAll.reads {E : Addr → Prop} {P : Program} {w : World} {H : Hp} {h : Heap} (ok : HOk P w H h) : ∀ {vs : List V} {ds : List PyData}, IsAll E H vs ds → ∀ {us : List Value}, Vals vs us → ∃ as, ReadsAll h us ds as
  | _, _, .nil, us, r => by cases r; exact ⟨_, .nil⟩
  | _, _, .cons q qs, us, r => by
    cases r with
    | cons r1 rr =>
      obtain ⟨as, h1⟩ := IsD.reads ok q r1
      obtain ⟨bs, h2⟩ := IsAll.reads ok qs rr
      exact ⟨_, .cons h1 h2⟩
end
section
variable {X : Cx}
theorem call_str_data {k : Nat} (hr : Room k X.A) : CallR X (.type "str") (fun xs H Q => Ex3 fun (a : Addr) (d : PyData) (E : Addr → Prop) => xs = [.ref a] ∧ IsD E H (.ref a) d ∧ d.showable = true ∧ d.hasDict = false ∧ d.depth ≤ 50 ∧ d.shown.length ≤ sizeLine ∧ Q (.str d.shown) H) := by
  intro pins s σ H xs us Q I r h
  obtain ⟨a, d, E, rfl, hd, h1, h2, h3, h4, q⟩ := h
  obtain ⟨u, rfl, ru⟩ := r.one
  obtain rfl : u = .ref a := ru
  obtain ⟨as, rr⟩ := hd.reads I.hok (u := .ref a) rfl
  refine str_of_reads rr h1 (PyData.noDict_hsm h2) hr.gd (by have := hr.units; trivial) (fun _ _ e => e) (fun h' u tk hk => ?_) h4
  exact ⟨.str _, H, I.kept hk, ⟨_, rfl⟩, q⟩
def CDivB (_ j : Int) : Prop := 0 < j ∧ j.natAbs.log2 < 9000
theorem op_fdivB : OpR X (binaryOp .FloorDiv) (rI CDivB fun i j => .int (i / j)) := opI fun i j _ _ _ _ _ hc q => by
  rw [← Int.fdiv_eq_ediv_of_nonneg _ (Int.le_of_lt hc.1)] at q
  exact floordiv_int (Int.ne_of_gt hc.1) q (.inl (PyProof.noPylong_of_log2 hc.2))
end
end L2
namespace L2
open PySem PySem.Spec PyProof.Rows
def tyN : PyData → String
  | .none => "NoneType"
  | .bool _ => "bool"
  | .int _ => "int"
  | .str _ => "str"
  | .list _ => "list"
  | .tuple _ => "tuple"
  | .dict _ => "dict"
theorem IsD.ty {K : PySem.W.Frag} {E : Addr → Prop} {H : Hp} {v : V} {d : PyData} (h : IsD E H v d) : TyOf K H v (.type (tyN d)) := by
  cases h with
  | non => exact .non
  | bl b => exact .bl b
  | int i => exact .int i
  | str x => exact .str x
  | lst h ne r => exact .lst h
  | tup h r => exact .tup h
def isIntB : PyData → Bool
  | .int _ => true
  | .bool _ => true
  | _ => false
def isNum : PyData → Bool
  | .int _ => true
  | _ => false
def isBoolB : PyData → Bool
  | .bool _ => true
  | _ => false
def isTupB : PyData → Bool
  | .tuple _ => true
  | _ => false
def isLstB : PyData → Bool
  | .list _ => true
  | _ => false
def isStrB : PyData → Bool
  | .str _ => true
  | _ => false
theorem kit_int {K : PySem.W.Frag} (d : PyData) : PySem.W.kitOne K (.type (tyN d)) (.type "int") = some (isIntB d) := by cases d <;> rfl
theorem kit_bool {K : PySem.W.Frag} (d : PyData) : PySem.W.kitOne K (.type (tyN d)) (.type "bool") = some (isBoolB d) := by cases d <;> rfl
theorem kit_tuple {K : PySem.W.Frag} (d : PyData) : PySem.W.kitOne K (.type (tyN d)) (.type "tuple") = some (isTupB d) := by cases d <;> rfl
theorem kit_list {K : PySem.W.Frag} (d : PyData) : PySem.W.kitOne K (.type (tyN d)) (.type "list") = some (isLstB d) := by cases d <;> rfl
theorem kit_str {K : PySem.W.Frag} (d : PyData) : PySem.W.kitOne K (.type (tyN d)) (.type "str") = some (isStrB d) := by cases d <;> rfl
inductive rIsi_ (K : PySem.W.Frag) (xs : List V) (H : Hp) (Q : VK) : Prop
  | mk (x : _) (T : _) (t : _) (b : _) (h0 : xs = [x, .ty T]) (h1 : TyOf K H x t) (h2 : PySem.W.kitOne K t (.type T) = some b) (h3 : Q (.bl b) H)
def rIsi (K : PySem.W.Frag) : List V → Hp → VK → Prop := fun xs H Q => rIsi_ K xs H Q
end L2
namespace L2
open PySem PySem.Spec PyProof.Rows
theorem log2_lt_of {j : Int} (h0 : 0 < j) {k : Nat} (h : j < 2 ^ k) : j.natAbs.log2 < k := by
  have hn : j.natAbs < 2 ^ k := by
    have e : ((2 : Int) ^ k) = ((2 ^ k : Nat) : Int) := by simp
    rw [e] at h
    trivial
  exact (Nat.log2_lt (by trivial)).mpr hn
theorem log2_small {j : Int} (h0 : 0 < j) (h : j < 2 ^ 8000) : j.natAbs.log2 < 9000 := Nat.lt_of_lt_of_le (log2_lt_of h0 h) (by decide)
section
variable {X : Cx}
theorem call_divmodB : CallR X (.builtin "divmod") (fun xs H Q => Ex2 fun i j => xs = [.int i, .int j] ∧ CDivB i j ∧ ∀ p, H p = none → Q (.ref p) (upd H p (.tup [.int (i / j), .int (i % j)]))) := by
  intro pins s σ H xs us Q I r h
  obtain ⟨i, j, rfl, ⟨h1, h2⟩, q⟩ := h
  obtain ⟨u, w', rfl, ⟨t, rfl⟩, ⟨t', rfl⟩⟩ := vals2 r
  refine divmod_int (by trivial) ?_ (.inl (PyProof.noPylong_of_log2 h2))
  rw [Int.fdiv_eq_ediv_of_nonneg i (by trivial), Int.fmod_eq_emod_of_nonneg i (by trivial)]
  have hn : H s.heap.objs.size = none := I.hok.fresh (Nat.le_refl _)
  refine ⟨.ref s.heap.objs.size, _, ?_, rfl, q _ hn⟩
  refine I.laid (fun b o e => Heap.get?_push_of_some _ e) (Nat.le_refl _) ⟨by simp only [List.length_cons, List.length_nil]; rw [sizeLine_eq]; decide, [.int (i / j) s.toks, .int (i % j) (s.toks + 1)], .cons ⟨_, rfl⟩ (.cons ⟨_, rfl⟩ .nil), ?_⟩
  exact ⟨⟨_, Heap.get?_push_size s.heap rfl, rfl, 0, rfl⟩, _, Heap.get?_push_size s.heap rfl, rfl⟩
end
theorem b01 (c : Bool) : -(2 ^ 64) < (if c = true then (1 : Int) else 0) ∧ (if c = true then (1 : Int) else 0) < 2 ^ 64 := by cases c <;> decide
theorem abs_nn (x : Int) : 0 ≤ (if x < 0 then -x else x) := by split <;> trivial
theorem mul01 {x : Int} (c : Bool) (h : 0 ≤ x) : 0 ≤ x * (if c = true then (1 : Int) else 0) := by cases c <;> simp [h]
theorem atI_int {ms : List Int} {k : Int} (h0 : 0 ≤ k) (h : k.toNat < ms.length) : atI (ms.map V.int) k = some (V.int ms[k.toNat]) := by
  have q := atI_nat (xs := ms.map V.int) (j := k.toNat) (v := V.int ms[k.toNat]) (by rw [List.getElem?_map]; simp [h])
  rwa [Int.toNat_of_nonneg h0] at q
def Bx (H : Hp) (b : Addr) (t : Int) : Prop := ∃ c x : Int, H b = some (.lst [.int c, .int x, .int t]) ∧ 0 ≤ c ∧ 0 ≤ x ∧ x < 2147483647
abbrev Eb (b : Addr) : Addr → Prop := fun a => a = b
theorem Bx.same {H H' : Hp} {b : Addr} {t : Int} (h : Bx H b t) (k : Same H H') : Bx H' b t := by
  obtain ⟨c, x, e, r⟩ := h
  exact ⟨c, x, k _ _ e, r⟩
theorem sameE_upd {H H1 : Hp} {b : Addr} {xs : List V} {o : HO} (k : Same H H1) (hb : H1 b = some (.lst xs)) : SameE (Eb b) H (upd H1 b o) :=
  ⟨fun a u n h => by rw [upd_ne n]; exact k a u h, fun a ys h => by
    have e := k a _ h
    rw [upd_ne (ne_of e hb (by intro z; cases z))]; exact e⟩
inductive spBox_ (K : PySem.W.Frag) (vs : List V) (H : Hp) (Q : VK) : Prop
  | mk (a : Addr) (ms : List Int) (k : Int) (h0 : vs = [.ref a, .int k]) (h1 : SqL K H a (ms.map V.int)) (h2 : 0 ≤ k) (h3 : k ≤ 63) (h4 : ∀ p H', H p = none → Same H H' → Bx H' p 0 → Q (.ref p) H')
def spBox (K : PySem.W.Frag) : Sp := fun vs H Q _ => spBox_ K vs H Q
inductive spTake_ (vs : List V) (H : Hp) (Q : VK) : Prop
  | mk (b : Addr) (many t : Int) (h0 : vs = [.ref b, .int many]) (h1 : Bx H b t) (h2 : 0 < many) (h3 : many.natAbs.log2 < 9000) (h4 : 0 ≤ t) (h5 : t ≤ 1000000) (h6 : ∀ r t' H', 0 ≤ r → r < many → t ≤ t' → t' ≤ t + 1 → SameE (Eb b) H H' → Bx H' b t' → Q (.int r) H')
def spTake : Sp := fun vs H Q _ => spTake_  vs H Q
inductive spFold_ (K : PySem.W.Frag) (vs : List V) (H : Hp) (Q : VK) : Prop
  | mk (a : Addr) (ns : List Int) (many : Int) (h0 : vs = [.ref a, .int many]) (h1 : SqL K H a (ns.map V.int)) (h2 : ns.length ≤ 63) (h3 : 2 ≤ many) (h4 : many ≤ 63) (h5 : ∀ (p : Addr) (ms : List Int) (H' : Hp), H p = none → Same H H' → H' p = some (.lst (ms.map V.int)) → 2 ≤ ms.length → (ms.length : Int) ≤ many → Q (.ref p) H')
def spFold (K : PySem.W.Frag) : Sp := fun vs H Q _ => spFold_ K vs H Q
end L2
namespace L2
open PySem PySem.Spec PyProof.Rows
def nodupB : List Str → Bool
  | [] => true
  | x :: r => !r.contains x && nodupB r
theorem nodupS : ∀ l : List Str, nodupB l = true → l.Nodup
  | [], _ => List.nodup_nil
  | x :: r, h => by
    unfold nodupB at h
    simp only [Bool.and_eq_true, Bool.not_eq_true', List.contains_eq_mem, decide_eq_false_iff_not] at h
    exact List.nodup_cons.mpr ⟨h.1, nodupS r h.2⟩
inductive rLen_ (K : PySem.W.Frag) (xs : List V) (H : Hp) (Q : VK) : Prop
  | mk (p : _) (ys : _) (h0 : xs = [.ref p]) (h1 : (SqL K H p ys ∨ SqT K H p ys)) (h2 : Q (.int ys.length) H)
def rLen (K : PySem.W.Frag) : List V → Hp → VK → Prop := fun xs H Q => rLen_ K xs H Q
section
variable {X : Cx} {K : PySem.W.Frag}
theorem isinst_k (e : X.K = K := by rfl) : CallR X (.builtin "isinstance") (rIsi K) := by subst e; exact fun pins s σ H xs us Q I r ⟨x, T, t, b, h1, h2, h3, q⟩ => call_isinst pins s σ H xs us Q I r ⟨x, T, t, b, h1, h2, h3, q⟩
theorem len_k (e : X.K = K := by rfl) : CallR X (.builtin "len") (rLen K) := by subst e; exact fun pins s σ H xs us Q I r ⟨p, ys, h1, h2, q⟩ => call_len_seq pins s σ H xs us Q I r ⟨p, ys, h1, h2, q⟩
theorem ixL_k (e : X.K = K := by rfl) : IxR X (rIxL K) := by subst e; exact ix_list
theorem ixT_k (e : X.K = K := by rfl) : IxR X (rIxT K) := by subst e; exact ix_tup
inductive rAll_ (K : PySem.W.Frag) (xs : List V) (H : Hp) (Q : VK) : Prop
  | mk (l : Addr) (bs : List Bool) (h0 : xs = [.ref l]) (h1 : SqL K H l (bs.map V.bl)) (h2 : Q (.bl (bs.all id)) H)
def rAll (K : PySem.W.Frag) : List V → Hp → VK → Prop := fun xs H Q => rAll_ K xs H Q
inductive rAny_ (K : PySem.W.Frag) (xs : List V) (H : Hp) (Q : VK) : Prop
  | mk (l : Addr) (bs : List Bool) (h0 : xs = [.ref l]) (h1 : SqL K H l (bs.map V.bl)) (h2 : Q (.bl (bs.any id)) H)
def rAny (K : PySem.W.Frag) : List V → Hp → VK → Prop := fun xs H Q => rAny_ K xs H Q
theorem all_k (hc : X.calm = true) (e : X.K = K := by rfl) : CallR X (.builtin "all") (rAll K) := by subst e; exact fun pins s σ H xs us Q I r ⟨l, bs, h1, h2, q⟩ => call_all hc pins s σ H xs us Q I r ⟨l, bs, h1, h2, q⟩
theorem any_k (hc : X.calm = true) (e : X.K = K := by rfl) : CallR X (.builtin "any") (rAny K) := by subst e; exact fun pins s σ H xs us Q I r ⟨l, bs, h1, h2, q⟩ => call_any hc pins s σ H xs us Q I r ⟨l, bs, h1, h2, q⟩
theorem pg_tup_k {pos : Pos} {es : List Expr} {k : Nat} {t : TGs} {n : Nat} (hc : X.calm = true) (h : PGs X es t) (e : X.K = K := by rfl)
    (hn : (assignEach es X.env).length = n := by rfl) (hst : (assignEach es X.env).findIdx? (·.1) = none := by rfl) : PG X (.Tuple es k pos) (gTup K n t) := by
  subst e; exact pg_tup hc h hn hst
theorem pi_list_k {tg l : Expr} {tl : TE} (hl : PE X l tl) (e : X.K = K := by rfl) : PI X tg l (iList K tl) := by subst e; exact pi_list hl
theorem pi_tup_k {tg l : Expr} {tl : TE} (hl : PE X l tl) (e : X.K = K := by rfl) : PI X tg l (iTup K tl) := by subst e; exact pi_tup hl
end
end L2
namespace L2
open PySem PySem.Spec PyProof.Rows
def notStar : Expr → Bool
  | .Starred .. => false
  | _ => true
theorem star_cons {e : Expr} {es : List Expr} {env : Env} (h : notStar e = true) : starEach (e :: es) env = (false, eval e env) :: starEach es env := by
  cases e <;> first | rfl | (simp [notStar] at h)
section
variable {X : Cx} {e : Expr} {es : List Expr} {te : TE} {t : TA}
theorem pa_c (ha : PE X e te) (hr : PA X es t) (hs : notStar e = true := by rfl) : PA X (e :: es) (tCons te t) := pa_cons ha hr (star_cons hs)
theorem pw (i : Nat) {x : Str} {pos : Pos} (hv : Vis X.env.scope x) (hN : X.N[i]? = some x := by rfl) (hd : (x == ("__debug__" : Str)) = false := by decide) (hcd : (x == ("__classdict__" : Str)) = false := by decide) : PE X (.Name x pos) (tVar i) := pe_var hN hv hd hcd
end
end L2
namespace KM
theorem gcd_fmod (n d : Int) : Int.gcd d (n.fmod d) = Int.gcd n d := by
  apply Nat.dvd_antisymm
  · apply Int.dvd_gcd
    · have h1 : ((Int.gcd d (n.fmod d) : Nat) : Int) ∣ d := Int.gcd_dvd_left ..
      have h2 : ((Int.gcd d (n.fmod d) : Nat) : Int) ∣ n.fmod d := Int.gcd_dvd_right ..
      have h3 := Int.dvd_add h2 (Int.dvd_mul_of_dvd_left (c := n.fdiv d) h1)
      rw [Int.fmod_add_mul_fdiv] at h3
      exact h3
    · exact Int.gcd_dvd_left ..
  · apply Int.dvd_gcd
    · exact Int.gcd_dvd_right ..
    · rw [Int.fmod_def]
      exact Int.dvd_sub (Int.gcd_dvd_left ..) (Int.dvd_mul_of_dvd_left (Int.gcd_dvd_right ..))
theorem fmod_natAbs_lt (n d : Int) (h : d ≠ 0) : (n.fmod d).natAbs < d.natAbs := by
  rcases Int.lt_trichotomy d 0 with hd | hd | hd
  · have e : n.fmod d = -((-n).fmod (-d)) := by
      rw [Int.fmod_def, Int.fmod_def]
      have : (-n).fdiv (-d) = n.fdiv d := Int.neg_fdiv_neg n d
      rw [this, Int.neg_mul]; trivial
    have h1 := Int.fmod_nonneg_of_pos (-n) (b := -d) (by trivial)
    have h2 := Int.fmod_lt_of_pos (-n) (b := -d) (by trivial)
    trivial
  · exact absurd hd h
  · have h1 := Int.fmod_nonneg_of_pos n hd
    have h2 := Int.fmod_lt_of_pos n hd
    trivial
theorem gcd_zero_abs (n : Int) : ((Int.gcd n 0 : Nat) : Int) = if n < 0 then -n else n := by
  rw [Int.gcd_zero_right]
  split <;> trivial
theorem gcd_emod (n d : Int) : Int.gcd d (n % d) = Int.gcd n d := by
  by_cases h : d = 0
  · subst h; rw [Int.emod_zero, Int.gcd_comm]
  · apply Nat.dvd_antisymm
    · apply Int.dvd_gcd
      · have h1 : ((Int.gcd d (n % d) : Nat) : Int) ∣ d := Int.gcd_dvd_left ..
        have h2 : ((Int.gcd d (n % d) : Nat) : Int) ∣ n % d := Int.gcd_dvd_right ..
        have h3 := Int.dvd_add h2 (Int.dvd_mul_of_dvd_left (c := n / d) h1)
        rw [Int.emod_add_mul_ediv] at h3
        exact h3
      · exact Int.gcd_dvd_left ..
    · apply Int.dvd_gcd
      · exact Int.gcd_dvd_right ..
      · rw [Int.emod_def]
        exact Int.dvd_sub (Int.gcd_dvd_left ..) (Int.dvd_mul_of_dvd_left (Int.gcd_dvd_right ..))
end KM
namespace KM
def low (n d : Int) : Int × Int := if 0 < d then (n / (Int.gcd n d : Nat), d / (Int.gcd n d : Nat)) else (-n / (Int.gcd n d : Nat), -d / (Int.gcd n d : Nat))
theorem gcd_pos {n d : Int} (h : d ≠ 0) : 0 < Int.gcd n d := by
  apply Nat.pos_of_ne_zero
  intro e
  exact h (Int.gcd_eq_zero_iff.mp e).2
theorem gcd_abs (n d : Int) : Int.gcd (if n < 0 then -n else n) (if d < 0 then -d else d) = Int.gcd n d := by
  split <;> split <;> simp [Int.gcd_neg, Int.neg_gcd]
theorem low_spec (n d : Int) (h : d ≠ 0) : 1 ≤ (low n d).2 ∧ (low n d).1 * d = n * (low n d).2 ∧ Int.gcd (low n d).1 (low n d).2 = 1 ∧ (low n d).1.natAbs ≤ n.natAbs ∧ (low n d).2.natAbs ≤ d.natAbs := by
  have g0 := gcd_pos (n := n) h
  have gi : ((Int.gcd n d : Nat) : Int) ≠ 0 := by trivial
  have d1 : ((Int.gcd n d : Nat) : Int) ∣ n := Int.gcd_dvd_left ..
  have d2 : ((Int.gcd n d : Nat) : Int) ∣ d := Int.gcd_dvd_right ..
  obtain ⟨a, ha⟩ := d1
  obtain ⟨b, hb⟩ := d2
  have ea : n / ((Int.gcd n d : Nat) : Int) = a := by
    conv => lhs; lhs; rw [ha]
    exact Int.mul_ediv_cancel_left _ gi
  have eb : d / ((Int.gcd n d : Nat) : Int) = b := by
    conv => lhs; lhs; rw [hb]
    exact Int.mul_ediv_cancel_left _ gi
  have ena : -n / ((Int.gcd n d : Nat) : Int) = -a := by
    have : -n = ((Int.gcd n d : Nat) : Int) * (-a) := by rw [Int.mul_neg]; trivial
    rw [this]
    exact Int.mul_ediv_cancel_left _ gi
  have enb : -d / ((Int.gcd n d : Nat) : Int) = -b := by
    have : -d = ((Int.gcd n d : Nat) : Int) * (-b) := by rw [Int.mul_neg]; trivial
    rw [this]
    exact Int.mul_ediv_cancel_left _ gi
  have hco : Int.gcd a b = 1 := by
    have := Int.gcd_ediv_gcd_ediv_gcd (i := n) (j := d) g0
    rw [ea, eb] at this
    exact this
  have hgp : (0 : Int) < ((Int.gcd n d : Nat) : Int) := by trivial
  have habs : n.natAbs = Int.gcd n d * a.natAbs := by
    conv => lhs; rw [ha]
    rw [Int.natAbs_mul]; rfl
  have hbbs : d.natAbs = Int.gcd n d * b.natAbs := by
    conv => lhs; rw [hb]
    rw [Int.natAbs_mul]; rfl
  have la : a.natAbs ≤ n.natAbs := by rw [habs]; exact Nat.le_mul_of_pos_left _ g0
  have lb : b.natAbs ≤ d.natAbs := by rw [hbbs]; exact Nat.le_mul_of_pos_left _ g0
  have hab : a * d = n * b := by
    generalize ((Int.gcd n d : Nat) : Int) = g at ha hb
    subst ha hb
    rw [Int.mul_comm g a, Int.mul_assoc]
  unfold low
  split
  · rename_i hd
    refine ⟨?_, ?_, ?_, ?_, ?_⟩
    · show 1 ≤ d / _
      rw [eb]
      have : 0 < b := by
        apply Int.pos_of_mul_pos_right (a := ((Int.gcd n d : Nat) : Int)) _ hgp
        rw [← hb]; exact hd
      trivial
    · show n / _ * d = n * (d / _)
      rw [ea, eb]; exact hab
    · show Int.gcd (n / _) (d / _) = 1
      rw [ea, eb]; exact hco
    · show (n / _).natAbs ≤ _
      rw [ea]; exact la
    · show (d / _).natAbs ≤ _
      rw [eb]; exact lb
  · rename_i hd
    refine ⟨?_, ?_, ?_, ?_, ?_⟩
    · show 1 ≤ -d / _
      rw [enb]
      have : 0 < -b := by
        apply Int.pos_of_mul_pos_right (a := ((Int.gcd n d : Nat) : Int)) _ hgp
        rw [Int.mul_neg, ← hb]; trivial
      trivial
    · show -n / _ * d = n * (-d / _)
      rw [ena, enb, Int.neg_mul, Int.mul_neg, hab]
    · show Int.gcd (-n / _) (-d / _) = 1
      rw [ena, enb, Int.gcd_neg, Int.neg_gcd]; exact hco
    · show (-n / _).natAbs ≤ _
      rw [ena, Int.natAbs_neg]; exact la
    · show (-d / _).natAbs ≤ _
      rw [enb, Int.natAbs_neg]; exact lb
end KM
namespace KM
theorem low_uniq {n d a b : Int} (hd : d ≠ 0) (hb : 1 ≤ b) (hg : Int.gcd a b = 1) (he : a * d = n * b) : low n d = (a, b) := by
  obtain ⟨h1, h2, h3, _, _⟩ := low_spec n d hd
  generalize low n d = z at *
  obtain ⟨x, y⟩ := z
  dsimp only at h1 h2 h3
  have e1 : x * b = a * y := by
    apply Int.eq_of_mul_eq_mul_right hd
    calc x * b * d = (x * d) * b := by rw [Int.mul_assoc, Int.mul_comm b d, ← Int.mul_assoc]
      _ = n * y * b := by rw [h2]
      _ = (n * b) * y := by rw [Int.mul_assoc, Int.mul_comm y b, ← Int.mul_assoc]
      _ = a * d * y := by rw [he]
      _ = a * y * d := by rw [Int.mul_assoc, Int.mul_comm d y, ← Int.mul_assoc]
  have d1 : y ∣ b := by
    apply Int.natAbs_dvd_natAbs.mp
    apply Nat.Coprime.dvd_of_dvd_mul_left (k := y.natAbs) (m := x.natAbs)
    · show Nat.gcd y.natAbs x.natAbs = 1
      rw [Nat.gcd_comm]; exact h3
    · rw [← Int.natAbs_mul]
      exact Int.natAbs_dvd_natAbs.mpr ⟨a, by rw [e1, Int.mul_comm]⟩
  have d2 : b ∣ y := by
    apply Int.natAbs_dvd_natAbs.mp
    apply Nat.Coprime.dvd_of_dvd_mul_left (k := b.natAbs) (m := a.natAbs)
    · show Nat.gcd b.natAbs a.natAbs = 1
      rw [Nat.gcd_comm]; exact hg
    · rw [← Int.natAbs_mul]
      exact Int.natAbs_dvd_natAbs.mpr ⟨x, by rw [← e1, Int.mul_comm]⟩
  have e2 : y = b := Int.dvd_antisymm (by trivial) (by trivial) d1 d2
  subst e2
  have e3 : x = a := Int.eq_of_mul_eq_mul_right (by trivial) e1
  rw [e3]
theorem low_self {a b : Int} (hb : 1 ≤ b) (hg : Int.gcd a b = 1) : low a b = (a, b) := low_uniq (by trivial) hb hg rfl
section
variable {p0 p1 q0 q1 : Int}
end
theorem fdiv_low {n d : Int} (hd : d ≠ 0) : (n.fdiv (if d < 0 then -((Int.gcd n d : Nat) : Int) else ((Int.gcd n d : Nat) : Int)), d.fdiv (if d < 0 then -((Int.gcd n d : Nat) : Int) else ((Int.gcd n d : Nat) : Int))) = low n d := by
  have g0 : (0 : Int) ≤ ((Int.gcd n d : Nat) : Int) := Int.natCast_nonneg _
  unfold low
  by_cases h : d < 0
  · rw [if_pos h, if_neg (by trivial)]
    have e : ∀ x : Int, x.fdiv (-((Int.gcd n d : Nat) : Int)) = -x / ((Int.gcd n d : Nat) : Int) := fun x => by
      rw [← Int.fdiv_eq_ediv_of_nonneg _ g0, ← Int.neg_fdiv_neg, Int.neg_neg]
    rw [e, e]
  · rw [if_neg h, if_pos (by trivial), Int.fdiv_eq_ediv_of_nonneg _ g0, Int.fdiv_eq_ediv_of_nonneg _ g0]
end KM
namespace KM
abbrev Fra := Int × Int
def ladd (t p : Fra) : Fra := low (t.1 * p.2 + p.1 * t.2) (t.2 * p.2)
def bt (s : Bool) (p b : Fra) : Bool := if s then decide (b.1 * p.2 < p.1 * b.2) else decide (p.1 * b.2 < b.1 * p.2)
def pick (s : Bool) (b : Fra) (ps : List Fra) : Fra := ps.foldl (fun b p => if bt s p b = true then p else b) b
def wk (s : Bool) (p b : Fra) : Prop := if s then p.1 * b.2 ≤ b.1 * p.2 else b.1 * p.2 ≤ p.1 * b.2
theorem wk_of_not {s : Bool} {p b : Fra} (h : ¬ bt s p b = true) : wk s p b := by
  cases s <;> simp [bt, wk] at * <;> trivial
theorem wk_of {s : Bool} {p b : Fra} (h : bt s p b = true) : wk s b p := by
  cases s <;> simp [bt, wk] at * <;> trivial
theorem wk_refl (s : Bool) (p : Fra) : wk s p p := by cases s <;> simp [wk]
theorem le_tr {p q r : Fra} (hp : 1 ≤ p.2) (hq : 1 ≤ q.2) (hr : 1 ≤ r.2) (h1 : p.1 * q.2 ≤ q.1 * p.2) (h2 : q.1 * r.2 ≤ r.1 * q.2) : p.1 * r.2 ≤ r.1 * p.2 := by
  apply Int.le_of_mul_le_mul_right (a := q.2) _ (by trivial)
  calc p.1 * r.2 * q.2 = p.1 * q.2 * r.2 := by rw [Int.mul_assoc, Int.mul_comm r.2, ← Int.mul_assoc]
    _ ≤ q.1 * p.2 * r.2 := Int.mul_le_mul_of_nonneg_right h1 (by trivial)
    _ = q.1 * r.2 * p.2 := by rw [Int.mul_assoc, Int.mul_comm p.2, ← Int.mul_assoc]
    _ ≤ r.1 * q.2 * p.2 := Int.mul_le_mul_of_nonneg_right h2 (by trivial)
    _ = r.1 * p.2 * q.2 := by rw [Int.mul_assoc, Int.mul_comm q.2, ← Int.mul_assoc]
theorem wk_tr {s : Bool} {p q r : Fra} (hp : 1 ≤ p.2) (hq : 1 ≤ q.2) (hr : 1 ≤ r.2) (h1 : wk s p q) (h2 : wk s q r) : wk s p r := by
  cases s with
  | true => simp [wk] at *; exact le_tr hp hq hr h1 h2
  | false => simp [wk] at *; exact le_tr hr hq hp h2 h1
theorem pick_spec (s : Bool) : ∀ (ps : List Fra) (b : Fra), 1 ≤ b.2 → (∀ p ∈ ps, 1 ≤ p.2) → (pick s b ps = b ∨ pick s b ps ∈ ps) ∧ wk s b (pick s b ps) ∧ ∀ p ∈ ps, wk s p (pick s b ps)
  | [], b, _, _ => ⟨.inl rfl, wk_refl s b, fun p hp => by cases hp⟩
  | q :: r, b, hb, h => by
    have hq := h q (by simp)
    have hr : ∀ p ∈ r, 1 ≤ p.2 := fun p hp => h p (List.mem_cons_of_mem _ hp)
    have e : pick s b (q :: r) = pick s (if bt s q b = true then q else b) r := rfl
    have hc : 1 ≤ (if bt s q b = true then q else b).2 := by split <;> assumption
    obtain ⟨i1, i2, i3⟩ := pick_spec s r (if bt s q b = true then q else b) hc hr
    rw [e]
    have hpos : 1 ≤ (pick s (if bt s q b = true then q else b) r).2 := by
      rcases i1 with i1 | i1
      · rw [i1]; exact hc
      · exact hr _ i1
    by_cases hbt : bt s q b = true
    · rw [if_pos hbt] at *
      refine ⟨?_, wk_tr hb hq hpos (wk_of hbt) i2, fun p hp => ?_⟩
      · rcases i1 with i1 | i1
        · exact .inr (by rw [i1]; simp)
        · exact .inr (List.mem_cons_of_mem _ i1)
      · rcases List.mem_cons.mp hp with rfl | hp
        · exact i2
        · exact i3 p hp
    · rw [if_neg hbt] at *
      refine ⟨?_, i2, fun p hp => ?_⟩
      · rcases i1 with i1 | i1
        · exact .inl i1
        · exact .inr (List.mem_cons_of_mem _ i1)
      · rcases List.mem_cons.mp hp with rfl | hp
        · exact wk_tr hq hb hpos (wk_of_not hbt) i2
        · exact i3 p hp
theorem eq_of_cross {p q : Fra} (hp : 1 ≤ p.2) (hq : 1 ≤ q.2) (gp : Int.gcd p.1 p.2 = 1) (gq : Int.gcd q.1 q.2 = 1) (h : q.1 * p.2 = p.1 * q.2) : p = q := by
  have e1 := low_self hp gp
  have e2 := low_uniq (n := p.1) (d := p.2) (a := q.1) (b := q.2) (by trivial) hq gq h
  rw [e1] at e2
  exact e2
theorem pick_all {s : Bool} {p0 : Fra} {r : List Fra} (h : ∀ p ∈ p0 :: r, 1 ≤ p.2 ∧ Int.gcd p.1 p.2 = 1) : pick s p0 (p0 :: r) ∈ p0 :: r ∧ ∀ p ∈ p0 :: r, wk s p (pick s p0 (p0 :: r)) := by
  obtain ⟨a, b, c⟩ := pick_spec s (p0 :: r) p0 (h p0 (by simp)).1 (fun p hp => (h p hp).1)
  refine ⟨?_, c⟩
  rcases a with a | a
  · rw [a]; simp
  · exact a
theorem low_sgn {n d : Int} (hd : 0 < d) : (0 < (low n d).1 ↔ 0 < n) ∧ ((low n d).1 < 0 ↔ n < 0) := by
  obtain ⟨h1, h2, _, _, _⟩ := low_spec n d (by trivial)
  generalize low n d = z at *
  obtain ⟨x, y⟩ := z
  dsimp only at *
  have hy : 0 < y := by trivial
  constructor
  · constructor
    · intro h
      have : 0 < x * d := Int.mul_pos h hd
      rw [h2] at this
      exact Int.pos_of_mul_pos_left this hy
    · intro h
      have : 0 < n * y := Int.mul_pos h hy
      rw [← h2] at this
      exact Int.pos_of_mul_pos_left this hd
  · constructor
    · intro h
      have : x * d < 0 := Int.mul_neg_of_neg_of_pos h hd
      rw [h2] at this
      apply Decidable.byContradiction
      intro hn
      have := Int.mul_nonneg (show 0 ≤ n by trivial) (show 0 ≤ y by trivial)
      trivial
    · intro h
      have : n * y < 0 := Int.mul_neg_of_neg_of_pos h hy
      rw [← h2] at this
      apply Decidable.byContradiction
      intro hn
      have := Int.mul_nonneg (show 0 ≤ x by trivial) (show 0 ≤ d by trivial)
      trivial
end KM
namespace KM
def vl (p : Fra) : Rat := Rat.divInt p.1 p.2
def Rd (p : Fra) : Prop := 1 ≤ p.2 ∧ Int.gcd p.1 p.2 = 1
theorem Rd.low {n d : Int} (h : d ≠ 0) : Rd (KM.low n d) := ⟨(low_spec n d h).1, (low_spec n d h).2.2.1⟩
theorem vl_low {n d : Int} (h : d ≠ 0) : vl (low n d) = Rat.divInt n d := by
  obtain ⟨h1, h2, _⟩ := low_spec n d h
  exact (Rat.divInt_eq_divInt_iff (by trivial) h).mpr (by rw [h2])
theorem Rd.eq {p q : Fra} (hp : Rd p) (hq : Rd q) (h : vl p = vl q) : p = q := by
  have := (Rat.divInt_eq_divInt_iff (d₁ := p.2) (d₂ := q.2) (by have := hp.1; trivial) (by have := hq.1; trivial)).mp h
  exact eq_of_cross hp.1 hq.1 hp.2 hq.2 this.symm
theorem Rd.nz {p : Fra} (h : Rd p) : p.2 ≠ 0 := by have := h.1; trivial
theorem mul_nz {a b : Int} (h : a ≠ 0) (k : b ≠ 0) : a * b ≠ 0 := Int.mul_ne_zero h k
theorem vl_add {p q : Fra} (hp : p.2 ≠ 0) (hq : q.2 ≠ 0) : vl (ladd p q) = vl p + vl q := by
  unfold ladd
  rw [vl_low (mul_nz hp hq)]
  exact (Rat.divInt_add_divInt _ _ hp hq).symm
def lTim (p q : Fra) : Fra := low (p.1 * q.1) (p.2 * q.2)
theorem vl_tim {p q : Fra} (hp : p.2 ≠ 0) (hq : q.2 ≠ 0) : vl (lTim p q) = vl p * vl q := by
  unfold lTim
  rw [vl_low (mul_nz hp hq)]
  exact (Rat.divInt_mul_divInt _ _).symm
theorem Rd.add {p q : Fra} (hp : Rd p) (hq : Rd q) : Rd (ladd p q) := Rd.low (mul_nz hp.nz hq.nz)
theorem Rd.tim {p q : Fra} (hp : Rd p) (hq : Rd q) : Rd (lTim p q) := Rd.low (mul_nz hp.nz hq.nz)
theorem Rd.zero : Rd (0, 1) := ⟨by decide, by decide⟩
theorem vl_zero : vl (0, 1) = 0 := Rat.zero_divInt 1
end KM
namespace L2
open PySem PySem.Spec PyProof.Rows
section
variable {prog : Program} {w : World} {A : Around} {E : Value → Shared → Prop} {s : Shared}
theorem nextOf_tup {it t : Addr} {i : Nat} {its : Array Value} {x : Value} {Q : Value → Shared → Prop} (hit : s.heap.IsTupleIter it t i) (ht : s.heap.IsTuple t its) (hx : its[i]? = some x)
    (q : ∀ h', h'.IsTupleIter it t (i + 1) → Heap.SameBut it s.heap h' → Q x { s with heap := h' }) : wpAny (model prog w) A (Builtin.SmallTypes.nextOf (.ref it)) Q E s := by
  obtain ⟨o, e1, e2, e3⟩ := id hit; obtain ⟨u, e4, _, k, e5⟩ := ht; unfold Builtin.SmallTypes.nextOf
  refine wpAny_bind (wpAny_callSpecial?_slot (name := Str.ofString "__next__") hit.typeIs F.slot_tuple_iterator_next (wpAny_call_entry F.slot_tuple_iterator_next hit.typeIs F.entry_tuple_iterator_next ?_ (F.args_tuple_iterator_next_1 _)))
  show wpAny _ _ (field (.ref it) 0 >>= _) _ _ s; refine wpAny_bind (wpAny_field e1 e3 (x := .ref t) rfl ?_)
  show wpAny _ _ (if (Value.ref t == Value.none) = true then _ else _) _ _ s; rw [if_neg (show ¬ ((Value.ref t == Value.none) = true) from Bool.false_ne_true)]
  show wpAny _ _ (field (.ref it) 1 >>= _) _ _ s; refine wpAny_bind (wpAny_field e1 e3 (x := .int i 0) rfl ?_)
  show wpAny _ _ (seqItems? (.ref t) >>= _) _ _ s; refine wpAny_bind (wpAny_seqItems e4 e5 ?_)
  simp only [Int.toNat_natCast, hx]; refine wpAny_bind (wpAny_setField e1 e3 (by simp) (wpAny_pure ⟨x, rfl, wpAny_pure (q _ ?_ (Heap.SameBut.update ..))⟩))
  exact ⟨_, Heap.get?_update_self _ e1 (Obj.isFreed_of_fields (Obj.data_mapFields e3 _)), (Obj.cls_mapFields ..).trans e2, by rw [Obj.data_mapFields e3]; simp [rawInt]⟩
theorem nextOf_tupEnd {it t : Addr} {i : Nat} {its : Array Value} {Q : Value → Shared → Prop} (hh : A.handled = none) (hit : s.heap.IsTupleIter it t i) (ht : s.heap.IsTuple t its) (hx : its[i]? = none)
    (q : ∀ h' e, Heap.ExtBut it s.heap h' → (∃ o, h'.get? e = some o ∧ o.cls = .type "StopIteration") → E (.ref e) { s with heap := h' }) : wpAny (model prog w) A (Builtin.SmallTypes.nextOf (.ref it)) Q E s := by
  obtain ⟨o, e1, e2, e3⟩ := id hit; obtain ⟨u, e4, _, k, e5⟩ := ht; unfold Builtin.SmallTypes.nextOf
  refine wpAny_bind (wpAny_callSpecial?_slot (name := Str.ofString "__next__") hit.typeIs F.slot_tuple_iterator_next (wpAny_call_entry F.slot_tuple_iterator_next hit.typeIs F.entry_tuple_iterator_next ?_ (F.args_tuple_iterator_next_1 _)))
  show wpAny _ _ (field (.ref it) 0 >>= _) _ _ s; refine wpAny_bind (wpAny_field e1 e3 (x := .ref t) rfl ?_)
  show wpAny _ _ (if (Value.ref t == Value.none) = true then _ else _) _ _ s; rw [if_neg (show ¬ ((Value.ref t == Value.none) = true) from Bool.false_ne_true)]
  show wpAny _ _ (field (.ref it) 1 >>= _) _ _ s; refine wpAny_bind (wpAny_field e1 e3 (x := .int i 0) rfl ?_)
  show wpAny _ _ (seqItems? (.ref t) >>= _) _ _ s; refine wpAny_bind (wpAny_seqItems e4 e5 ?_)
  simp only [Int.toNat_natCast, hx]; refine wpAny_bind (wpAny_rule (wpAny_bind (wpAny_setField e1 e3 (by simp) ?_)))
  show wpAny _ _ (newExc (.type "StopIteration") [] >>= _) _ _ _; refine wpAny_bind ?_; simp only [newExc, newTuple]
  refine wpAny_bind (wpAny_newObj_type ?_ (by size_fits)); refine wpAny_bind (m := firstArgMember _ _) (wpAny_of_eq (a := Value.none) (by first | rfl | (simp only [firstArgMember]; rfl)) ?_); refine wpAny_newObj_type ?_ (by size_fits)
  simp only [raiseNew]; refine wpAny_bind (wpAny_handled ?_); first | rw [show A.in1.handled = none from hh] | rw [hh]
  refine wpAny_bind (wpAny_pure (wpAny_throw ?_)); exact q _ _ (((Heap.SameBut.update ..).extBut.push _).push _) ⟨_, Heap.get?_push_size _ rfl, rfl⟩
end
def SqK (h : Heap) (l : Addr) (its : Array Value) : Bool → Prop
  | true => h.IsList l its
  | false => h.IsTuple l its
def ItK (h : Heap) (it l : Addr) (i : Nat) : Bool → Prop
  | true => h.IsListIter it l i
  | false => h.IsTupleIter it l i
theorem SqK.at {h h' : Heap} {l : Addr} {its : Array Value} : ∀ {b : Bool}, SqK h l its b → (∀ o, h.get? l = some o → h'.get? l = some o) → SqK h' l its b
  | true, q, k => Heap.IsList.at q k
  | false, q, k => Heap.IsTuple.at q k
theorem ItK.at {h h' : Heap} {it l : Addr} {i : Nat} : ∀ {b : Bool}, ItK h it l i b → (∀ o, h.get? it = some o → h'.get? it = some o) → ItK h' it l i b
  | true, q, k => Heap.IsListIter.at q k
  | false, q, k => Heap.IsTupleIter.at q k
theorem SqK.lt {h : Heap} {l : Addr} {its : Array Value} : ∀ {b : Bool}, SqK h l its b → l < h.objs.size
  | true, ⟨_, e, _⟩ => Heap.lt_size e
  | false, ⟨_, e, _⟩ => Heap.lt_size e
theorem ItK.some {h : Heap} {it l : Addr} {i : Nat} : ∀ {b : Bool}, ItK h it l i b → ∃ o, h.get? it = some o ∧ ∀ v, o.data ≠ .cell v
  | true, ⟨o, e, _, d⟩ => ⟨o, e, fun v z => by rw [d] at z; cases z⟩
  | false, ⟨o, e, _, d⟩ => ⟨o, e, fun v z => by rw [d] at z; cases z⟩
theorem drawsK {prog : Program} {w : World} {A : Around} (hh : A.handled = none) (it l : Addr) (hne : l ≠ it) (its : Array Value) : ∀ b : Bool,
    Draws prog w A it [it, l] its.size (fun i v => its[i]? = some v) (fun i h => ItK h it l i b ∧ SqK h l its b)
  | true => Draws.list hh it l hne its
  | false => {
    live := fun _ _ st => let ⟨o, ho, _⟩ := st.1; ⟨o, ho⟩
    frame := fun _ _ _ st hk => ⟨Heap.IsTupleIter.at st.1 fun o e => hk it (by simp) o e, Heap.IsTuple.at st.2 fun o e => hk l (by simp) o e⟩
    item := fun i s Q E hi st q => nextOf_tup st.1 st.2 (x := its[i]) (by simp [hi]) fun h' it' same => q _ h' s.toks (by simp [hi]) ⟨it', Heap.IsTuple.extBut st.2 same.extBut hne⟩ same
    done := fun s Q E st q => nextOf_tupEnd hh st.1 st.2 (by simp) q }
end L2
namespace L2
open PySem PySem.Spec PyProof.Rows
structure Apart5 (z TI TO i1 i2 : Addr) : Prop where
  a1 : TI ≠ z
  a2 : TO ≠ z
  a3 : i1 ≠ z
  a4 : i2 ≠ z
  a5 : TI ≠ TO
  a6 : TI ≠ i1
  a7 : TI ≠ i2
  a8 : TO ≠ i1
  a9 : TO ≠ i2
  a0 : i1 ≠ i2
section
variable {prog : Program} {w : World} {A : Around} {E : Value → Shared → Prop} {s : Shared}
variable {z TI TO i1 i2 l1 l2 : Addr} {k : Nat} {xs ys : Array Value} {a b : Value} {c1 c2 : Bool}
theorem zipItem {x y : Value} {Q : Value → Shared → Prop} (D : Apart5 z TI TO i1 i2) (n1 : ∀ c, c = l1 ∨ c = l2 → c ≠ z ∧ c ≠ TO ∧ c ≠ i1 ∧ c ≠ i2)
    (hz : IsZip s.heap z TI TO .none) (hTI : IsPair s.heap TI (.ref i1) (.ref i2)) (hTO : IsPair s.heap TO a b) (hh : A.handled = none)
    (h1 : ItK s.heap i1 l1 k c1) (h2 : ItK s.heap i2 l2 k c2) (q1 : SqK s.heap l1 xs c1) (q2 : SqK s.heap l2 ys c2) (hx : xs[k]? = some x) (hy : ys[k]? = some y)
    (hQ : ∀ h' tk, IsZip h' z TI TO (rawInt s.heap.objs.size) → IsPair h' TO x y → ItK h' i1 l1 (k + 1) c1 → ItK h' i2 l2 (k + 1) c2 → IsPair h' s.heap.objs.size x y → h'.objs.size = s.heap.objs.size + 1 →
      (∀ c o, c ≠ z → c ≠ TO → c ≠ i1 → c ≠ i2 → s.heap.get? c = some o → h'.get? c = some o) → Q (.ref s.heap.objs.size) { s with heap := h', toks := tk }) :
    wpAny (model prog w) A (Builtin.«zip.__next__» ⟨[.ref z], []⟩) (fun fin s' => ∃ v, fin = .done (.ret v) ∧ Q v s') E s := by
  obtain ⟨m1, m2, m3, m4⟩ := n1 l1 (.inl rfl)
  obtain ⟨m5, m6, m7, m8⟩ := n1 l2 (.inr rfl)
  have kx : k < xs.size := (Array.getElem?_eq_some_iff.mp hx).1
  have ky : k < ys.size := (Array.getElem?_eq_some_iff.mp hy).1
  have D1 := drawsK (prog := prog) (w := w) hh i1 l1 m3 xs c1
  have D2 := drawsK (prog := prog) (w := w) hh i2 l2 m8 ys c2
  show wpAny _ _ (field (.ref z) 2 >>= _) _ _ _; refine wpAny_bind (wpAny_field hz rfl (x := .bool false) rfl ?_)
  show wpAny _ _ (field (.ref z) 3 >>= _) _ _ _; refine wpAny_bind (wpAny_field hz rfl (x := .ref TI) rfl (wpAny_bind (wpAny_seqItems hTI rfl ?_)))
  show wpAny _ _ (Builtin.SmallTypes.ownedTupleIsFree (.ref z) >>= _) _ _ _; refine wpAny_bind ?_; unfold Builtin.SmallTypes.ownedTupleIsFree
  refine wpAny_bind (wpAny_field hz rfl (x := .none) rfl (wpAny_pure ?_)); simp only [if_true]
  refine wpAny_bind (wpAny_rule (wpAny_bind (wpAny_field hz rfl (x := .ref TO) rfl (wpAny_bind (wpAny_setField_rec hz (by simp) fun g1 z1 t1 => ?_)))))
  replace z1 : IsZip g1 z TI TO .ellipsis := z1
  refine wpAny_bind ?_; simp only [List.zipIdx_cons, List.zipIdx_nil, List.forIn_cons, List.forIn_nil]; refine wpAny_bind (wpAny_bind (wpAny_onRaise ?_))
  show wpAny _ _ (Builtin.SmallTypes.nextOf (.ref i1) >>= _) _ _ _
  refine wpAny_bind (D1.item k _ _ _ kx ⟨h1.at fun o e => t1.extBut _ _ D.a3 e, q1.at fun o e => t1.extBut _ _ m1 e⟩ fun x' g2 tk2 p1 st1 t2 => wpAny_pure ?_)
  have ex : x = x' := Option.some.inj (hx.symm.trans p1)
  subst ex
  have TO2 : IsPair g2 TO a b := t2.extBut _ _ D.a8 (t1.extBut _ _ D.a2 hTO)
  refine wpAny_bind (wpAny_seqItems TO2 rfl (wpAny_bind (wpAny_updateSeq_pair TO2 fun g3 TO3 t3 => ?_)))
  replace TO3 : IsPair g3 TO x b := TO3
  refine wpAny_bind (wpAny_letGo (wpAny_pure ?_)); refine wpAny_bind (wpAny_bind (wpAny_onRaise ?_)); show wpAny _ _ (Builtin.SmallTypes.nextOf (.ref i2) >>= _) _ _ _
  refine wpAny_bind (D2.item k _ _ _ ky ⟨h2.at fun o e => t3.extBut _ _ D.a9.symm (t2.extBut _ _ D.a0.symm (t1.extBut _ _ D.a4 e)), q2.at fun o e => t3.extBut _ _ m6 (t2.extBut _ _ m7 (t1.extBut _ _ m5 e))⟩ fun y' g4 tk4 p2 st2 t4 => wpAny_pure ?_)
  have ey : y = y' := Option.some.inj (hy.symm.trans p2)
  subst ey
  have TO4 : IsPair g4 TO x b := t4.extBut _ _ D.a9 TO3
  refine wpAny_bind (wpAny_seqItems TO4 rfl (wpAny_bind (wpAny_updateSeq_pair TO4 fun g5 TO5 t5 => ?_)))
  replace TO5 : IsPair g5 TO x y := TO5
  refine wpAny_bind (wpAny_letGo (wpAny_pure (wpAny_pure ?_))); refine wpAny_bind (wpAny_seqItems TO5 rfl (wpAny_bind (wpAny_newTuple ?_)))
  have sz : g5.objs.size = s.heap.objs.size := by rw [t5.1, t4.1, t3.1, t2.1, t1.1]
  have z5 : IsZip g5 z TI TO .ellipsis := t5.extBut _ _ D.a2.symm (t4.extBut _ _ D.a4.symm (t3.extBut _ _ D.a2.symm (t2.extBut _ _ D.a3.symm z1)))
  have keep : ∀ c o, c ≠ z → c ≠ TO → c ≠ i1 → c ≠ i2 → s.heap.get? c = some o → g5.get? c = some o := fun c o d1 d2 d3 d4 e => t5.extBut _ _ d2 (t4.extBut _ _ d4 (t3.extBut _ _ d2 (t2.extBut _ _ d3 (t1.extBut _ _ d1 e))))
  have it1 : ItK g5 i1 l1 (k + 1) c1 := st1.1.at fun o e => t5.extBut _ _ D.a8.symm (t4.extBut _ _ D.a0 (t3.extBut _ _ D.a8.symm e))
  have it2 : ItK g5 i2 l2 (k + 1) c2 := st2.1.at fun o e => t5.extBut _ _ D.a9.symm e
  have zlt : z < g5.objs.size := Heap.lt_size z5
  show wpAny _ _ (Builtin.SmallTypes.ownedTupleHandOut (.ref z) (.ref g5.objs.size) >>= _) _ _ _; refine wpAny_bind ?_; unfold Builtin.SmallTypes.ownedTupleHandOut
  have z6 : IsZip (g5.push { cls := .type "tuple", data := .seq #[x, y] }) z TI TO .ellipsis := Heap.get?_push_of_some _ z5
  refine wpAny_bind (wpAny_setField_rec z6 (by simp) fun g7 z7 t7 => ?_)
  replace z7 : IsZip g7 z TI TO (rawInt g5.objs.size) := z7
  refine wpAny_setField_rec z7 (by simp) fun g8 z8 t8 => ?_
  replace z8 : IsZip g8 z TI TO (rawInt g5.objs.size) := z8
  have up : ∀ c o, c ≠ z → g5.get? c = some o → g8.get? c = some o := fun c o d e => t8.extBut _ _ d (t7.extBut _ _ d (Heap.get?_push_of_some _ e))
  have T8 : IsPair g8 g5.objs.size x y := t8.extBut _ _ (Nat.ne_of_gt zlt) (t7.extBut _ _ (Nat.ne_of_gt zlt) (Heap.get?_push_size _ rfl))
  have s8 : g8.objs.size = g5.objs.size + 1 := by rw [t8.1, t7.1, Heap.size_push]
  rw [sz] at z8 T8 s8
  refine wpAny_pure ⟨_, rfl, ?_⟩; show Q (.ref g5.objs.size) _; rw [sz]
  exact hQ g8 _ z8 (up _ _ D.a2 TO5) (it1.at fun o e => up _ o D.a3 e) (it2.at fun o e => up _ o D.a4 e) T8 s8 fun c o d1 d2 d3 d4 e => up c o d1 (keep c o d1 d2 d3 d4 e)
theorem zipEnd {Q : Fin → Shared → Prop} (hh : A.handled = none) (D : Apart5 z TI TO i1 i2) (n1 : ∀ c, c = l1 ∨ c = l2 → c ≠ z ∧ c ≠ TO ∧ c ≠ i1 ∧ c ≠ i2)
    (hz : IsZip s.heap z TI TO .none) (hTI : IsPair s.heap TI (.ref i1) (.ref i2)) (hTO : IsPair s.heap TO a b)
    (h1 : ItK s.heap i1 l1 k c1) (h2 : ItK s.heap i2 l2 k c2) (q1 : SqK s.heap l1 xs c1) (q2 : SqK s.heap l2 ys c2) (hend : xs.size = k ∨ (k < xs.size ∧ ys.size = k))
    (hE : ∀ h' e tk, (∀ c o, c ≠ z → c ≠ TO → c ≠ i1 → c ≠ i2 → s.heap.get? c = some o → h'.get? c = some o) → (∃ o, h'.get? e = some o ∧ o.cls = .type "StopIteration") → E (.ref e) { s with heap := h', toks := tk }) :
    wpAny (model prog w) A (Builtin.«zip.__next__» ⟨[.ref z], []⟩) Q E s := by
  obtain ⟨m1, m2, m3, m4⟩ := n1 l1 (.inl rfl)
  obtain ⟨m5, m6, m7, m8⟩ := n1 l2 (.inr rfl)
  have D1 := drawsK (prog := prog) (w := w) hh i1 l1 m3 xs c1
  have D2 := drawsK (prog := prog) (w := w) hh i2 l2 m8 ys c2
  show wpAny _ _ (field (.ref z) 2 >>= _) _ _ _; refine wpAny_bind (wpAny_field hz rfl (x := .bool false) rfl ?_)
  show wpAny _ _ (field (.ref z) 3 >>= _) _ _ _; refine wpAny_bind (wpAny_field hz rfl (x := .ref TI) rfl (wpAny_bind (wpAny_seqItems hTI rfl ?_)))
  show wpAny _ _ (Builtin.SmallTypes.ownedTupleIsFree (.ref z) >>= _) _ _ _; refine wpAny_bind ?_; unfold Builtin.SmallTypes.ownedTupleIsFree
  refine wpAny_bind (wpAny_field hz rfl (x := .none) rfl (wpAny_pure ?_)); simp only [if_true]
  refine wpAny_bind (wpAny_rule (wpAny_bind (wpAny_field hz rfl (x := .ref TO) rfl (wpAny_bind (wpAny_setField_rec hz (by simp) fun g1 z1 t1 => ?_)))))
  replace z1 : IsZip g1 z TI TO .ellipsis := z1
  refine wpAny_bind ?_; simp only [List.zipIdx_cons, List.zipIdx_nil, List.forIn_cons, List.forIn_nil]; refine wpAny_bind (wpAny_bind (wpAny_onRaise ?_))
  show wpAny _ _ (Builtin.SmallTypes.nextOf (.ref i1) >>= _) _ _ _
  have st0 : ItK g1 i1 l1 k c1 ∧ SqK g1 l1 xs c1 := ⟨h1.at fun o e => t1.extBut _ _ D.a3 e, q1.at fun o e => t1.extBut _ _ m1 e⟩
  rcases hend with hk | ⟨kx, hk⟩
  · refine wpAny_bind (D1.done _ _ _ (by rw [hk]; exact st0) fun g2 e t2 he => ?_)
    obtain ⟨oe, e1, e2⟩ := he
    have z2 : IsZip g2 z TI TO .ellipsis := t2 _ _ D.a3.symm z1
    have ez : e ≠ z := fun q => by subst q; rw [z2] at e1; cases e1; simp at e2
    exact wpAny_setField_rec z2 (by simp) fun g3 _ t3 => hE g3 e _ (fun c o d1 _ d3 _ q => t3.extBut _ _ d1 (t2 _ _ d3 (t1.extBut _ _ d1 q))) ⟨oe, t3.extBut _ _ ez e1, e2⟩
  · refine wpAny_bind (D1.item k _ _ _ kx st0 fun x g2 tk2 p1 st1 t2 => wpAny_pure ?_)
    have TO2 : IsPair g2 TO a b := t2.extBut _ _ D.a8 (t1.extBut _ _ D.a2 hTO)
    refine wpAny_bind (wpAny_seqItems TO2 rfl (wpAny_bind (wpAny_updateSeq_pair TO2 fun g3 TO3 t3 => ?_)))
    refine wpAny_bind (wpAny_letGo (wpAny_pure ?_)); refine wpAny_bind (wpAny_bind (wpAny_onRaise ?_)); show wpAny _ _ (Builtin.SmallTypes.nextOf (.ref i2) >>= _) _ _ _
    have st2 : ItK g3 i2 l2 k c2 ∧ SqK g3 l2 ys c2 := ⟨h2.at fun o e => t3.extBut _ _ D.a9.symm (t2.extBut _ _ D.a0.symm (t1.extBut _ _ D.a4 e)), q2.at fun o e => t3.extBut _ _ m6 (t2.extBut _ _ m7 (t1.extBut _ _ m5 e))⟩
    refine wpAny_bind (D2.done _ _ _ (by rw [hk]; exact st2) fun g4 e t4 he => ?_)
    obtain ⟨oe, e1, e2⟩ := he
    have z4 : IsZip g4 z TI TO .ellipsis := t4 _ _ D.a4.symm (t3.extBut _ _ D.a2.symm (t2.extBut _ _ D.a3.symm z1))
    have ez : e ≠ z := fun q => by subst q; rw [z4] at e1; cases e1; simp at e2
    exact wpAny_setField_rec z4 (by simp) fun g5 _ t5 => hE g5 e _ (fun c o d1 d2 d3 d4 q => t5.extBut _ _ d1 (t4 _ _ d4 (t3.extBut _ _ d2 (t2.extBut _ _ d3 (t1.extBut _ _ d1 q))))) ⟨oe, t5.extBut _ _ ez e1, e2⟩
end
end L2
namespace L2
open PySem PySem.Spec PyProof.Rows
def itN : Bool → String
  | true => "list_iterator"
  | false => "tuple_iterator"
abbrev zA (h : Heap) (l1 : Addr) (c1 : Bool) : Heap := h.push { cls := .type (itN c1), data := .fields #[.ref l1, .int 0 0] }
abbrev zB (h : Heap) (l1 l2 : Addr) (c1 c2 : Bool) : Heap := (zA h l1 c1).push { cls := .type (itN c2), data := .fields #[.ref l2, .int 0 0] }
abbrev zC (h : Heap) (l1 l2 : Addr) (c1 c2 : Bool) : Heap := (zB h l1 l2 c1 c2).push { cls := .type "tuple", data := .seq #[.ref h.objs.size, .ref (zA h l1 c1).objs.size] }
abbrev zD (h : Heap) (l1 l2 : Addr) (c1 c2 : Bool) : Heap := (zC h l1 l2 c1 c2).push { cls := .type "tuple", data := .seq #[.none, .none] }
abbrev zE (h : Heap) (l1 l2 : Addr) (c1 c2 : Bool) : Heap := (zD h l1 l2 c1 c2).push { cls := .type "zip", data := .fields #[.none, .bool false, .bool false, .ref (zB h l1 l2 c1 c2).objs.size, .ref (zC h l1 l2 c1 c2).objs.size] }
set_option maxHeartbeats 8000000 in
theorem zipNew (l1 l2 : Addr) (xs ys : Array Value) (c1 c2 : Bool) :
    Meets (Builtin.«zip.__new__» ⟨[.type "zip", .ref l1, .ref l2], []⟩) (fun _ R s => SqK s.heap l1 xs c1 ∧ SqK s.heap l2 ys c2 ∧ R (.ok (.ret (.ref (zD s.heap l1 l2 c1 c2).objs.size))) { s with heap := zE s.heap l1 l2 c1 c2 }) :=
  .of_wp fun prog w A R s h => by
    obtain ⟨hp, g, d, tk, os⟩ := s; obtain ⟨q1, q2, h⟩ := h
    have hsub := sub_zip
    have L2' : SqK (Shared.heap ⟨zA hp l1 c1, g, d, tk, os⟩) l2 ys c2 := SqK.at q2 fun o e => Heap.get?_push_of_some _ e
    cases c1 <;> cases c2
    · have g1 : Heap.IsTuple (Shared.heap ⟨hp, g, d, tk, os⟩) l1 xs := q1
      have g2 : Heap.IsTuple (Shared.heap ⟨hp.push { cls := .type "tuple_iterator", data := .fields #[.ref l1, .int 0 0] }, g, d, tk, os⟩) l2 ys := L2'
      wp_walk using wpAny_pyIter_tuple g1, wpAny_pyIter_tuple g2
      exact ⟨_, rfl, h⟩
    · have g1 : Heap.IsTuple (Shared.heap ⟨hp, g, d, tk, os⟩) l1 xs := q1
      have g2 : Heap.IsList (Shared.heap ⟨hp.push { cls := .type "tuple_iterator", data := .fields #[.ref l1, .int 0 0] }, g, d, tk, os⟩) l2 ys := L2'
      wp_walk using wpAny_pyIter_tuple g1, wpAny_pyIter_list g2
      exact ⟨_, rfl, h⟩
    · have g1 : Heap.IsList (Shared.heap ⟨hp, g, d, tk, os⟩) l1 xs := q1
      have g2 : Heap.IsTuple (Shared.heap ⟨hp.push { cls := .type "list_iterator", data := .fields #[.ref l1, .int 0 0] }, g, d, tk, os⟩) l2 ys := L2'
      wp_walk using wpAny_pyIter_list g1, wpAny_pyIter_tuple g2
      exact ⟨_, rfl, h⟩
    · have g1 : Heap.IsList (Shared.heap ⟨hp, g, d, tk, os⟩) l1 xs := q1
      have g2 : Heap.IsList (Shared.heap ⟨hp.push { cls := .type "list_iterator", data := .fields #[.ref l1, .int 0 0] }, g, d, tk, os⟩) l2 ys := L2'
      wp_walk using wpAny_pyIter_list g1, wpAny_pyIter_list g2
      exact ⟨_, rfl, h⟩
theorem itK_new {h : Heap} {it l : Addr} : ∀ {c : Bool}, h.get? it = some { cls := .type (itN c), data := .fields #[.ref l, .int 0 0] } → ItK h it l 0 c
  | true, e => ⟨_, e, rfl, rfl⟩
  | false, e => ⟨_, e, rfl, rfl⟩
section
variable {prog : Program} {w : World} {A : Around} {E : Value → Shared → Prop} {s : Shared}
theorem call_zipK {l1 l2 : Addr} {xs ys : Array Value} {c1 c2 : Bool} {Q : Value → Shared → Prop} (q1 : SqK s.heap l1 xs c1) (q2 : SqK s.heap l2 ys c2)
    (h : ∀ h', IsZip h' (s.heap.objs.size + 4) (s.heap.objs.size + 2) (s.heap.objs.size + 3) .none → IsPair h' (s.heap.objs.size + 2) (.ref s.heap.objs.size) (.ref (s.heap.objs.size + 1)) →
      IsPair h' (s.heap.objs.size + 3) .none .none → ItK h' s.heap.objs.size l1 0 c1 → ItK h' (s.heap.objs.size + 1) l2 0 c2 →
      (∀ c o, s.heap.get? c = some o → h'.get? c = some o) → Q (.ref (s.heap.objs.size + 4)) { s with heap := h' }) :
    wpAny (model prog w) A (call (.type "zip") [.ref l1, .ref l2]) Q E s := by
  refine callType_new F.called_zip (by decide) (F.typeCall_zip_2 _ _) (F.newCall_zip_2 _ _) (fun obj => F.args_object_init_3 obj _ _) F.entry_zip_new (zipNew l1 l2 xs ys c1 c2) ⟨q1, q2, ?_⟩
  have s1 : (zA s.heap l1 c1).objs.size = s.heap.objs.size + 1 := Heap.size_push ..
  have s2 : (zB s.heap l1 l2 c1 c2).objs.size = s.heap.objs.size + 2 := by rw [Heap.size_push, s1]
  have s3 : (zC s.heap l1 l2 c1 c2).objs.size = s.heap.objs.size + 3 := by rw [Heap.size_push, s2]
  have s4 : (zD s.heap l1 l2 c1 c2).objs.size = s.heap.objs.size + 4 := by rw [Heap.size_push, s3]
  have g5 : (zE s.heap l1 l2 c1 c2).get? (zD s.heap l1 l2 c1 c2).objs.size = some _ := Heap.get?_push_size _ rfl
  have g4 : (zE s.heap l1 l2 c1 c2).get? (zC s.heap l1 l2 c1 c2).objs.size = some _ := Heap.get?_push_of_some _ (Heap.get?_push_size _ rfl)
  have g3 : (zE s.heap l1 l2 c1 c2).get? (zB s.heap l1 l2 c1 c2).objs.size = some _ := Heap.get?_push_of_some _ (Heap.get?_push_of_some _ (Heap.get?_push_size _ rfl))
  have g2 : (zE s.heap l1 l2 c1 c2).get? (zA s.heap l1 c1).objs.size = some _ := Heap.get?_push_of_some _ (Heap.get?_push_of_some _ (Heap.get?_push_of_some _ (Heap.get?_push_size _ rfl)))
  have g1 : (zE s.heap l1 l2 c1 c2).get? s.heap.objs.size = some _ := Heap.get?_push_of_some _ (Heap.get?_push_of_some _ (Heap.get?_push_of_some _ (Heap.get?_push_of_some _ (Heap.get?_push_size _ rfl))))
  show _ ∧ _
  rw [s2, s3, s4] at g5
  rw [s1, s2] at g3
  rw [s3] at g4
  rw [s1] at g2
  rw [s4]
  exact ⟨⟨_, g5, rfl⟩, h _ g5 g3 g4 (itK_new g1) (itK_new g2) fun c o x => Heap.get?_push_of_some _ (Heap.get?_push_of_some _ (Heap.get?_push_of_some _ (Heap.get?_push_of_some _ (Heap.get?_push_of_some _ x))))⟩
theorem pyNext_zipItem {z TI TO i1 i2 l1 l2 : Addr} {k : Nat} {xs ys : Array Value} {a b x y : Value} {c1 c2 : Bool} {Q : Option Value → Shared → Prop} (D : Apart5 z TI TO i1 i2) (n1 : ∀ c, c = l1 ∨ c = l2 → c ≠ z ∧ c ≠ TO ∧ c ≠ i1 ∧ c ≠ i2)
    (hz : IsZip s.heap z TI TO .none) (hTI : IsPair s.heap TI (.ref i1) (.ref i2)) (hTO : IsPair s.heap TO a b) (hh : A.handled = none)
    (h1 : ItK s.heap i1 l1 k c1) (h2 : ItK s.heap i2 l2 k c2) (q1 : SqK s.heap l1 xs c1) (q2 : SqK s.heap l2 ys c2) (hx : xs[k]? = some x) (hy : ys[k]? = some y)
    (hQ : ∀ h' tk, IsZip h' z TI TO (rawInt s.heap.objs.size) → IsPair h' TO x y → ItK h' i1 l1 (k + 1) c1 → ItK h' i2 l2 (k + 1) c2 → IsPair h' s.heap.objs.size x y → h'.objs.size = s.heap.objs.size + 1 →
      (∀ c o, c ≠ z → c ≠ TO → c ≠ i1 → c ≠ i2 → s.heap.get? c = some o → h'.get? c = some o) → Q (some (.ref s.heap.objs.size)) { s with heap := h', toks := tk }) :
    wpAny (model prog w) A (pyNext (.ref z)) Q E s := by
  have hT : s.TypeIs (.ref z) "zip" := ⟨_, hz, rfl⟩
  unfold pyNext
  exact wpAny_bind (wpAny_attempt (wpAny_callSpecial?_slot (name := Str.ofString "__next__") hT F.slot_zip_next (wpAny_call_entry F.slot_zip_next hT F.entry_zip_next
    (zipItem D n1 hz hTI hTO hh h1 h2 q1 q2 hx hy fun h' tk a1 a2 a3 a4 a5 a6 a7 => wpAny_pure (hQ h' tk a1 a2 a3 a4 a5 a6 a7)) (F.args_zip_next_1 _))))
theorem pyNext_zipEnd {z TI TO i1 i2 l1 l2 : Addr} {k : Nat} {xs ys : Array Value} {a b : Value} {c1 c2 : Bool} {Q : Option Value → Shared → Prop} (hh : A.handled = none) (D : Apart5 z TI TO i1 i2) (n1 : ∀ c, c = l1 ∨ c = l2 → c ≠ z ∧ c ≠ TO ∧ c ≠ i1 ∧ c ≠ i2)
    (hz : IsZip s.heap z TI TO .none) (hTI : IsPair s.heap TI (.ref i1) (.ref i2)) (hTO : IsPair s.heap TO a b)
    (h1 : ItK s.heap i1 l1 k c1) (h2 : ItK s.heap i2 l2 k c2) (q1 : SqK s.heap l1 xs c1) (q2 : SqK s.heap l2 ys c2) (hend : xs.size = k ∨ (k < xs.size ∧ ys.size = k))
    (hQ : ∀ h' tk, (∀ c o, c ≠ z → c ≠ TO → c ≠ i1 → c ≠ i2 → s.heap.get? c = some o → h'.get? c = some o) → Q none { s with heap := h', toks := tk }) : wpAny (model prog w) A (pyNext (.ref z)) Q E s := by
  have hT : s.TypeIs (.ref z) "zip" := ⟨_, hz, rfl⟩
  unfold pyNext
  refine wpAny_bind (wpAny_attempt (wpAny_callSpecial?_slot (name := Str.ofString "__next__") hT F.slot_zip_next (wpAny_call_entry F.slot_zip_next hT F.entry_zip_next
    (zipEnd hh D n1 hz hTI hTO h1 h2 q1 q2 hend fun h' e tk hk he => ?_) (F.args_zip_next_1 _))))
  obtain ⟨o, ho, hc⟩ := he
  refine wpAny_bind (wpAny_isInstance (T := "StopIteration") (b := true) ⟨o, ho, hc⟩ isSubtype_stop (wpAny_pure (hQ _ tk hk)))
end
theorem Inv.turnedL {X : Cx} {pins : List (Addr × Obj)} {σ : St} {H : Hp} {s : Shared} {h' : Heap} {t' : Nat} {ch : List Addr} (I : Inv X pins σ H s) (hf : ∀ b ∈ ch, FpOk X pins H b) (k : ∀ b u, b ∉ ch → s.heap.get? b = some u → h'.get? b = some u) :
    Inv X pins σ H { s with heap := h', toks := t' } := by
  refine I.step (g' := s.gens) (d' := s.drawn) (ch := ch) (fun b hb => ?_) (fun b o _ _ hc e _ => k b o hc e) (fun b o _ _ hc e _ => ⟨o.slots, k b o hc e⟩) (fun _ _ _ _ n => n)
    (fun b o hc e => ⟨o, k b o hc e⟩) (fun _ _ e => e) (fun _ _ _ e => e) (fun b ps e => ⟨#[], by rw [e]; simp⟩) (fun m hm => ?_) (fun b u e => ?_) I.bare
  · obtain ⟨f0, f1, f2, f3, f4, f5⟩ := hf b hb
    exact ⟨f3, f1, f4, f5⟩
  · obtain ⟨o, es, ep, ho, r⟩ := hm
    exact ⟨o, es, ep, k _ o (fun z => (hf _ z).2.1 rfl) ho, r⟩
  · refine (I.hok b u e).stay (fun c v hc q => k c v (fun z => ?_) q) (fun _ q => q) fun _ _ q => q
    have hcn := (hf c z).1
    rcases hc with rfl | hc
    · rw [e] at hcn; cases hcn
    · rw [hc] at hcn; cases hcn
def SqC (K : PySem.W.Frag) (H : Hp) (a : Addr) (xs : List V) : Bool → Prop
  | true => SqL K H a xs
  | false => SqT K H a xs
theorem Inv.seqC {X : Cx} {pins : List (Addr × Obj)} {σ : St} {H : Hp} {s : Shared} {a : Addr} {xs : List V} (I : Inv X pins σ H s) : ∀ {c : Bool}, SqC X.K H a xs c → ∃ its : List Value, Vals xs its ∧ SqK s.heap a its.toArray c
  | true, q => let ⟨its, rv, p, _⟩ := I.list q; ⟨its, rv, p.isList⟩
  | false, q => let ⟨its, rv, p, _⟩ := I.tuple q; ⟨its, rv, p⟩
theorem Inv.seqC_inj {X : Cx} {pins : List (Addr × Obj)} {σ : St} {H : Hp} {s : Shared} {a : Addr} {xs ys : List V} (I : Inv X pins σ H s) : ∀ {c : Bool}, SqC X.K H a xs c → SqC X.K H a ys c → xs = ys
  | true, p, q => I.list_inj p q
  | false, p, q => I.tuple_inj p q
def Itz (K : PySem.W.Frag) (a1 a2 : Addr) (c1 c2 : Bool) : It :=
  ⟨fun i H => Ex4 fun xs ys x y => SqC K H a1 xs c1 ∧ SqC K H a2 ys c2 ∧ xs[i]? = some x ∧ ys[i]? = some y,
   fun i H v H' => Ex3 fun T x y => H T = none ∧ v = .ref T ∧ H' = upd H T (.tup [x, y]) ∧ (∀ xs, SqC K H a1 xs c1 → xs[i]? = some x) ∧ (∀ ys, SqC K H a2 ys c2 → ys[i]? = some y),
   fun i H => Ex2 fun xs ys => SqC K H a1 xs c1 ∧ SqC K H a2 ys c2 ∧ (xs.length = i ∨ (i < xs.length ∧ ys.length = i))⟩
theorem turn_zip {P : Program} {w : World} {K : PySem.W.Frag} {es : List Expr} {kk : Nat} {pos : Pos} (a1 a2 z TI TO i1 i2 : Addr) (c1 c2 : Bool) (D : Apart5 z TI TO i1 i2) (n1 : ∀ c, c = a1 ∨ c = a2 → c ≠ z ∧ c ≠ TO ∧ c ≠ i1 ∧ c ≠ i2) :
    Turn P w K (.Tuple es kk pos) (Itz K a1 a2 c1 c2) [z, TO, i1, i2, TI] z (fun i h => IsZip h z TI TO .none ∧ IsPair h TI (.ref i1) (.ref i2) ∧ (Ex2 fun a b => IsPair h TO a b) ∧ ItK h i1 a1 i c1 ∧ ItK h i2 a2 i c2) where
  mem := by simp
  obj := fun i h st b hb => by
    obtain ⟨hz, hTI, ⟨a, b', hTO⟩, h1, h2⟩ := st
    have hb' : b = z ∨ b = TO ∨ b = i1 ∨ b = i2 ∨ b = TI := by simpa using hb
    rcases hb' with rfl | rfl | rfl | rfl | rfl
    · exact ⟨_, hz, fun v q => by have q' : Data.fields _ = Data.cell v := q; cases q'⟩
    · exact ⟨_, hTO, fun v q => by have q' : Data.seq _ _ = Data.cell v := q; cases q'⟩
    · exact h1.some
    · exact h2.some
    · exact ⟨_, hTI, fun v q => by have q' : Data.seq _ _ = Data.cell v := q; cases q'⟩
  keep := fun i h h' st k => by
    obtain ⟨hz, hTI, ⟨a, b', hTO⟩, h1, h2⟩ := st
    exact ⟨k z (by simp) _ hz, k TI (by simp) _ hTI, ⟨a, b', k TO (by simp) _ hTO⟩, h1.at fun o q => k i1 (by simp) o q, h2.at fun o q => k i2 (by simp) o q⟩
  item := by
    intro X hP hw hK hc i pins s σ H E I hf st hg
    subst hP hw hK
    obtain ⟨hz, hTI, ⟨a, b', hTO⟩, h1, h2⟩ := st
    obtain ⟨xs, ys, x, y, p1, p2, hx, hy⟩ := hg
    obtain ⟨its1, rv1, k1⟩ := I.seqC p1
    obtain ⟨its2, rv2, k2⟩ := I.seqC p2
    obtain ⟨u, hu, ru⟩ := rv1.get hx
    obtain ⟨v, hv, rw'⟩ := rv2.get hy
    have hnT : H s.heap.objs.size = none := I.fresh
    refine pyNext_zipItem D n1 hz hTI hTO (I.ok.hd hc) h1 h2 k1 k2 (x := u) (y := v) (by simpa using hu) (by simpa using hv) fun h' tk zo TO' t1 t2 T' sz keep => ?_
    refine ⟨_, rfl, wpAny_letOwnedTupleGo_zip (s := { s with heap := h', toks := tk }) zo fun h2' z2 s2 => ?_⟩
    have zlt : z < s.heap.objs.size := Heap.lt_size hz
    have TOlt : TO < s.heap.objs.size := Heap.lt_size hTO
    have TIlt : TI < s.heap.objs.size := Heap.lt_size hTI
    have i1lt : i1 < s.heap.objs.size := let ⟨_, e, _⟩ := h1.some; Heap.lt_size e
    have i2lt : i2 < s.heap.objs.size := let ⟨_, e, _⟩ := h2.some; Heap.lt_size e
    have hT2 : h2'.get? s.heap.objs.size = some { cls := .type "tuple", data := .seq #[u, v] } := (s2.2 _ (Nat.ne_of_gt zlt)).trans T'
    refine ⟨.ref s.heap.objs.size, upd H s.heap.objs.size (.tup [x, y]), I.turnedNew (ch := [z, TO, i1, i2, TI]) (t' := tk) hf (fun b o hb q => ?_) (Nat.le_refl _) ?_, rfl,
      ⟨_, x, y, hnT, rfl, rfl, fun zs hs => by rw [I.seqC_inj hs p1]; exact hx, fun zs hs => by rw [I.seqC_inj hs p2]; exact hy⟩, ⟨z2, (s2.2 _ D.a1).trans (keep _ _ D.a1 D.a5 D.a6 D.a7 hTI), ⟨_, _, (s2.2 _ D.a2).trans TO'⟩, t1.at fun o e => (s2.2 _ D.a3).trans e, t2.at fun o e => (s2.2 _ D.a4).trans e⟩, fun b hb => ?_⟩
    · have e1 : b ≠ z := fun q => hb (by simp [q])
      have e2 : b ≠ TO := fun q => hb (by simp [q])
      have e3 : b ≠ i1 := fun q => hb (by simp [q])
      have e4 : b ≠ i2 := fun q => hb (by simp [q])
      exact (s2.2 b e1).trans (keep b o e1 e2 e3 e4 q)
    · exact ⟨by show 2 ≤ sizeLine; decide, [u, v], .cons ru (.cons rw' .nil), ⟨_, hT2, rfl, _, rfl⟩, _, hT2, rfl⟩
    · have hb' : b = z ∨ b = TO ∨ b = i1 ∨ b = i2 ∨ b = TI := by simpa using hb
      have hlt : b < s.heap.objs.size := by rcases hb' with rfl | rfl | rfl | rfl | rfl <;> assumption
      rw [upd_ne (Nat.ne_of_lt hlt)]
      exact (hf b hb).1
  done := by
    intro X hP hw hK hc i pins s σ H E I hf st hg
    subst hP hw hK
    obtain ⟨hz, hTI, ⟨a, b', hTO⟩, h1, h2⟩ := st
    obtain ⟨xs, ys, p1, p2, hl⟩ := hg
    obtain ⟨its1, rv1, k1⟩ := I.seqC p1
    obtain ⟨its2, rv2, k2⟩ := I.seqC p2
    have l1 := rv1.length
    have l2 := rv2.length
    refine pyNext_zipEnd (I.ok.hd hc) D n1 hz hTI hTO h1 h2 k1 k2 (by simp; trivial) fun h' tk keep => ⟨rfl, I.turnedL (ch := [z, TO, i1, i2, TI]) (t' := tk) hf fun b o hb q => ?_⟩
    exact keep b o (fun q => hb (by simp [q])) (fun q => hb (by simp [q])) (fun q => hb (by simp [q])) (fun q => hb (by simp [q])) q
  self := fun _ _ _ _ _ st h => wpAny_pyIter_zip st.1 h
def iZip (K : PySem.W.Frag) (ta : TA) : TI := fun σ H R => ta σ H fun vs H1 => Ex4 fun a1 a2 c1 c2 => vs = [.ref a1, .ref a2] ∧ (∃ xs, SqC K H1 a1 xs c1) ∧ (∃ ys, SqC K H1 a2 ys c2) ∧ R (Itz K a1 a2 c1 c2) H1
theorem boot_zip : bootBuiltins "zip" = some (.type "zip") := by decide +kernel
theorem pi_zip {X : Cx} {es : List Expr} {kk : Nat} {tp : Pos} {a b : Expr} {ta : TA} {p pos : Pos} (hg : Gl X "zip") (hm : X.mg "zip" = none) (ha : PA X [a, b] ta) (hs : starEach [a, b] X.env = [(false, eval a X.env), (false, eval b X.env)] := by rfl) (hs2 : starEach [b] X.env = [(false, eval b X.env)] := by rfl) :
    PI X (.Tuple es kk tp) (.Call (.Name "zip" p) [a, b] [] pos) (iZip X.K ta) := by
  intro pins s σ H R I h
  refine Call_ (ld_blt I hg hm boot_zip (PyProof.Rows.callWith_type1 (thn (ha pos pins s σ H _ I h) fun us s1 ⟨vs, H1, I1, r1, q1⟩ => ?_) (by rw [hs, hs2]) (by rw [hs2]; rfl)))
  obtain ⟨a1, a2, c1, c2, rfl, ⟨xs, p1⟩, ⟨ys, p2⟩, q⟩ := q1
  obtain ⟨u1, u2, rfl, ru1, ru2⟩ := r1.two
  obtain rfl : u1 = .ref a1 := ru1
  obtain rfl : u2 = .ref a2 := ru2
  obtain ⟨its1, rv1, k1⟩ := I1.seqC p1
  obtain ⟨its2, rv2, k2⟩ := I1.seqC p2
  have d1 := k1.lt
  have d2 := k2.lt
  refine call_zipK k1 k2 fun h' hz hTI hTO t1 t2 hk => wpAny_pyIter_zip hz ?_
  have I2 : Inv X pins σ H1 { s1 with heap := h', toks := s1.toks } := I1.kept hk
  refine ⟨s1.heap.objs.size + 4, [s1.heap.objs.size + 4, s1.heap.objs.size + 3, s1.heap.objs.size, s1.heap.objs.size + 1, s1.heap.objs.size + 2], _, _, H1, rfl, I2, turn_zip a1 a2 (s1.heap.objs.size + 4) (s1.heap.objs.size + 2) (s1.heap.objs.size + 3) s1.heap.objs.size (s1.heap.objs.size + 1) c1 c2
    ⟨by simp, by simp, Nat.ne_of_lt (by simp), by simp, by simp, Nat.ne_of_gt (by simp), by simp, Nat.ne_of_gt (by simp), by simp, Nat.ne_of_lt (by simp)⟩ (fun c hc => ?_), ⟨hz, hTI, ⟨_, _, hTO⟩, t1, t2⟩, fun b hb => ?_, q⟩
  · have : c < s1.heap.objs.size := by rcases hc with rfl | rfl <;> assumption
    exact ⟨Nat.ne_of_lt (Nat.lt_of_lt_of_le this (Nat.le_add_right _ _)), Nat.ne_of_lt (Nat.lt_of_lt_of_le this (Nat.le_add_right _ _)), Nat.ne_of_lt this, Nat.ne_of_lt (Nat.lt_of_lt_of_le this (Nat.le_add_right _ _))⟩
  · have hb' : b = s1.heap.objs.size + 4 ∨ b = s1.heap.objs.size + 3 ∨ b = s1.heap.objs.size ∨ b = s1.heap.objs.size + 1 ∨ b = s1.heap.objs.size + 2 := by simpa using hb
    have hle : s1.heap.objs.size ≤ b := by rcases hb' with rfl | rfl | rfl | rfl | rfl <;> trivial
    exact I1.fpOk hle (I1.hok.fresh hle)
end L2
namespace L2
open PySem PySem.Spec PyProof.Rows
def isSeqB : PyData → Bool
  | .list _ => true
  | .tuple _ => true
  | _ => false
theorem kitAny_seq {K : PySem.W.Frag} (d : PyData) : PySem.W.kitAny K (.type (tyN d)) [.type "list", .type "tuple"] = some (isSeqB d) := by
  unfold PySem.W.kitAny PySem.W.kitAny PySem.W.kitAny
  rw [kit_list, kit_tuple]
  cases d <;> rfl
inductive rIsiT_ (K : PySem.W.Frag) (xs : List V) (H : Hp) (Q : VK) : Prop
  | mk (x : V) (p : Addr) (d : PyData) (E : Addr → Prop) (h0 : xs = [x, .ref p]) (h1 : IsD E H x d) (h2 : SqT K H p [.ty "list", .ty "tuple"]) (h3 : Q (.bl (isSeqB d)) H)
def rIsiT (K : PySem.W.Frag) : List V → Hp → VK → Prop := fun xs H Q => rIsiT_ K xs H Q
section
variable {X : Cx} {K : PySem.W.Frag}
theorem call_isinstT : CallR X (.builtin "isinstance") (rIsiT X.K) := by
  intro pins s σ H xs us Q I r h
  obtain ⟨x, p, d, E, rfl, hx, hp, q⟩ := h
  obtain ⟨u, c, rfl, ru, rc⟩ := r.two
  obtain rfl : c = Value.ref p := rc
  obtain ⟨its, rv, ⟨o, e1, e2, n, e3⟩, _⟩ := I.tuple hp
  obtain ⟨u1, u2, rfl, r1, r2⟩ := rv.two
  obtain rfl : u1 = Value.type "list" := r1
  obtain rfl : u2 = Value.type "tuple" := r2
  have q' : ∀ tk, EP X pins σ Q (.bool (isSeqB d)) { s with toks := tk } := fun tk => ⟨.bl _, H, I.tok tk, rfl, q⟩
  obtain ⟨oc, od, odt, osl⟩ := o
  dsimp only at e2 e3
  subst e2 e3
  cases hx with
  | non => cases (show u = Value.none from ru); exact PySem.W.kia_tup PySem.W.kitx_none I.kIn True.intro e1 (kitAny_seq .none) (fun z => nomatch z) q'
  | bl y => cases (show u = Value.bool y from ru); exact PySem.W.kia_tup PySem.W.kitx_bool I.kIn True.intro e1 (kitAny_seq (.bool y)) (fun z => nomatch z) q'
  | int i => obtain ⟨t, w⟩ := (show ∃ t, u = Value.int i t from ru); cases w; exact PySem.W.kia_tup PySem.W.kitx_int I.kIn True.intro e1 (kitAny_seq (.int i)) (fun z => nomatch z) q'
  | str y => obtain ⟨t, w⟩ := (show ∃ t, u = Value.str y t from ru); cases w; exact PySem.W.kia_tup PySem.W.kitx_str I.kIn True.intro e1 (kitAny_seq (.str y)) (fun z => nomatch z) q'
  | @lst a xs ds ea _ _ =>
    cases (show u = Value.ref a from ru)
    obtain ⟨_, _, m, _, h1⟩ := (show ObjOk X.prog X.w H s.heap a (.lst xs) from I.hok a _ ea)
    exact PySem.W.kia_tup PySem.W.kitx_list I.kIn ⟨_, h1, rfl⟩ e1 (kitAny_seq (.list ds)) (fun z => nomatch z) q'
  | @tup a xs ds ea _ =>
    cases (show u = Value.ref a from ru)
    obtain ⟨_, _, _, p, _⟩ := (show ObjOk X.prog X.w H s.heap a (.tup xs) from I.hok a _ ea)
    obtain ⟨o, h1, h2, _⟩ := p
    exact PySem.W.kia_tup PySem.W.kitx_tuple I.kIn ⟨o, h1, h2⟩ e1 (kitAny_seq (.tuple ds)) (fun z => nomatch z) q'
theorem isinstT_k (e : X.K = K := by rfl) : CallR X (.builtin "isinstance") (rIsiT K) := by subst e; exact call_isinstT
end
def Sz (m : Nat) (i : Int) : Prop := i.natAbs < 2 ^ m
theorem Sz.mono {m n : Nat} {i : Int} (h : Sz m i) (k : m ≤ n) : Sz n i := Nat.lt_of_lt_of_le h (Nat.pow_le_pow_right (by decide) k)
theorem Sz.mul {m n : Nat} {i j : Int} (h : Sz m i) (k : Sz n j) : Sz (m + n) (i * j) := by
  unfold Sz at *
  rw [Int.natAbs_mul, Nat.pow_add]
  exact Nat.mul_lt_mul'' h k
theorem Sz.add {m : Nat} {i j : Int} (h : Sz m i) (k : Sz m j) : Sz (m + 1) (i + j) := by
  unfold Sz at *
  rw [Nat.pow_succ]
  trivial
theorem Sz.neg {m : Nat} {i : Int} (h : Sz m i) : Sz m (-i) := by
  unfold Sz at *
  trivial
theorem Sz.le {m : Nat} {i j : Int} (h : Sz m j) (k : i.natAbs ≤ j.natAbs) : Sz m i := Nat.lt_of_le_of_lt k h
theorem Sz.log {m : Nat} {i : Int} (h : Sz m i) (h0 : i ≠ 0) : i.natAbs.log2 < m := (Nat.log2_lt (by trivial)).mpr h
theorem Sz.bits {m : Nat} {i : Int} (h : Sz m i) : Builtin.Int.intBits i ≤ m := by
  unfold Builtin.Int.intBits
  by_cases h0 : i = 0
  · subst h0; exact Nat.zero_le _
  · have := h.log h0
    rw [if_neg (by simpa using h0)]
    trivial
def CMulB (i j : Int) : Prop := Ex2 fun m n => Sz m i ∧ Sz n j ∧ m + n ≤ 134217728
section
variable {X : Cx}
theorem op_mulB : OpR X (binaryOp .Mult) (rI CMulB fun i j => .int (i * j)) := opI fun _ _ _ _ _ _ _ hc q => by
  obtain ⟨m, n, h1, h2, h3⟩ := hc
  exact mul_int q (PyProof.Rows.mulOk_of_bits h1.bits h2.bits h3)
def CDivS (_ j : Int) : Prop := j ≠ 0 ∧ Sz 9000 j
theorem op_fdivS : OpR X (binaryOp .FloorDiv) (rI CDivS fun i j => .int (i.fdiv j)) := opI fun i j _ _ _ _ _ hc q =>
  floordiv_int hc.1 q (.inl (PyProof.noPylong_of_log2 (hc.2.log hc.1)))
end
end L2
namespace L2
open PySem PySem.Spec PyProof.Rows
def Dp : Nat → PyData → Prop
  | 0, _ => False
  | n + 1, .list xs => xs.length ≤ 1000 ∧ ∀ x ∈ xs, Dp n x
  | n + 1, .tuple xs => xs.length ≤ 1000 ∧ ∀ x ∈ xs, Dp n x
  | _ + 1, _ => True
inductive spLike_ (n : Nat) (vs : List V) (H : Hp) (Q : VK) : Prop
  | mk (x y : V) (d : PyData) (E : Addr → Prop) (h0 : vs = [x, y]) (h1 : IsD E H x d) (h2 : IsD E H y d) (h3 : Dp n d) (h4 : ∀ H', Same H H' → Q (.bl true) H')
def spLike (n : Nat) : Sp := fun vs H Q _ => spLike_ n vs H Q
theorem same_lst {H H' : Hp} {D : Addr} {o : HO} (hD : H D = none) (k : Same H H') : Same H (upd H' D o) := fun b u e => by
  rw [upd_ne (ne_of_none e hD)]; exact k b u e
theorem IsAll.nth {E : Addr → Prop} {H : Hp} {vs : List V} {ds : List PyData} (r : IsAll E H vs ds) (i : Nat) {v : V} {d : PyData} (hv : vs[i]? = some v) (hd : ds[i]? = some d) : IsD E H v d := by
  obtain ⟨d', e, h⟩ := r.get hv
  rw [hd] at e
  cases e
  exact h
theorem SameE.free {b p : Addr} {H H9 : Hp} {t9 : Int} (s : SameE (Eb b) H H9) (B : Bx H9 b t9) (h : H9 p = none) : H p = none := by
  cases e : H p with
  | none => rfl
  | some o =>
    by_cases hb : p = b
    · obtain ⟨c, x, eb, _⟩ := B
      rw [← hb, h] at eb; cases eb
    · rw [s.old p o hb e] at h; cases h
mutual
theorem IsD.narrow {E F : Addr → Prop} {H : Hp} (k : ∀ a, F a → E a) : ∀ {v : V} {d : PyData}, IsD E H v d → IsD F H v d
  | _, _, .non => .non
  | _, _, .bl b => .bl b
  | _, _, .int i => .int i
  | _, _, .str x => .str x
  | _, _, .lst h ne r => .lst h (fun z => ne (k _ z)) (IsAll.narrow k r)
  | _, _, .tup h r => .tup h (IsAll.narrow k r)
theorem IsAll.narrow {E F : Addr → Prop} {H : Hp} (k : ∀ a, F a → E a) : ∀ {vs : List V} {ds : List PyData}, IsAll E H vs ds → IsAll F H vs ds
  | _, _, .nil => .nil
  | _, _, .cons h r => .cons (IsD.narrow k h) (IsAll.narrow k r)
end
theorem ok_same {Q : VK} {H : Hp} {x : V} (h : Q (.bl true) H) : Q (.bl (decide (x = x))) H := by rw [decide_eq_true rfl]; exact h
theorem all_rep (n : Nat) : (List.replicate n true).all id = true := by
  induction n with
  | zero => rfl
  | succ n ih => rw [List.replicate_succ, List.all_cons, ih]; rfl
theorem rep_snoc (n : Nat) : (List.replicate n true).map V.bl ++ [V.bl true] = (List.replicate (n + 1) true).map V.bl := by
  rw [List.replicate_succ', List.map_append]; rfl
def LikeP (H1 : Hp) (D : Addr) (i : Nat) (H' : Hp) (ys : List V) : Prop := ys = (List.replicate i true).map V.bl ∧ H' D = some (.lst ys) ∧ Same H1 H'
theorem iteSame {x : V} {A B : Prop} (h : B) : if (!decide (x = x)) = true then A else B := by rw [decide_eq_true rfl]; exact iteF h
theorem iteEq {x : V} {A B : Prop} (h : A) : if decide (x = x) = true then A else B := by rw [decide_eq_true rfl]; exact iteT h
end L2
namespace L2
open PySem PySem.Spec PyProof.Rows
abbrev fr (z : Int × Int) : HO := .tup [.int z.1, .int z.2]
abbrev nAdd (n1 d1 n2 d2 : Int) : Int := n1 * d2 + n2 * d1
abbrev nTim (n1 _ n2 _ : Int) : Int := n1 * n2
abbrev nOvr (n1 _ _ d2 : Int) : Int := n1 * d2
abbrev dAdd (_ d1 _ d2 : Int) : Int := d1 * d2
abbrev dOvr (_ d1 n2 _ : Int) : Int := d1 * n2
def cmpI (i j : Int) : Int := if i < j then -1 else if j < i then 1 else 0
inductive spCmp_ (vs : List V) (H : Hp) (Q : VK) : Prop
  | mk (a b : Addr) (n1 d1 n2 d2 : Int) (h0 : vs = [.ref a, .ref b]) (h1 : H a = some (.tup [.int n1, .int d1])) (h2 : H b = some (.tup [.int n2, .int d2])) (h3 : Sz 4000 n1) (h4 : Sz 4000 d1) (h5 : Sz 4000 n2) (h6 : Sz 4000 d2) (h7 : Q (.int (cmpI (n1 * d2) (n2 * d1))) H)
def spCmp : Sp := fun vs H Q _ => spCmp_  vs H Q
theorem mulS {i j : Int} (h1 : Sz 4000 i) (h2 : Sz 4000 j) : CMulB i j := ⟨4000, 4000, h1, h2, by decide⟩
theorem mulS9 {i j : Int} (h1 : Sz 4000 i) (h2 : Sz 4000 j) : Sz 9000 (i * j) := (h1.mul h2).mono (by decide)
theorem gcdS {n d : Int} (hd : d ≠ 0) (h : Sz 9000 d) : Sz 9000 ((Int.gcd n d : Nat) : Int) := h.le (by
  rw [Int.natAbs_natCast]
  exact Nat.le_of_dvd (by trivial) (Int.ofNat_dvd_left.mp (Int.gcd_dvd_right ..)))
structure Fb (b : Nat) (n d : Int) : Prop where
  sn : Sz b n
  sd : Sz b d
  pos : 1 ≤ d
  co : Int.gcd n d = 1
theorem Fb.mono {b c : Nat} {n d : Int} (h : Fb b n d) (k : b ≤ c) : Fb c n d := ⟨h.sn.mono k, h.sd.mono k, h.pos, h.co⟩
theorem Fb.low {b : Nat} {n d : Int} (h1 : Sz b n) (h2 : Sz b d) (hd : d ≠ 0) : Fb b (KM.low n d).1 (KM.low n d).2 := by
  obtain ⟨a, _, c, e, f⟩ := KM.low_spec n d hd
  exact ⟨h1.le e, h2.le f, a, c⟩
end L2
namespace L2
open PySem PySem.Spec PyProof.Rows
structure Nw (H : Hp) (p : Addr) (o : HO) (H' : Hp) : Prop where
  fr : H p = none
  sm : Same H H'
  at' : H' p = some o
theorem Nw.mk' {H : Hp} {p : Addr} {o : HO} (h : H p = none) : Nw H p o (upd H p o) := ⟨h, Same.new h, upd_same⟩
section
variable {X : Cx} {es : List Expr} {t : TA} {pos : Pos} {K : PySem.W.Frag}
def tTupA (t : TA) : TE := fun σ H Q => t σ H fun xs H1 => xs.length ≤ 10000 ∧ ∀ p H', Nw H1 p (.tup xs) H' → Q (.ref p) H'
def tLstA (t : TA) : TE := fun σ H Q => t σ H fun xs H1 => xs.length ≤ 10000 ∧ ∀ p H', Nw H1 p (.lst xs) H' → Q (.ref p) H'
theorem sz_of {n : Nat} (h : n ≤ 10000) : n ≤ sizeLine := by rw [sizeLine_eq]; trivial
theorem pe_tupA {x1} (h : PA X es t) : PE X (.Tuple es x1 pos) (tTupA t) := by
  intro pins s σ H Q I hq
  refine wpAny_Tuple_spliced (thn (h pos pins s σ H _ I hq) fun us s1 ⟨xs, H1, I1, r, z', q⟩ => ⟨by rw [← r.length]; exact sz_of z', ?_⟩)
  have z := sz_of z'
  have hf : H1 s1.heap.objs.size = none := I1.hok.fresh (Nat.le_refl _)
  refine ⟨.ref s1.heap.objs.size, upd H1 s1.heap.objs.size (.tup xs), I1.laid (t' := s1.toks) (fun b u e => Heap.get?_push_of_some _ e) (Nat.le_refl _) ?_, rfl, q _ _ (.mk' hf)⟩
  exact ⟨z, us, r, ⟨_, Heap.get?_push_size _ rfl, rfl, _, rfl⟩, _, Heap.get?_push_size _ rfl, rfl⟩
theorem pe_lstA (h : PA X es t) : PE X (.List es pos) (tLstA t) := by
  intro pins s σ H Q I hq
  refine wpAny_List_spliced (thn (h pos pins s σ H _ I hq) fun us s1 ⟨xs, H1, I1, r, z', q⟩ => ⟨by rw [← r.length]; exact sz_of z', ?_⟩)
  have z := sz_of z'
  have hf : H1 s1.heap.objs.size = none := I1.hok.fresh (Nat.le_refl _)
  refine ⟨.ref s1.heap.objs.size, upd H1 s1.heap.objs.size (.lst xs), I1.laid (t' := s1.toks) (fun b u e => Heap.get?_push_of_some _ e) (Nat.le_refl _) ?_, rfl, q _ _ (.mk' hf)⟩
  exact ⟨z, us, 0, r, Heap.get?_push_size _ rfl⟩
inductive rCatA_ (x : V) (y : V) (H : Hp) (Q : VK) : Prop
  | mk (l : _) (b : _) (xs : _) (zs : _) (h0 : x = .ref l) (h1 : y = .ref b) (h2 : H l = some (.lst xs)) (h3 : H b = some (.lst zs)) (h4 : xs.length + zs.length ≤ 10000) (h5 : ∀ p H', Nw H p (.lst (xs ++ zs)) H' → Q (.ref p) H')
def rCatA : R2 := fun x y H Q => rCatA_  x y H Q
theorem op_catA : OpR X (binaryOp .Add) rCatA := fun pins s σ H x y v u Q I rx ry ⟨l, b, xs, zs, e1, e2, h1, h2, hz, q⟩ =>
  op_cat pins s σ H x y v u Q I rx ry ⟨l, b, xs, zs, e1, e2, h1, h2, sz_of hz, fun p hp => q p _ (.mk' hp)⟩
inductive rSlA_ (K : PySem.W.Frag) (x : V) (lo : Option Int) (hi : Option Int) (H : Hp) (Q : VK) : Prop
  | mk (a : _) (xs : _) (h0 : x = .ref a) (h1 : SqL K H a xs) (h2 : ∀ p H', Nw H p (.lst (cutV xs lo hi)) H' → Q (.ref p) H')
def rSlA (K : PySem.W.Frag) : V → Option Int → Option Int → Hp → VK → Prop := fun x lo hi H Q => rSlA_ K x lo hi H Q
theorem sl_listA (e : X.K = K := by rfl) : SlR X (rSlA K) := by
  subst e
  exact fun pins s σ H x v vl vu lo hi sl Q I rx hs pl pu ⟨a, xs, e, h, q⟩ => sl_list pins s σ H x v vl vu lo hi sl Q I rx hs pl pu ⟨a, xs, e, h, fun p hp => q p _ (.mk' hp)⟩
inductive rRepA_ (x : V) (y : V) (H : Hp) (Q : VK) : Prop
  | mk (l : _) (k : _) (xs : _) (h0 : x = .ref l) (h1 : y = .int k) (h2 : H l = some (.lst xs)) (h3 : -(2 ^ 63) ≤ k) (h4 : k < 2 ^ 63) (h5 : xs.length * k.toNat ≤ 10000) (h6 : ∀ p H', Nw H p (.lst (List.replicate k.toNat xs).flatten) H' → Q (.ref p) H')
def rRepA : R2 := fun x y H Q => rRepA_  x y H Q
theorem op_repA : OpR X (binaryOp .Mult) rRepA := fun pins s σ H x y v u Q I rx ry ⟨l, k, xs, e1, e2, h1, h2, h3, hz, q⟩ =>
  op_rep pins s σ H x y v u Q I rx ry ⟨l, k, xs, e1, e2, h1, h2, h3, sz_of hz, fun p hp => q p _ (.mk' hp)⟩
inductive rListA_ (K : PySem.W.Frag) (xs : List V) (H : Hp) (Q : VK) : Prop
  | mk (p : _) (ys : _) (h0 : xs = [.ref p]) (h1 : (SqL K H p ys ∨ SqT K H p ys)) (h2 : ∀ l H', Nw H l (.lst ys) H' → Q (.ref l) H')
def rListA (K : PySem.W.Frag) : List V → Hp → VK → Prop := fun xs H Q => rListA_ K xs H Q
theorem call_list_ofA (e : X.K = K := by rfl) : CallR X (.type "list") (rListA K) := by
  subst e
  exact fun pins s σ H xs us Q I r ⟨p, ys, e, h, q⟩ => call_list_of pins s σ H xs us Q I r ⟨p, ys, e, h, fun l hl => q l _ (.mk' hl)⟩
inductive rTupleA_ (K : PySem.W.Frag) (xs : List V) (H : Hp) (Q : VK) : Prop
  | mk (p : _) (ys : _) (h0 : xs = [.ref p]) (h1 : SqL K H p ys) (h2 : ∀ l H', Nw H l (.tup ys) H' → Q (.ref l) H')
def rTupleA (K : PySem.W.Frag) : List V → Hp → VK → Prop := fun xs H Q => rTupleA_ K xs H Q
theorem call_tuple_ofA (e : X.K = K := by rfl) : CallR X (.type "tuple") (rTupleA K) := by
  subst e
  exact fun pins s σ H xs us Q I r ⟨p, ys, e, h, q⟩ => call_tuple_of pins s σ H xs us Q I r ⟨p, ys, e, .inl ⟨h, fun l hl => q l _ (.mk' hl)⟩⟩
end
structure Ch (H : Hp) (p : Addr) (xs : List V) (H' : Hp) : Prop where
  at' : H' p = some (.lst xs)
  ol : ∀ a o, a ≠ p → H a = some o → H' a = some o
  fre : ∀ a, a ≠ p → H a = none → H' a = none
theorem Ch.mk' {H : Hp} {p : Addr} {xs : List V} : Ch H p xs (upd H p (.lst xs)) := ⟨upd_same, fun a o n h => by rw [upd_ne n]; exact h, fun a n h => by rw [upd_ne n]; exact h⟩
theorem Ch.tup {H H' : Hp} {p a : Addr} {xs ys zs : List V} (c : Ch H p xs H') (h : H a = some (.tup ys)) (hp : H p = some (.lst zs)) : H' a = some (.tup ys) := c.ol a _ (ne_of h hp (by intro z; cases z)) h
section
variable {X : Cx}
inductive rAppA_ (x : V) (vs : List V) (H : Hp) (Q : VK) : Prop
  | mk (l : _) (xs : _) (y : _) (h0 : x = .ref l) (h1 : vs = [y]) (h2 : H l = some (.lst xs)) (h3 : xs.length ≤ 10000) (h4 : ∀ H', Ch H l (xs ++ [y]) H' → Q .non H')
def rAppA : V → List V → Hp → VK → Prop := fun x vs H Q => rAppA_  x vs H Q
theorem mt_appendA : MtM X "list.append" rAppA := fun pins s σ H x vs v us Q I rx rv ⟨l, xs, y, e1, e2, h, hz, q⟩ => mt_append pins s σ H x vs v us Q I rx rv ⟨l, xs, y, e1, e2, h, (by rw [sizeLine_eq]; trivial), q _ .mk'⟩
end
inductive spLowA_ (vs : List V) (H : Hp) (Q : VK) : Prop
  | mk (n d : Int) (h0 : vs = [.int n, .int d]) (h1 : d ≠ 0) (h2 : Sz 9000 d) (h3 : ∀ p H', Nw H p (fr (KM.low n d)) H' → Q (.ref p) H')
def spLowA : Sp := fun vs H Q _ => spLowA_  vs H Q
inductive spBinA_ (num den : Int → Int → Int → Int → Int) (vs : List V) (H : Hp) (Q : VK) : Prop
  | mk (a b : Addr) (n1 d1 n2 d2 : Int) (h0 : vs = [.ref a, .ref b]) (h1 : H a = some (.tup [.int n1, .int d1])) (h2 : H b = some (.tup [.int n2, .int d2])) (h3 : (Sz 4000 n1 ∧ Sz 4000 d1 ∧ Sz 4000 n2 ∧ Sz 4000 d2 ∧ den n1 d1 n2 d2 ≠ 0)) (h4 : ∀ p H', Nw H p (fr (KM.low (num n1 d1 n2 d2) (den n1 d1 n2 d2))) H' → Q (.ref p) H')
def spBinA (num den : Int → Int → Int → Int → Int) : Sp := fun vs H Q _ => spBinA_ num den vs H Q
end L2
namespace L2
open PySem PySem.Spec PyProof.Rows
theorem Fb.small {b : Nat} {n d : Int} (h1 : n.natAbs < 2 ^ b) (h2 : d.natAbs < 2 ^ b) (h3 : 1 ≤ d) (h4 : Int.gcd n d = 1) : Fb b n d := ⟨h1, h2, h3, h4⟩
theorem Bx.ch {H H' : Hp} {b p : Addr} {t : Int} {xs : List V} (h : Bx H b t) (k : Ch H p xs H') (ne : b ≠ p) : Bx H' b t := by
  obtain ⟨c, x, e, q⟩ := h
  exact ⟨c, x, k.ol b _ ne e, q⟩
theorem Bx.ne {H : Hp} {b p : Addr} {t : Int} (h : Bx H b t) (hp : H p = none) : b ≠ p := fun z => by
  obtain ⟨c, x, e, _⟩ := h
  rw [z, hp] at e; cases e
end L2
namespace L2
open PySem PySem.Spec PyProof.Rows
section
variable {X : Cx} {e : Expr} {te : TE} {st : Expr} {ts : TO} {p2 pos : Pos} {K : PySem.W.Frag}
theorem Vals.rev {xs : List V} {us : List Value} (h : Vals xs us) : Vals xs.reverse us.reverse := by
  induction h with
  | nil => exact .nil
  | cons h _ ih => rw [List.reverse_cons, List.reverse_cons]; exact ih.append (.cons h .nil)
def tRevA (K : PySem.W.Frag) (te : TE) (ts : TO) : TE := fun σ H Q => te σ H fun x H1 => ts σ H1 fun k H2 => k = some (-1) ∧ Ex2 fun a xs => x = .ref a ∧ SqL K H2 a xs ∧ ∀ p H', Nw H2 p (.lst xs.reverse) H' → Q (.ref p) H'
theorem pe_revA (he : PE X e te) (hst : PO X (some st) ts) (ek : X.K = K := by rfl) : PE X (.Subscript e (.Slice none none (some st) p2) pos) (tRevA K te ts) := by
  subst ek
  intro pins s σ H Q I h
  refine Subscript_ (thn (he pins s σ H _ I h) fun v s1 ⟨x, H1, I1, r1, q1⟩ => ?_)
  refine wpAny_Slice ?_
  rw [evalPart_none]
  refine wpAny_pure (wpAny_pure (thn (hst pins s1 σ H1 _ I1 q1) fun vs s3 ⟨k, H3, I3, pk, q3⟩ => ?_))
  obtain ⟨rfl, a, xs, rfl, hx, q⟩ := q3
  cases r1
  have I4 : Inv X pins σ H3 { s3 with heap := s3.heap.push { cls := .type "slice", data := .fields #[.none, .none, vs] } } := I3.kept (t' := s3.toks) fun b ob q => Heap.get?_push_of_some _ q
  obtain ⟨its, r, ht, hz⟩ := I4.list hx
  have hlen := r.length
  show wpAny (model X.prog X.w) X.A (subscriptTail e (.Slice none none (some st) p2) (.ref a) (.ref s3.heap.objs.size)) (EP X pins σ Q) X.xe { s3 with heap := s3.heap.push { cls := .type "slice", data := .fields #[.none, .none, vs] } }
  refine tail_any (ops := [.ref a, .ref s3.heap.objs.size]) ht.isList.typeIs slot_list_getitem.lookup ?_ (by with_unfolding_all rfl)
  refine wpAny_getItem_list_slice ht.isList (Heap.IsSliceOf.new ..) .none .none pk (by decide) ?_ (by rw [List.size_toArray] <;> trivial)
  rw [PySem.W.krv_pick]
  refine ⟨.ref (s3.heap.push { cls := .type "slice", data := .fields #[.none, .none, vs] }).objs.size, _, I4.laid (t' := s3.toks) (o := .lst xs.reverse) (fun b ob q => Heap.get?_push_of_some _ q) (Nat.le_refl _) ?_, rfl, q _ _ (.mk' (I4.hok.fresh (Nat.le_refl _)))⟩
  exact ⟨by rw [List.length_reverse]; exact hz, _, 0, r.rev, Heap.get?_push_size _ rfl⟩
end
end L2
namespace L2
open PySem PySem.Spec PyProof.Rows
inductive FL (c : Nat) (H : Hp) : List V → List KM.Fra → Prop
  | nil : FL c H [] []
  | cons {o : Addr} {p : KM.Fra} {xs : List V} {ps : List KM.Fra} (h : H o = some (fr p)) (f : Fb c p.1 p.2) (r : FL c H xs ps) : FL c H (.ref o :: xs) (p :: ps)
theorem FL.tup {c : Nat} {H H' : Hp} {xs : List V} {ps : List KM.Fra} (r : FL c H xs ps) (k : ∀ a xs, H a = some (.tup xs) → H' a = some (.tup xs)) : FL c H' xs ps := by
  induction r with
  | nil => exact .nil
  | cons h f _ ih => exact .cons (k _ _ h) f ih
theorem FL.sm {c : Nat} {H H' : Hp} {xs : List V} {ps : List KM.Fra} (r : FL c H xs ps) (k : Same H H') : FL c H' xs ps := r.tup fun _ _ e => k _ _ e
theorem FL.length {c : Nat} {H : Hp} {xs : List V} {ps : List KM.Fra} (r : FL c H xs ps) : xs.length = ps.length := by
  induction r with
  | nil => rfl
  | cons _ _ _ ih => simp [ih]
theorem FL.get {c : Nat} {H : Hp} {xs : List V} {ps : List KM.Fra} (r : FL c H xs ps) : ∀ {i : Nat} {v : V}, xs[i]? = some v → Ex2 fun o p => v = .ref o ∧ ps[i]? = some p ∧ H o = some (fr p) ∧ Fb c p.1 p.2 := by
  induction r with
  | nil => intro i v h; simp at h
  | @cons o p xs ps h f r ih =>
    intro i v hv
    cases i with
    | zero => simp at hv; exact ⟨o, p, hv.symm, rfl, h, f⟩
    | succ i => simp at hv; simpa using ih hv
theorem FL.append {c : Nat} {H : Hp} {xs ys : List V} {ps qs : List KM.Fra} (r : FL c H xs ps) (q : FL c H ys qs) : FL c H (xs ++ ys) (ps ++ qs) := by
  induction r with
  | nil => exact q
  | cons h f _ ih => exact .cons h f ih
theorem FL.all {c : Nat} {H : Hp} {xs : List V} {ps : List KM.Fra} (r : FL c H xs ps) : ∀ p ∈ ps, Fb c p.1 p.2 := by
  induction r with
  | nil => intro p hp; cases hp
  | cons h f _ ih =>
    intro p hp
    rcases List.mem_cons.mp hp with rfl | hp
    · exact f
    · exact ih p hp
theorem Fb.add' {b c e : Nat} {n1 d1 n2 d2 : Int} (h1 : Fb b n1 d1) (h2 : Fb c n2 d2) (hc : b + c + 1 ≤ e) : Fb e (KM.low (n1 * d2 + n2 * d1) (d1 * d2)).1 (KM.low (n1 * d2 + n2 * d1) (d1 * d2)).2 :=
  .low (((h1.sn.mul h2.sd).add ((h2.sn.mul h1.sd).mono (by trivial))).mono (by trivial)) ((h1.sd.mul h2.sd).mono (by trivial)) (Int.mul_ne_zero (by have := h1.pos; trivial) (by have := h2.pos; trivial))
theorem s4' {b c : Nat} {n1 d1 n2 d2 : Int} (h1 : Fb b n1 d1) (h2 : Fb c n2 d2) (hb : b ≤ 4000) (hc : c ≤ 4000) : Sz 4000 n1 ∧ Sz 4000 d1 ∧ Sz 4000 n2 ∧ Sz 4000 d2 ∧ d1 * d2 ≠ 0 :=
  ⟨h1.sn.mono hb, h1.sd.mono hb, h2.sn.mono hc, h2.sd.mono hc, Int.mul_ne_zero (by have := h1.pos; trivial) (by have := h2.pos; trivial)⟩
theorem ptake {α : Type} {ps : List α} {i : Nat} {p : α} (h : ps[i]? = some p) : ps.take (i + 1) = ps.take i ++ [p] := by rw [List.take_add_one, h]; rfl
def gPick (s : Bool) (ps : List KM.Fra) : Option KM.Fra := ps[0]?.map fun p => KM.pick s p ps
theorem pick_snoc (s : Bool) (b p : KM.Fra) (ps : List KM.Fra) : KM.pick s b (ps ++ [p]) = if KM.bt s p (KM.pick s b ps) = true then p else KM.pick s b ps := by
  unfold KM.pick
  rw [List.foldl_append]
  rfl
theorem pick_Fb {c : Nat} {s : Bool} {p0 : KM.Fra} (h0 : Fb c p0.1 p0.2) : ∀ (ps : List KM.Fra), (∀ p ∈ ps, Fb c p.1 p.2) → Fb c (KM.pick s p0 ps).1 (KM.pick s p0 ps).2 := by
  intro ps
  induction ps generalizing p0 with
  | nil => intro _; exact h0
  | cons q r ih =>
    intro h
    have e : KM.pick s p0 (q :: r) = KM.pick s (if KM.bt s q p0 = true then q else p0) r := rfl
    rw [e]
    split
    · exact ih (h q (by simp)) (fun p hp => h p (List.mem_cons_of_mem _ hp))
    · exact ih h0 (fun p hp => h p (List.mem_cons_of_mem _ hp))
theorem cmp_neg (i j : Int) : decide (cmpI i j < 0) = decide (i < j) := by
  unfold cmpI
  by_cases h1 : i < j
  · rw [if_pos h1, decide_eq_true h1]; rfl
  · rw [if_neg h1]
    by_cases h2 : j < i
    · rw [if_pos h2, decide_eq_false h1]; rfl
    · rw [if_neg h2, decide_eq_false h1]; rfl
end L2
namespace L2
open PySem PySem.Spec PyProof.Rows
def S (l : List Nat) : Str := ⟨l.toArray⟩
theorem S_inj {a b : List Nat} (h : S a = S b) : a = b := by
  have : a.toArray = b.toArray := by injection h
  simpa using this
theorem S_app (a b : List Nat) : S a ++ S b = S (a ++ b) := by
  show (⟨a.toArray ++ b.toArray⟩ : Str) = ⟨(a ++ b).toArray⟩
  simp
theorem S_len (a : List Nat) : (S a).length = a.length := by
  show a.toArray.size = _
  simp
theorem S_list (a : List Nat) : (S a).cps.toList = a := rfl
theorem foldl_app (k : Nat) (l : List Nat) : ∀ acc : List Nat, (List.replicate k l.toArray).foldl (· ++ ·) acc.toArray = (acc ++ (List.replicate k l).flatten).toArray := by
  induction k with
  | zero => intro acc; simp
  | succ k ih =>
    intro acc
    rw [List.replicate_succ, List.foldl_cons, List.replicate_succ, List.flatten_cons]
    have : acc.toArray ++ l.toArray = (acc ++ l).toArray := by simp
    rw [this, ih, List.append_assoc]
theorem join_flat : ∀ ls : List (List Nat), Str.join (S []) (ls.map S) = S ls.flatten
  | [] => rfl
  | [a] => by
    show S a = S (a ++ [])
    rw [List.append_nil]
  | a :: b :: r => by
    have e : Str.join (S []) ((a :: b :: r).map S) = S a ++ S [] ++ Str.join (S []) ((b :: r).map S) := rfl
    rw [e, join_flat (b :: r), S_app, S_app, List.append_nil]
    rfl
section
variable {X : Cx} {K : PySem.W.Frag}
inductive rMulS_ (x : V) (y : V) (H : Hp) (Q : VK) : Prop
  | mk (l : _) (n : _) (h0 : x = .str (S l)) (h1 : y = .int n) (h2 : 1 ≤ n) (h3 : n ≤ 1000) (h4 : l.length ≤ 100) (h5 : Q (.str (S (List.replicate n.toNat l).flatten)) H)
def rMulS : R2 := fun x y H Q => rMulS_  x y H Q
theorem op_mulS : OpR X (binaryOp .Mult) rMulS := by
  intro pins s σ H x y v u Q I rx ry h
  obtain ⟨l, n, rfl, rfl, h1, h2, h3, q⟩ := h
  obtain ⟨t, rfl⟩ := rx
  obtain ⟨t', rfl⟩ := ry
  have hlen : (S l).length = l.length := S_len l
  have hmul : l.length * n.toNat ≤ 100 * 1000 := Nat.mul_le_mul h3 (by trivial)
  refine PySem.P.mul_str ?_ ?_ ?_ ?_
  · rw [decide_eq_false (by trivial), decide_eq_false (by trivial)]; rfl
  · intro _ _
    rw [hlen]
    have : (100 : Int) < (2 ^ 63 - 1) / n := by
      have : (100 + 1) * n ≤ 2 ^ 63 - 1 := by trivial
      have := (Int.le_ediv_iff_mul_le (by trivial : 0 < n)).mpr this
      trivial
    trivial
  · intro _ _
    rw [hlen]
    unfold Builtin.Str.tooLong
    rw [decide_eq_false]
    rw [sizeLine_eq]
    trivial
  · rw [if_neg (by trivial)]
    by_cases hn : (n == 1 || (S l).length == 0) = true
    · rw [if_pos hn]
      refine ⟨.str (S l), H, I, ⟨t, rfl⟩, ?_⟩
      have e : (List.replicate n.toNat l).flatten = l := by
        rw [hlen] at hn
        have hn' : n = 1 ∨ l.length = 0 := by simpa using hn
        rcases hn' with rfl | hn'
        · simp
        · have : l = [] := List.eq_nil_of_length_eq_zero hn'
          subst this
          simp
      rw [e] at q
      exact q
    · rw [if_neg hn]
      have e : (⟨(List.replicate n.toNat (S l).cps).foldl (· ++ ·) #[]⟩ : Str) = S (List.replicate n.toNat l).flatten := by
        have e := foldl_app n.toNat l []
        rw [List.nil_append] at e
        exact congrArg Str.mk e
      rw [e]
      refine ⟨?_, .str (S (List.replicate n.toNat l).flatten), H, I.tok _, ⟨_, rfl⟩, q⟩
      rw [S_len, len_rep, sizeLine_eq, Nat.mul_comm]
      trivial
inductive rJoin_ (K : PySem.W.Frag) (x : V) (vs : List V) (H : Hp) (Q : VK) : Prop
  | mk (a : _) (ls : _) (h0 : x = .str (S [])) (h1 : vs = [.ref a]) (h2 : SqL K H a ((ls : List (List Nat)).map fun l => V.str (S l))) (h3 : (ls.map (·.length)).sum ≤ 10000) (h4 : Q (.str (S ls.flatten)) H)
def rJoin (K : PySem.W.Frag) : V → List V → Hp → VK → Prop := fun x vs H Q => rJoin_ K x vs H Q
theorem vals_strs {ls : List (List Nat)} : ∀ {us : List Value}, Vals (ls.map fun l => V.str (S l)) us → StrsAre us (ls.map S) := by
  induction ls with
  | nil => intro us h; cases h; exact .nil
  | cons l r ih =>
    intro us h
    cases h with
    | cons h t =>
      obtain ⟨tk, rfl⟩ := h
      exact .cons _ _ (ih t)
theorem mt_join (ek : X.K = K := by rfl) : MtR X "str.join" (rJoin K) := by
  subst ek
  intro pins s σ H x vs v us Q I rx rv h
  obtain ⟨a, ls, rfl, rfl, hS, hz, q⟩ := h
  obtain ⟨t, rfl⟩ := rx
  obtain ⟨u, rfl, ru⟩ := rv.one
  obtain rfl : u = Value.ref a := ru
  obtain ⟨its, r, ht, _⟩ := I.list hS
  have e1 : ((ls.map S).map (·.length)).sum = (ls.map (·.length)).sum := by
    rw [List.map_map]
    congr 1
  refine join_list (ys := ls.map S) ht.isList (by simpa using vals_strs r) ?_ fun t' k => ?_
  · rw [e1, show (S []).length = 0 from rfl]
    trivial
  · have := join_plain_closes (S []) (ls.map S)
    rw [eq_of_beq this, join_flat]
    exact ⟨.str (S ls.flatten), H, I.tok k, ⟨_, rfl⟩, q⟩
inductive rAddS_ (x : V) (y : V) (H : Hp) (Q : VK) : Prop
  | mk (a : _) (b : _) (h0 : x = .str (S a)) (h1 : y = .str (S b)) (h2 : a.length + b.length ≤ 10000) (h3 : Q (.str (S (a ++ b))) H)
def rAddS : R2 := fun x y H Q => rAddS_  x y H Q
theorem op_addS : OpR X (binaryOp .Add) rAddS := fun pins s σ H x y v u Q I rx ry ⟨a, b, e1, e2, hz, q⟩ =>
  op_add_str pins s σ H x y v u Q I rx ry ⟨S a, S b, e1, e2, by rw [S_len, S_len]; exact sz_of hz, by rw [S_app]; exact q⟩
end
theorem letters_eq : Str.ofString "abcdefghijklmnopqrstuvwxyz" = S ((List.range 26).map (97 + ·)) := by decide +kernel
theorem empty_eq : Str.ofString "" = S [] := by decide +kernel
theorem letter_at {i : Int} (h0 : -26 ≤ i) (h1 : i < 26) : atI ((Str.ofString "abcdefghijklmnopqrstuvwxyz").cps.toList) i = some (97 + (i % 26).toNat) := by
  rw [letters_eq, S_list]
  have : ∀ k : Fin 52, atI ((List.range 26).map (97 + ·)) ((k.val : Int) - 26) = some (97 + (((k.val : Int) - 26) % 26).toNat) := by decide +kernel
  have e := this ⟨(i + 26).toNat, by trivial⟩
  simp only at e
  rw [show (((i + 26).toNat : Nat) : Int) - 26 = i by trivial] at e
  exact e
theorem step11 {f : Int} {j k : Nat} (hj : j < 26) (hk : k < 26) (h : (f + 11 * (j : Int)) % 26 = (f + 11 * (k : Int)) % 26) : j = k := by trivial
end L2
namespace L2
open PySem PySem.Spec PyProof.Rows
structure NameC (l : List Nat) : Prop where
  lo : 1 ≤ l.length
  hi : l.length ≤ 8
  az : ∀ c ∈ l, 97 ≤ c ∧ c ≤ 122
abbrev strV (l : List Nat) : V := .str (S l)
def nm (c k : Nat) : List Nat := List.replicate (1 + k) c
theorem rep1 (n c : Nat) : (List.replicate n [c]).flatten = List.replicate n c := by
  induction n with
  | zero => rfl
  | succ n ih => rw [List.replicate_succ, List.flatten_cons, ih, List.replicate_succ]; rfl
theorem nm_ok {c k : Nat} (hk : k < 8) (h1 : 97 ≤ c) (h2 : c ≤ 122) : NameC (nm c k) := ⟨by simp [nm], by simp [nm]; trivial, fun d hd => by
  have := List.eq_of_mem_replicate hd
  trivial⟩
theorem nm_inj {c d j k : Nat} (h : nm c j = nm d k) : c = d ∧ j = k := by
  have h1 := congrArg List.length h
  simp [nm] at h1
  subst h1
  have h2 := congrArg List.head? h
  simp [nm, List.replicate_succ, Nat.add_comm 1] at h2
  exact ⟨h2, rfl⟩
theorem rows_nodup {c d : Nat} (h : c ≠ d) : ((List.range 8).map (nm c) ++ (List.range 8).map (nm d)).Nodup := by
  rw [List.nodup_append]
  refine ⟨?_, ?_, ?_⟩
  · exact List.Pairwise.map _ (fun a b hab e => hab (nm_inj e).2) List.nodup_range
  · exact List.Pairwise.map _ (fun a b hab e => hab (nm_inj e).2) List.nodup_range
  · intro a ha b hb e
    obtain ⟨j, _, rfl⟩ := List.mem_map.mp ha
    obtain ⟨k, _, rfl⟩ := List.mem_map.mp hb
    exact h (nm_inj e).1
theorem cutV_take {xs : List V} {m : Int} (h : 0 ≤ m) : cutV xs none (some m) = xs.take m.toNat := by
  unfold cutV
  have e : m = ((m.toNat : Nat) : Int) := by trivial
  rw [HT.sIx_none, e, HT.sIx_nat]
  simp only [Int.toNat_natCast, List.drop_zero, Nat.sub_zero]
  by_cases hm : m.toNat ≤ xs.length
  · rw [Nat.min_eq_left hm]
  · rw [Nat.min_eq_right (by trivial), List.take_of_length_le (Nat.le_refl _), List.take_of_length_le (by trivial)]
theorem heads_nodup {ls : List (List Nat)} {f : Int} (hl : ls.length ≤ 26) (h : ∀ (j : Nat) (l : List Nat), ls[j]? = some l → l.head? = some (97 + ((f + 11 * (j : Int)) % 26).toNat)) : ls.Nodup := by
  rw [List.nodup_iff_pairwise_ne, List.pairwise_iff_getElem]
  intro i j hi hj hij e
  have h1 := h i ls[i] (List.getElem?_eq_getElem hi)
  have h2 := h j ls[j] (List.getElem?_eq_getElem hj)
  rw [e, h2] at h1
  injection h1 with h1
  have a1 := Int.emod_nonneg (f + 11 * (i : Int)) (by decide : (26 : Int) ≠ 0)
  have a2 := Int.emod_nonneg (f + 11 * (j : Int)) (by decide : (26 : Int) ≠ 0)
  have := step11 (f := f) (j := i) (k := j) (by trivial) (by trivial) (by trivial)
  trivial
inductive spNames_ (vs : List V) (H : Hp) (Q : VK) : Prop
  | mk (b : Addr) (many t : Int) (h0 : vs = [.ref b, .int many]) (h1 : Bx H b t) (h2 : 0 ≤ t) (h3 : t ≤ 900000) (h4 : 1 ≤ many) (h5 : many ≤ 11) (h6 : ∀ D (ls : List (List Nat)) t' H', H D = none → SameE (Eb b) H H' → H' D = some (.lst (ls.map strV)) → ls.length = many.toNat → ls.Nodup → (∀ l ∈ ls, NameC l) → Bx H' b t' → t ≤ t' → t' ≤ t + 130 → Q (.ref D) H')
def spNames : Sp := fun vs H Q _ => spNames_  vs H Q
theorem SameE.ch {b D : Addr} {H H1 H2 : Hp} {xs : List V} (s : SameE (Eb b) H H1) (c : Ch H1 D xs H2) (hD : H D = none) : SameE (Eb b) H H2 :=
  ⟨fun a u ne h => c.ol a u (ne_of_none h hD) (s.old a u ne h), fun a us h => c.ol a _ (ne_of_none h hD) (s.tup a us h)⟩
theorem SameE.up {b D : Addr} {H H1 : Hp} {o : HO} (s : SameE (Eb b) H H1) (hD : H D = none) : SameE (Eb b) H (upd H1 D o) :=
  ⟨fun a u ne h => by rw [upd_ne (ne_of_none h hD)]; exact s.old a u ne h, fun a us h => by rw [upd_ne (ne_of_none h hD)]; exact s.tup a us h⟩
end L2
namespace L2
open PySem PySem.Spec PyProof.Rows
def strT (x : Str) : Prop := x.length ≤ 300 ∧ ∀ c ∈ x.cps.toList, c < 128
mutual
inductive Wt : PyData → Nat → Nat → Prop
  | non {k : Nat} : Wt .none 1 k
  | bl (b : Bool) {k : Nat} : Wt (.bool b) 1 k
  | int {i : Int} (h : Sz 1900 i) {k : Nat} : Wt (.int i) 1 k
  | str {x : Str} (h : strT x) {k : Nat} : Wt (.str x) 1 k
  | list {xs : List PyData} {n k : Nat} (h : WtL xs n k) : Wt (.list xs) (n + 1) (k + 1)
  | tuple {xs : List PyData} {n k : Nat} (h : WtL xs n k) : Wt (.tuple xs) (n + 1) (k + 1)
inductive WtL : List PyData → Nat → Nat → Prop
  | nil {k : Nat} : WtL [] 0 k
  | cons {x : PyData} {xs : List PyData} {m n k : Nat} (h : Wt x m k) (r : WtL xs n k) : WtL (x :: xs) (m + n) k
end
mutual
theorem Wt.deep : ∀ {d : PyData} {n k : Nat}, Wt d n k → ∀ {l : Nat}, k ≤ l → Wt d n l
  | _, _, _, .non, _, _ => .non
  | _, _, _, .bl b, _, _ => .bl b
  | _, _, _, .int h, _, _ => .int h
  | _, _, _, .str h, _, _ => .str h
  | _, _, _, .list h, l, hl => by
    obtain ⟨m, rfl⟩ : ∃ m, l = m + 1 := ⟨l - 1, by trivial⟩
    exact .list (WtL.deep h (by trivial))
  | _, _, _, .tuple h, l, hl => by
    obtain ⟨m, rfl⟩ : ∃ m, l = m + 1 := ⟨l - 1, by trivial⟩
    exact .tuple (WtL.deep h (by trivial))
theorem WtL.deep : ∀ {ds : List PyData} {n k : Nat}, WtL ds n k → ∀ {l : Nat}, k ≤ l → WtL ds n l
  | _, _, _, .nil, _, _ => .nil
  | _, _, _, .cons h r, _, hl => .cons (Wt.deep h hl) (WtL.deep r hl)
end
theorem Wt.pos {d : PyData} {n k : Nat} (h : Wt d n k) : 1 ≤ n := by cases h <;> trivial
mutual
theorem Wt.dep : ∀ {d : PyData} {n k : Nat}, Wt d n k → d.depth ≤ k
  | _, _, _, .non => by simp [PyData.depth]
  | _, _, _, .bl b => by simp [PyData.depth]
  | _, _, _, .int h => by simp [PyData.depth]
  | _, _, _, .str h => by simp [PyData.depth]
  | _, _, _, .list h => by simp only [PyData.depth]; exact Nat.succ_le_succ (WtL.dep h)
  | _, _, _, .tuple h => by simp only [PyData.depth]; exact Nat.succ_le_succ (WtL.dep h)
theorem WtL.dep : ∀ {ds : List PyData} {n k : Nat}, WtL ds n k → PyData.depthAll ds ≤ k
  | _, _, _, .nil => by simp [PyData.depthAll]
  | _, _, _, .cons h r => by simp only [PyData.depthAll]; exact Nat.max_le.mpr ⟨Wt.dep h, WtL.dep r⟩
end
mutual
theorem Wt.sho : ∀ {d : PyData} {n k : Nat}, Wt d n k → d.showable = true
  | _, _, _, .non => by simp [PyData.showable]
  | _, _, _, .bl b => by simp [PyData.showable]
  | _, _, _, .int (i := i) h => by
    simp only [PyData.showable, decide_eq_true_iff]
    by_cases h0 : i = 0
    · subst h0; decide
    · exact Nat.lt_trans (h.log h0) (by decide)
  | _, _, _, .str h => by simp [PyData.showable]
  | _, _, _, .list h => by simp only [PyData.showable]; exact WtL.sho h
  | _, _, _, .tuple h => by simp only [PyData.showable]; exact WtL.sho h
theorem WtL.sho : ∀ {ds : List PyData} {n k : Nat}, WtL ds n k → PyData.showableAll ds = true
  | _, _, _, .nil => by simp [PyData.showableAll]
  | _, _, _, .cons h r => by simp only [PyData.showableAll, Bool.and_eq_true]; exact ⟨Wt.sho h, WtL.sho r⟩
end
mutual
theorem Wt.nod : ∀ {d : PyData} {n k : Nat}, Wt d n k → d.hasDict = false
  | _, _, _, .non => by simp [PyData.hasDict]
  | _, _, _, .bl b => by simp [PyData.hasDict]
  | _, _, _, .int h => by simp [PyData.hasDict]
  | _, _, _, .str h => by simp [PyData.hasDict]
  | _, _, _, .list h => by simp only [PyData.hasDict]; exact WtL.nod h
  | _, _, _, .tuple h => by simp only [PyData.hasDict]; exact WtL.nod h
theorem WtL.nod : ∀ {ds : List PyData} {n k : Nat}, WtL ds n k → PyData.hasDictAll ds = false
  | _, _, _, .nil => by simp [PyData.hasDictAll]
  | _, _, _, .cons h r => by simp only [PyData.hasDictAll, Bool.or_eq_false_iff]; exact ⟨Wt.nod h, WtL.nod r⟩
end
mutual
theorem Wt.len : ∀ {d : PyData} {n k : Nat}, Wt d n k → d.shown.length + 2 ≤ 3010 * n
  | _, _, _, .non => by
    rw [PyData.shown]
    decide +kernel
  | _, _, _, .bl b => by
    rw [PyData.shown]
    cases b <;> decide +kernel
  | _, _, _, .int (i := i) h => by
    rw [PyData.shown]
    have hl : i.natAbs.log2 < 1920 := by
      by_cases h0 : i = 0
      · subst h0; decide
      · exact Nat.lt_trans (h.log h0) (by decide)
    have := int_text_len_1921 hl
    trivial
  | _, _, _, .str (x := x) h => by
    rw [PyData.shown]
    have := PySem.StrLaws.reprText_len x (fun c hc => Nat.lt_trans (h.2 c hc) (by decide))
    have := h.1
    trivial
  | _, _, _, .list (xs := xs) (n := n) h => by
    rw [PyData.shown]
    have h1 := listText_len_le (PyData.shownAll xs)
    have h2 := WtL.len h
    trivial
  | _, _, _, .tuple (xs := xs) (n := n) h => by
    rw [PyData.shown]
    have h1 := tupleText_len_le (PyData.shownAll xs)
    have h2 := WtL.len h
    trivial
theorem WtL.len : ∀ {ds : List PyData} {n k : Nat}, WtL ds n k → ((PyData.shownAll ds).map (·.length)).sum + 2 * (PyData.shownAll ds).length ≤ 3010 * n
  | _, _, _, .nil => by simp [PyData.shownAll]
  | _, _, _, .cons (x := x) (xs := xs) (m := m) (n := n) h r => by
    rw [PyData.shownAll, List.map_cons, List.sum_cons, List.length_cons]
    have h1 := Wt.len h
    have h2 := WtL.len r
    have h3 := h.pos
    trivial
end
end L2
namespace L2
open PySem PySem.Spec PyProof.Rows
mutual
theorem Wt.can : ∀ {d : PyData} {n k : Nat}, Wt d n k → d.canLay0 = true
  | _, _, _, .non => by simp [PyData.canLay0]
  | _, _, _, .bl b => by simp [PyData.canLay0]
  | _, _, _, .int h => by simp [PyData.canLay0]
  | _, _, _, .str (x := x) h => by
    simp only [PyData.canLay0]
    unfold PySem.PyData.strOk
    rw [Array.all_eq_true]
    intro i hi
    have := h.2 x.cps[i] (by simp)
    simp
    trivial
  | _, _, _, .list h => by simp only [PyData.canLay0]; exact WtL.can h
  | _, _, _, .tuple h => by simp only [PyData.canLay0]; exact WtL.can h
theorem WtL.can : ∀ {ds : List PyData} {n k : Nat}, WtL ds n k → PyData.canLayAll0 ds = true
  | _, _, _, .nil => by simp [PyData.canLayAll0]
  | _, _, _, .cons h r => by simp only [PyData.canLayAll0, Bool.and_eq_true]; exact ⟨Wt.can h, WtL.can r⟩
end
section
variable {X : Cx}
inductive rEqD_ (ne : Bool) (x : V) (y : V) (H : Hp) (Q : VK) : Prop
  | mk (d e : PyData) (E F : Addr → Prop) (m n k l : Nat) (h0 : IsD E H x d) (h1 : IsD F H y e) (h2 : Wt d m k) (h3 : Wt e n l) (h4 : k ≤ 60) (h5 : Q (.bl (if ne then !PyData.eqv d e else PyData.eqv d e)) H)
def rEqD (ne : Bool) : R2 := fun x y H Q => rEqD_ ne x y H Q
theorem op_eqD (hu : X.A.units + 64 < cLine) : OpR X (compareOp .Eq) (rEqD false) := by
  intro pins s σ H x y v u Q I rx ry h
  obtain ⟨d, e, E, F, m, n, k, l, hd, he, wd, we, hk, q⟩ := h
  obtain ⟨as, ra⟩ := hd.reads I.hok rx
  obtain ⟨bs, rb⟩ := he.reads I.hok ry
  exact PySem.SeqAt.compareEq_reads ra rb wd.can we.can (by have := wd.dep; trivial) ⟨.bl _, H, I, rfl, q⟩
theorem op_neD (hu : X.A.units + 64 < cLine) : OpR X (compareOp .NotEq) (rEqD true) := by
  intro pins s σ H x y v u Q I rx ry h
  obtain ⟨d, e, E, F, m, n, k, l, hd, he, wd, we, hk, q⟩ := h
  obtain ⟨as, ra⟩ := hd.reads I.hok rx
  obtain ⟨bs, rb⟩ := he.reads I.hok ry
  exact PySem.SeqAt.compareNe_reads ra rb wd.can we.can (by have := wd.dep; trivial) ⟨.bl _, H, I, rfl, q⟩
inductive rStrW_ (xs : List V) (H : Hp) (Q : VK) : Prop
  | mk (a : Addr) (d : PyData) (E : Addr → Prop) (n k : Nat) (h0 : xs = [.ref a]) (h1 : IsD E H (.ref a) d) (h2 : Wt d n k) (h3 : n ≤ 5500) (h4 : k ≤ 50) (h5 : Q (.str d.shown) H)
def rStrW : List V → Hp → VK → Prop := fun xs H Q => rStrW_  xs H Q
theorem call_strW {k : Nat} (hr : Room k X.A) : CallR X (.type "str") rStrW := fun pins s σ H xs us Q I r ⟨a, d, E, n, k, e, hd, w, hn, hk, q⟩ =>
  call_str_data hr pins s σ H xs us Q I r ⟨a, d, E, e, hd, w.sho, w.nod, by have := w.dep; trivial, by have := w.len; rw [sizeLine_eq]; trivial, q⟩
end
abbrev ED : Addr → Prop := fun _ => True
abbrev frD (p : KM.Fra) : PyData := .tuple [.int p.1, .int p.2]
structure TieD where
  bg : List Nat
  en : List Nat
  most : KM.Fra
  gain : KM.Fra
  price : KM.Fra
abbrev tieD (t : TieD) : PyData := .tuple [.str (S t.bg), .str (S t.en), frD t.most, frD t.gain, frD t.price]
abbrev netD (ls : List (List Nat)) (ts : List TieD) : PyData := .tuple [.tuple (ls.map fun l => .str (S l)), .tuple (ts.map tieD)]
theorem isF {H : Hp} {o : Addr} {p : KM.Fra} (h : H o = some (.tup [.int p.1, .int p.2])) : IsD ED H (.ref o) (frD p) := .tup h (.cons (.int _) (.cons (.int _) .nil))
theorem isF_inv {E : Addr → Prop} {H : Hp} {v : V} {p : KM.Fra} (h : IsD E H v (frD p)) : ∃ o, v = .ref o ∧ H o = some (.tup [.int p.1, .int p.2]) := by
  cases h with
  | @tup a xs _ h r =>
    cases r with
    | cons h1 r =>
    cases r with
    | cons h2 r =>
    cases r
    cases h1
    cases h2
    exact ⟨a, rfl, h⟩
theorem IsD.tupS {E F : Addr → Prop} {H H' : Hp} {v : V} {d : PyData} (h : IsD ED H v d) (k : SameE E H H') : IsD ED H' v d := h.mono ⟨fun _ _ n _ => absurd trivial n, k.tup⟩
theorem IsAll.tupS {E : Addr → Prop} {H H' : Hp} {v : List V} {d : List PyData} (h : IsAll ED H v d) (k : SameE E H H') : IsAll ED H' v d := h.mono ⟨fun _ _ n _ => absurd trivial n, k.tup⟩
theorem IsD.sm {E : Addr → Prop} {H H' : Hp} {v : V} {d : PyData} (h : IsD E H v d) (k : Same H H') : IsD E H' v d := h.mono k.toE
theorem strT_name {l : List Nat} (h : NameC l) : strT (S l) := ⟨by rw [S_len]; have := h.hi; trivial, fun c hc => by have := h.az c hc; trivial⟩
theorem wt_fr {p : KM.Fra} {b : Nat} (h : Fb b p.1 p.2) (hb : b ≤ 1900) : Wt (frD p) 3 1 := .tuple (.cons (.int (h.sn.mono hb)) (.cons (.int (h.sd.mono hb)) .nil))
theorem wtL_map {α : Type} {f : α → PyData} {m k : Nat} : ∀ {xs : List α}, (∀ x ∈ xs, Wt (f x) m k) → WtL (xs.map f) (m * xs.length) k
  | [], _ => .nil
  | x :: r, h => by
    have e : m * (x :: r).length = m + m * r.length := by rw [List.length_cons, Nat.mul_succ, Nat.add_comm]
    rw [e]
    exact .cons (h x (by simp)) (wtL_map fun y hy => h y (List.mem_cons_of_mem _ hy))
end L2
namespace L2
open PySem PySem.Spec PyProof.Rows
inductive spFrB_ (c : Nat) (lo : Int) (vs : List V) (H : Hp) (Q : VK) : Prop
  | mk (b : Addr) (t : Int) (h0 : vs = [.ref b]) (h1 : Bx H b t) (h2 : 0 ≤ t) (h3 : t ≤ 900000) (h4 : ∀ o n d t' H', SameE (Eb b) H H' → H' o = some (.tup [.int n, .int d]) → Fb c n d → lo ≤ n → Bx H' b t' → t ≤ t' → t' ≤ t + 6 → Q (.ref o) H')
def spFrB (c : Nat) (lo : Int) : Sp := fun vs H Q _ => spFrB_ c lo vs H Q
theorem low_fb6 {n d : Int} (hn : 1 ≤ n) (hn2 : n ≤ 60) (hd : 1 ≤ d) (hd2 : d ≤ 60) : Fb 6 (KM.low n d).1 (KM.low n d).2 ∧ 1 ≤ (KM.low n d).1 := by
  have a : Sz 6 n := by show n.natAbs < 64; trivial
  have b : Sz 6 d := by show d.natAbs < 64; trivial
  refine ⟨Fb.low a b (by trivial), ?_⟩
  have := (KM.low_sgn (n := n) (d := d) (by trivial)).1.mpr (by trivial)
  trivial
theorem low_fb24 {n d : Int} (hn : 1 ≤ n) (hn2 : n ≤ 10000000) (hd : 1 ≤ d) (hd2 : d ≤ 10000000) : Fb 24 (KM.low n d).1 (KM.low n d).2 ∧ 1 ≤ (KM.low n d).1 := by
  have a : Sz 24 n := by show n.natAbs < 16777216; trivial
  have b : Sz 24 d := by show d.natAbs < 16777216; trivial
  refine ⟨Fb.low a b (by trivial), ?_⟩
  have := (KM.low_sgn (n := n) (d := d) (by trivial)).1.mpr (by trivial)
  trivial
theorem fb_one24 {n : Int} (h0 : 0 ≤ n) (h : n ≤ 10000000) : Fb 24 n 1 := ⟨by show n.natAbs < 16777216; trivial, by show (1 : Int).natAbs < _; decide, by decide, Int.gcd_one_right _⟩
theorem ifC {c : Bool} {a b : Int} {σ : St} {H : Hp} {Q : VK} (h : Q (.int (if c = true then a else b)) H) : if c = true then tC (.int a) σ H Q else tC (.int b) σ H Q := by
  cases c with
  | true => exact iteT h
  | false => exact iteF h
theorem log9 {m : Int} (h0 : 0 < m) (h1 : m < 1099511627776) : m.natAbs.log2 < 9000 := by
  have a : Sz 40 m := by show m.natAbs < 1099511627776; trivial
  exact Nat.lt_trans (a.log (by trivial)) (by decide)
end L2
namespace L2
open PySem PySem.Spec PyProof.Rows
end L2
namespace L2
end L2
namespace L2
open PySem PySem.Spec PyProof.Rows
end L2
namespace L2
end L2
namespace L2
open PySem PySem.Spec PyProof.Rows
end L2
namespace L2
open PySem PySem.Spec PyProof.Rows
open AutoSeq1 (wpAny_loadPart')
section
variable {prog : Program} {w : World} {A : Around} {E : Value → Shared → Prop} {s : Shared}
end
section
variable {X : Cx}
end
end L2
namespace L2
open PySem PySem.Spec PyProof.Rows
end L2
namespace L2
open PySem PySem.Spec PyProof.Rows
section
variable {z : Nat} {E : Addr → Prop} {H H' : Hp} {n m k : Nat} {v : V} {xs ys : List V}
theorem cutV_drop1 : cutV xs (some 1) none = xs.drop 1 := by
  unfold cutV
  rw [HT.sIx_none, show (1 : Int) = ((1 : Nat) : Int) from rfl, HT.sIx_nat]
  cases xs with
  | nil => simp
  | cons x r => simp
end
section
variable {X : Cx}
end
end L2
namespace HT
open PySem PySem.Spec PyProof.Rows
section
variable {prog : Program} {w : World} {A : Around} {E : Value → Shared → Prop} {s : Shared}
end
end HT
namespace L2
open PySem PySem.Spec PyProof.Rows
section
variable {X : Cx} {K : PySem.W.Frag}
inductive rNotB_ (x : V) (y : V) (H : Hp) (Q : VK) : Prop
  | mk (b c : Bool) (h0 : x = .bl b) (h1 : y = .bl c) (h2 : Q (.bl (!(b == c))) H)
def rNotB : R2 := fun x y H Q => rNotB_  x y H Q
theorem op_notB : OpR X (compareOp .IsNot) rNotB := by
  intro pins s σ H x y v u Q I rx ry h
  obtain ⟨b, c, rfl, rfl, q⟩ := h
  cases (show v = Value.bool b from rx)
  cases (show u = Value.bool c from ry)
  refine wpAny_isNot_plain rfl (fin_bl I q ?_)
  cases b <;> cases c <;> rfl
end
end L2
namespace L2
open PySem PySem.Spec PyProof.Rows
theorem snocInd {α : Type} {p : List α → Prop} (h0 : p []) (h1 : ∀ l a, p l → p (l ++ [a])) (l : List α) : p l := by
  have : ∀ r : List α, p r.reverse := fun r => by
    induction r with
    | nil => exact h0
    | cons a r ih => rw [List.reverse_cons]; exact h1 _ _ ih
  have h := this l.reverse
  rwa [List.reverse_reverse] at h
def once (ks : List Key) : List Key := ks.foldl (fun σ k => if σ.any (fun x => decide (x = k)) then σ else σ ++ [k]) []
theorem once_snoc (ks : List Key) (k : Key) : once (ks ++ [k]) = if (once ks).any (fun x => decide (x = k)) then once ks else once ks ++ [k] := by
  unfold once
  rw [List.foldl_append]
  rfl
theorem once_len : ∀ (ks : List Key), (once ks).length ≤ ks.length := by
  intro ks
  induction ks using snocInd with
  | h0 => exact Nat.le_refl _
  | h1 ks k ih =>
    rw [once_snoc, List.length_append]
    split
    · simp; trivial
    · rw [List.length_append]; simp; trivial
theorem once_mem (ks : List Key) : ∀ j, j ∈ once ks ↔ j ∈ ks := by
  induction ks using snocInd with
  | h0 => exact fun j => Iff.rfl
  | h1 ks k ih =>
    intro j
    rw [once_snoc, List.mem_append, List.mem_singleton]
    split
    · rename_i h
      rw [ih]
      constructor
      · exact .inl
      · rintro (z | z)
        · exact z
        · obtain ⟨x, hx, e⟩ := List.any_eq_true.mp h
          rw [z, ← ih, ← of_decide_eq_true e]; exact hx
    · rw [List.mem_append, List.mem_singleton, ih]
theorem once_nodup (ks : List Key) : (once ks).length = ks.length ↔ ks.Nodup := by
  induction ks using snocInd with
  | h0 => exact ⟨fun _ => List.nodup_nil, fun _ => rfl⟩
  | h1 ks k ih =>
    rw [once_snoc, List.length_append, List.nodup_append]
    have ol := once_len ks
    by_cases h : (once ks).any (fun x => decide (x = k)) = true
    · rw [if_pos h]
      obtain ⟨x, hx, e⟩ := List.any_eq_true.mp h
      have hk : k ∈ ks := by rw [← of_decide_eq_true e]; exact (once_mem ks x).mp hx
      constructor
      · intro z; simp at z; trivial
      · intro z; exact absurd rfl (z.2.2 k hk k (by simp))
    · rw [if_neg h, List.length_append]
      have hk : k ∉ ks := fun z => h (List.any_eq_true.mpr ⟨k, (once_mem ks k).mpr z, by simp⟩)
      constructor
      · intro z
        refine ⟨ih.mp (by simpa using z), by simp, fun a ha b hb e => ?_⟩
        rw [List.mem_singleton] at hb
        rw [← hb, ← e] at hk
        exact hk ha
      · intro z
        rw [ih.mpr z.1]
def keyV : Key → V
  | .inl i => .int i
  | .inr x => .str x
theorem keyV_is {k : Key} {u : Value} (h : RelV (keyV k) u) : keyIs k u = true ∧ u.scannable = true := by
  cases k with
  | inl i => obtain ⟨t, rfl⟩ := h; exact ⟨keyIs_int i t, rfl⟩
  | inr x => obtain ⟨t, rfl⟩ := h; exact ⟨keyIs_str x t, rfl⟩
section
variable {prog : Program} {w : World} {A : Around} {R : Result → Shared → Prop} {it : Addr} {fp wr : List Addr} {G : Array GenState → Array GenState → Prop} {P : Nat → Value → Prop} {St : Nat → Shared → Prop}
abbrev IsSetK (prog : Program) (w : World) (h : Heap) (a : Addr) (ks : List Key) : Prop := h.SetOf (mixKind prog w) a (fun j => (once ks).any (fun x => decide (x = j))) (once ks).length
theorem isSetK_but {h h' : Heap} {a : Addr} {ks : List Key} (H : IsSetK prog w h a ks) (k : ∀ o, h.get? a = some o → h'.get? a = some o) : IsSetK prog w h' a ks :=
  let ⟨o, es, ep, t, ho, r⟩ := H
  ⟨o, es, ep, t, k o ho, r⟩
theorem setK_eq {h : Heap} {a : Addr} {f g : Key → Bool} {n m : Nat} (H : h.SetOf (mixKind prog w) a f n) (e : ∀ k, f k = g k) (en : n = m) : h.SetOf (mixKind prog w) a g m := by
  cases en
  cases (funext e : f = g)
  exact H
theorem fill_set {ks : List Key} (W : WalksS prog w A.in1 it fp wr G ks.length P St) {a : Addr} (ha : a ∉ fp) (hv : ∀ i v, P i v → ∀ k, ks[i]? = some k → keyIs k v = true ∧ v.scannable = true) (hb : ks.length + 1 < scanBound) :
    ∀ (r i : Nat) (s : Shared), ks.length - i = r → i ≤ ks.length → St i s → IsSetK prog w s.heap a (ks.take i) →
      (∀ s', Moved (a :: wr) G s s' → IsSetK prog w s'.heap a ks → R (.ok (.ret .none)) s') → codeAny (model prog w) A (.builtin "set.update.loop" ⟨[.ref a, .ref it], []⟩) R s := by
  have nw : a ∉ wr := fun z => ha (W.sub _ z)
  have up : ∀ b ∈ wr, b ∈ a :: wr := fun b z => List.mem_cons_of_mem _ z
  intro r
  induction r with
  | zero =>
    intro i s hr hi st hS hR
    have e : i = ks.length := by trivial
    rw [e] at st hS
    rw [List.take_length] at hS
    refine codeAny_builtin F.entry_set_update_loop ?_
    rw [A.under_plainId F.plain_set_update_loop]
    show wpAny _ _ (pyNext (Value.ref it) >>= _) _ _ _
    refine wpAny_bind (W.done s _ _ st fun s' m => ?_)
    show wpAny _ _ (ret .none) _ _ _
    exact wpAny_pure (hR s' (m.mono up) (isSetK_but hS fun o ho => m.heap a o nw ho))
  | succ r ih =>
    intro i s hr hi st hS hR
    have lt : i < ks.length := by trivial
    refine codeAny_builtin F.entry_set_update_loop ?_
    rw [A.under_plainId F.plain_set_update_loop]
    show wpAny _ _ (pyNext (Value.ref it) >>= _) _ _ _
    refine wpAny_bind (W.item i s _ _ lt st fun v s' pv st' m => ?_)
    obtain ⟨kv, sv⟩ := hv i v pv ks[i] (List.getElem?_eq_getElem lt)
    have hS' : IsSetK prog w s'.heap a (ks.take i) := isSetK_but hS fun o ho => m.heap a o nw ho
    have l1 : (once (ks.take i)).length + 1 < scanBound := by
      have := once_len (ks.take i)
      rw [List.length_take] at this
      trivial
    show wpAny _ _ (holding [v] (setAdd a v) >>= _) _ _ _
    refine wpAny_bind (wpAny_holding ?_)
    unfold setAdd
    refine wpAny_holding (wpAny_bind ((mixKind prog w).pyHash (k := ks[i]) kv (wpAny_setAddHashed_of (knd := mixKind prog w) (s := { s' with toks := s'.toks + 1 }) kv sv hS' l1 fun h2 sb hS2 => ?_)))
    have nx : IsSetK prog w h2 a (ks.take (i + 1)) := by
      rw [List.take_succ_eq_append_getElem lt]
      refine setK_eq hS2 (fun j => ?_) ?_
      · rw [once_snoc]
        split
        · rename_i z
          by_cases q : j = ks[i]
          · subst q; rw [z]; rfl
          · rw [decide_eq_false q, Bool.or_false]
        · rw [List.any_append]
          congr 1
          rw [List.any_cons, List.any_nil, Bool.or_false]
          by_cases q : j = ks[i]
          · rw [decide_eq_true q, decide_eq_true q.symm]
          · rw [decide_eq_false q, decide_eq_false (Ne.symm q)]
      · rw [once_snoc]
        split
        · rfl
        · rw [List.length_append]; rfl
    refine wpAny_pure ⟨plainId_quiet F.plain_set_update_loop _, ih (i + 1) _ (by trivial) lt (W.frame _ s' _ _ st' (Nat.le_succ _) fun b z o e => ?_) nx fun s2 m2 hS3 => ?_⟩
    · rw [sb.2 b (fun q => ha (q ▸ z))]; exact e
    · refine hR s2 (.trans W.gtrans ((m.mono up).then_heap (Nat.le_succ _) fun b o z e => ?_) m2) hS3
      rw [sb.2 b (fun q => z (q ▸ List.mem_cons_self))]; exact e
end
theorem sub_tup_set : isSubtype (.type "tuple") (.type "set") = pure false := by
  rw [isSubtype_type]
  kernel_rfl
theorem sub_tup_fset : isSubtype (.type "tuple") (.type "frozenset") = pure false := by
  rw [isSubtype_type]
  kernel_rfl
section
variable {prog : Program} {w : World} {A : Around} {E : Value → Shared → Prop} {s : Shared}
abbrev set0 (led : Bool) : Obj := { cls := .type "set", dict := none, data := .set #[] 0 (.fresh 0 0 led) }
theorem isSetK_0 {h : Heap} {a : Addr} {led : Bool} (e : h.get? a = some (set0 led)) : IsSetK prog w h a [] :=
  ⟨_, #[], 0, _, e, ⟨rfl, rfl, rfl⟩, rfl, fun x hx => (by simp at hx), fun k => (by simp [once]), by decide, by rfl, rfl⟩
set_option maxHeartbeats 4000000 in
theorem init_setK {l : Addr} {vs : List Value} {ks : List Key} {led : Bool} {c : Bool} (hh : A.handled = none) (hl : if c = true then s.heap.IsList l vs.toArray else s.heap.IsTuple l vs.toArray) (hn : vs.length = ks.length)
    (hk : ∀ (i : Nat) v, vs[i]? = some v → ∀ k, ks[i]? = some k → keyIs k v = true ∧ v.scannable = true) (hb : ks.length + 1 < scanBound) {R : Fin → Shared → Prop}
    (h : ∀ h' tk, IsSetK prog w h' s.heap.objs.size ks → (∀ b o, b < s.heap.objs.size → s.heap.get? b = some o → h'.get? b = some o) → R (.done (.ret .none)) { s with heap := h', toks := tk }) :
    wpAny (model prog w) A (Builtin.«set.__init__» ⟨[.ref s.heap.objs.size, .ref l], []⟩) R E { s with heap := s.heap.push (set0 led) } := by
  have hS : (s.heap.push (set0 led)).get? s.heap.objs.size = some (set0 led) := Heap.get?_push_size _ rfl
  have hT : Shared.TypeIs { s with heap := s.heap.push (set0 led) } (.ref s.heap.objs.size) "set" := ⟨_, hS, rfl⟩
  have vget : ∀ (i : Nat) v, vs.toArray[i]? = some v → ∀ k, ks[i]? = some k → keyIs k v = true ∧ v.scannable = true := fun i v e => hk i v (by simpa using e)
  have sz : vs.toArray.size = ks.length := by rw [List.size_toArray]; exact hn
  have hS2 : ∀ o : Obj, ((s.heap.push (set0 led)).push o).get? s.heap.objs.size = some (set0 led) := fun o => Heap.get?_push_of_some _ hS
  have lS : ∀ {x : Obj}, s.heap.get? l = some x → l < s.heap.objs.size := fun e => Heap.lt_size e
  have neI : s.heap.objs.size ≠ (s.heap.push (set0 led)).objs.size := by rw [Heap.size_push]; trivial
  have fin : ∀ (s' : Shared) (o : Obj), Moved (s.heap.objs.size :: [(s.heap.push (set0 led)).objs.size]) (fun a b => b = a) { s with heap := (s.heap.push (set0 led)).push o } s' → IsSetK prog w s'.heap s.heap.objs.size ks → R (.done (.ret .none)) s' := fun s' o m q => by
    obtain ⟨h', g', d', tk', os'⟩ := s'
    cases (show g' = s.gens from m.gens)
    cases (show d' = s.drawn from m.drawn)
    cases (show os' = s.os from m.os)
    refine h h' tk' q fun b o hb e => m.heap b o (fun z => ?_) (Heap.get?_push_of_some _ (Heap.get?_push_of_some _ e))
    rw [Heap.size_push] at z
    have z' : b = s.heap.objs.size ∨ b = s.heap.objs.size + 1 := by simpa using z
    have hb' : (b : Nat) < s.heap.objs.size := hb
    rcases z' with z' | z'
    · exact absurd z' (Nat.ne_of_lt hb')
    · exact absurd z' (Nat.ne_of_lt (Nat.lt_succ_of_lt hb'))
  cases c with
  | true =>
    have hl' : s.heap.IsList l vs.toArray := hl
    obtain ⟨⟨oc, od, oo, os⟩, e1, rfl, n, rfl⟩ := hl'
    have e2 : (s.heap.push (set0 led)).get? l = some ⟨.type "list", od, .seq vs.toArray n, os⟩ := Heap.get?_push_of_some _ e1
    have q1 := PySem.F.sub_list_set
    have q2 := PySem.F.sub_list_frozenset
    have q3 : (Value.type "list" == Value.type "dict") = false := by decide
    have l1 : (s.heap.push (set0 led)).IsList l vs.toArray := ⟨_, e2, rfl, n, rfl⟩
    unfold Builtin.«set.__init__» noKeywords Builtin.Frozenset.updateFrom
    generalize hPI : pyIter = PI
    wp_walk
    subst hPI
    have ll := lS e1
    refine wpAny_pyIter_list l1 (wpAny_bind (wpAny_runValue ?_))
    have ne1 : l ≠ (s.heap.push (set0 led)).objs.size := by rw [Heap.size_push]; exact Nat.ne_of_lt (Nat.lt_succ_of_lt ll)
    refine fill_set (a := s.heap.objs.size) (ks := ks) (sz ▸ (Walks.list (by simpa using hh) _ l ne1 vs.toArray).toS) ?_ vget hb (ks.length - 0) 0 _ rfl (Nat.zero_le _) ⟨⟨_, Heap.get?_push_size _ rfl, rfl, rfl⟩, l1.push _⟩ (isSetK_0 (hS2 _)) fun s' m q => ?_
    · intro z
      have z' : s.heap.objs.size = (s.heap.push (set0 led)).objs.size ∨ s.heap.objs.size = l := by simpa using z
      rcases z' with z' | z'
      · exact neI z'
      · exact absurd z' (Nat.ne_of_gt ll)
    · exact wpAny_pure (wpAny_pure (fin s' _ m q))
  | false =>
    have hl' : s.heap.IsTuple l vs.toArray := hl
    obtain ⟨⟨oc, od, oo, os⟩, e1, rfl, n, rfl⟩ := hl'
    have e2 : (s.heap.push (set0 led)).get? l = some ⟨.type "tuple", od, .seq vs.toArray n, os⟩ := Heap.get?_push_of_some _ e1
    have q1 := sub_tup_set
    have q2 := sub_tup_fset
    have q3 : (Value.type "tuple" == Value.type "dict") = false := by decide
    have l1 : (s.heap.push (set0 led)).IsTuple l vs.toArray := ⟨_, e2, rfl, n, rfl⟩
    unfold Builtin.«set.__init__» noKeywords Builtin.Frozenset.updateFrom
    generalize hPI : pyIter = PI
    wp_walk
    subst hPI
    have ll := lS e1
    refine wpAny_pyIter_tuple l1 (wpAny_bind (wpAny_runValue ?_))
    have ne1 : l ≠ (s.heap.push (set0 led)).objs.size := by rw [Heap.size_push]; exact Nat.ne_of_lt (Nat.lt_succ_of_lt ll)
    refine fill_set (a := s.heap.objs.size) (ks := ks) (sz ▸ (Walks.tuple (by simpa using hh) _ l ne1 vs.toArray).toS) ?_ vget hb (ks.length - 0) 0 _ rfl (Nat.zero_le _) ⟨⟨_, Heap.get?_push_size _ rfl, rfl, rfl⟩, l1.at fun o e => Heap.get?_push_of_some _ e⟩ (isSetK_0 (hS2 _)) fun s' m q => ?_
    · intro z
      have z' : s.heap.objs.size = (s.heap.push (set0 led)).objs.size ∨ s.heap.objs.size = l := by simpa using z
      rcases z' with z' | z'
      · exact neI z'
      · exact absurd z' (Nat.ne_of_gt ll)
    · exact wpAny_pure (wpAny_pure (fin s' _ m q))
set_option maxHeartbeats 4000000 in
theorem call_setK {l : Addr} {vs : List Value} {ks : List Key} {c : Bool} {Q : Value → Shared → Prop} (hh : A.handled = none) (hl : if c = true then s.heap.IsList l vs.toArray else s.heap.IsTuple l vs.toArray) (hn : vs.length = ks.length)
    (hk : ∀ (i : Nat) v, vs[i]? = some v → ∀ k, ks[i]? = some k → keyIs k v = true ∧ v.scannable = true) (hb : ks.length + 1 < scanBound)
    (h : ∀ h' tk, IsSetK prog w h' s.heap.objs.size ks → (∀ b o, b < s.heap.objs.size → s.heap.get? b = some o → h'.get? b = some o) → Q (.ref s.heap.objs.size) { s with heap := h', toks := tk }) :
    wpAny (model prog w) A (call (.type "set") [.ref l]) Q E s := by
  have T := PySem.F.called_set
  obtain ⟨_, _, t0⟩ := T.mro
  have t1 := T.notType
  have t2 := T.canCreate
  have t3 := T.made
  have t4 := T.sub
  have t5 := PySem.F.typeCall_set_1 (.ref l)
  refine wpAny_call (codeAny_of_tree ?_)
  show wpAny _ _ (callAny (Value.type "set") _) _ _ s
  refine wpAny_pure ⟨Code.quiet_builtin _ (by decide +kernel), codeAny_builtin PySem.F.entry_type_call ?_⟩
  rw [A.under_plain (weight_type_call_type "set" [Value.ref l] []) rfl]
  repeat (any_goals first | assumption | wp_step)
  refine codeAny_mono (code_set_new_1 (.ref l) (E := E) (Q₁ := fun v s1 => ∃ led, v = .ref s.heap.objs.size ∧ s1 = { s with heap := s.heap.push (set0 led) }) fun led => ⟨led, rfl, rfl⟩) fun r s1 hr => ?_
  cases r with
  | error e => exact hr
  | ok f =>
    cases f with
    | ret v =>
      obtain ⟨led, rfl, rfl⟩ := hr
      have hT : Shared.TypeIs { s with heap := s.heap.push (set0 led) } (.ref s.heap.objs.size) "set" := ⟨_, Heap.get?_push_size _ rfl, rfl⟩
      have t6 := T.init.lookup
      have t7 := T.init.bind (.ref s.heap.objs.size)
      repeat (any_goals first | assumption | wp_step)
      refine codeAny_mono (codeAny_call_builtin (R := wants (fun v s2 => v = .none ∧ Ex2 fun h' tk => s2 = { s with heap := h', toks := tk } ∧ IsSetK prog w h' s.heap.objs.size ks ∧ ∀ b o, b < s.heap.objs.size → s.heap.get? b = some o → h'.get? b = some o) E) T.init.plain PySem.F.entry_set_init (check_set_init_1 hT ?_)) fun r2 s2 hr2 => ?_
      · exact init_setK (by simpa using hh) hl hn hk hb fun h' tk q kp => ⟨rfl, h', tk, rfl, q, kp⟩
      · cases r2 with
        | error e => exact hr2
        | ok f =>
          cases f with
          | ret v =>
            obtain ⟨rfl, h', tk, rfl, q, kp⟩ := hr2
            repeat (any_goals first | assumption | wp_step)
            exact h _ _ q kp
          | _ => exact hr2.elim
    | _ => exact hr.elim
end
theorem boot_ty_set : bootBuiltins "set" = some (.type "set") := by decide +kernel
def rSetLen (K : PySem.W.Frag) (x : V) (H : Hp) (Q : VK) : Prop := Ex2 fun a ks => x = .ref a ∧ (SqL K H a (ks.map keyV) ∨ SqT K H a (ks.map keyV)) ∧ ks.length ≤ 4000 ∧ Q (.int ((once ks).length : Nat)) H
def tSetLen (K : PySem.W.Frag) (te : TE) : TE := fun σ H Q => te σ H fun x H1 => rSetLen K x H1 Q
section
variable {X : Cx} {K : PySem.W.Frag} {e : Expr} {te : TE} {p1 p2 p3 p4 : Pos}
theorem vals_keys : ∀ {ks : List Key} {us : List Value}, Vals (ks.map keyV) us → us.length = ks.length ∧ ∀ (i : Nat) v, us[i]? = some v → ∀ k, ks[i]? = some k → keyIs k v = true ∧ v.scannable = true
  | [], _, .nil => ⟨rfl, fun i v e => by simp at e⟩
  | k :: r, _, .cons h t => by
    obtain ⟨a, b⟩ := vals_keys (ks := r) t
    refine ⟨by simp [a], fun i v e j f => ?_⟩
    cases i with
    | zero =>
      simp at e f
      subst e f
      exact keyV_is h
    | succ i => exact b i v (by simpa using e) j (by simpa using f)
theorem len_setK {A : Around} {E : Value → Shared → Prop} {s : Shared} {prog : Program} {w : World} {a : Addr} {ks : List Key} {Q : Value → Shared → Prop} (H : IsSetK prog w s.heap a ks) (hb : ks.length ≤ 4000) (h : Q (.int ((once ks).length : Nat) (s.toks + 1)) { s with toks := s.toks + 1 + 1 }) :
    wpAny (model prog w) A (call (.builtin "len") [.ref a]) Q E s := by
  obtain ⟨o, es, ep, t, ho, hx, hd, _, _, hlt, hf, hn⟩ := H
  have := once_len ks
  refine PySem.call_len_set ho hx hd hf (by trivial) ?_
  rw [hn]; exact h
theorem pe_setLen (he : PE X e te) (hc : X.calm = true) (hg1 : Gl X "len") (hm1 : X.mg "len" = none) (hg2 : Gl X "set") (hm2 : X.mg "set" = none) (ek : X.K = K := by rfl) (hs : notStar e = true := by rfl) :
    PE X (.Call (.Name "len" p1) [.Call (.Name "set" p2) [e] [] p3] [] p4) (tSetLen K te) := by
  subst ek
  intro pins s σ H Q I h
  refine wpAny_Call_Name_kw (ld_blt I hg1 hm1 boot_b_len ?_ (by decide) (by decide))
  refine PyProof.Rows.callWith_builtin1 ?_ (star_cons rfl) rfl
  refine Calls.spliced_cons ?_
  refine wpAny_Call_Name_kw (ld_blt I hg2 hm2 boot_ty_set ?_ (by decide) (by decide))
  refine PyProof.Rows.callWith_type1 ?_ (star_cons hs) rfl
  refine thn (pa_c he pa_nil hs p3 pins s σ H (fun xs H1 => match xs with | [x] => rSetLen X.K x H1 Q | _ => False) I h) fun us s1 ⟨vs, H1, I1, r1, q1⟩ => ?_
  match vs, r1, q1 with
  | [x], r1, q1 =>
  obtain ⟨u, rfl, ru⟩ := vals1 r1
  obtain ⟨a, ks, rfl, hq, hz, q⟩ := q1
  cases ru
  have go : ∀ (its : List Value) (c : Bool), Vals (ks.map keyV) its → (if c = true then s1.heap.IsList a its.toArray else s1.heap.IsTuple a its.toArray) → wpAny (model X.prog X.w) X.A (call (.type "set") [.ref a]) (fun v s2 => wpAny (model X.prog X.w) X.A (call (.builtin "len") [v]) (EP X pins σ Q) X.xe s2) X.xe s1 := fun its c rv hl => by
    obtain ⟨z1, z2⟩ := vals_keys rv
    refine call_setK (I1.ok.hd hc) hl z1 z2 (by show ks.length + 1 < 4096; trivial) fun h' tk S kp => ?_
    have I2 : Inv X pins σ H1 { s1 with heap := h', toks := tk } := I1.kept fun b o e => kp b o (Heap.lt_size e) e
    exact len_setK (s := { s1 with heap := h', toks := tk }) S hz ⟨.int _, H1, I2.tok _, ⟨_, rfl⟩, q⟩
  have fin := fun (v : Value) (s2 : Shared) (z : wpAny (model X.prog X.w) X.A (call (.builtin "len") [v]) (EP X pins σ Q) X.xe s2) => (Calls.spliced_nil z : wpAny (model X.prog X.w) X.A (spliced []) (fun vs s3 => wpAny (model X.prog X.w) X.A (call (.builtin "len") (v :: vs)) (EP X pins σ Q) X.xe s3) X.xe s2)
  rcases hq with hq | hq
  · obtain ⟨its, rv, p, _⟩ := I1.list hq
    exact thn (go its true rv p.isList) fun v s2 z => fin v s2 z
  · obtain ⟨its, rv, p, _⟩ := I1.tuple hq
    exact thn (go its false rv p) fun v s2 z => fin v s2 z
end
end L2
namespace L2
open PySem PySem.Spec PyProof.Rows
section
variable {X : Cx} {K : PySem.W.Frag} {o e : Expr} {es : List Expr} {to : TE} {t : TA} {name : Str} {apos cpos : Pos} {T id : String} {r : V → List V → Hp → VK → Prop}
theorem pe_bm_k (pa : PlainAttrs T) (slot : Slot T name id) (hty : typeOf (.builtin id) = pure (.type "method_descriptor")) (hm : MtR X id r) (ho : PE X o to) (ha : PA X (e :: es) t) (ek : X.K = K := by rfl)
    (h1 : attributeBase o name X.env (eval o X.env) = eval o X.env := by rfl)
    (h2 : ((backTo cpos (starEach (e :: es) X.env)).all (fun x => !x.1) && (backToKw cpos (keywordEach [] X.env)).all (fun x => x.1.isSome) && decide ((e :: es).length + ([] : List Keyword).length + (if ([] : List Keyword).isEmpty then 0 else 1) < 30)) = true := by rfl)
    (h3 : (apos.endLine == cpos.line) = true := by rfl) (h4 : starEach (e :: es) X.env = (false, eval e X.env) :: starEach es X.env := by rfl) (h5 : (backTo cpos (starEach es X.env)).any (·.1) = false := by rfl) :
    PE X (.Call (.Attribute o name apos) (e :: es) [] cpos) (tBM K T r to t) := by
  subst ek
  exact pe_bm pa slot hty hm ho ha h1 h2 h3 h4 h5
end
theorem pi_zip_k {X : Cx} {K : PySem.W.Frag} {es : List Expr} {kk : Nat} {tp : Pos} {a b : Expr} {ta : TA} {p pos : Pos} (hg : Gl X "zip") (hm : X.mg "zip" = none) (ha : PA X [a, b] ta) (ek : X.K = K := by rfl) (h1 : starEach [a, b] X.env = [(false, eval a X.env), (false, eval b X.env)] := by rfl) (h2 : starEach [b] X.env = [(false, eval b X.env)] := by rfl) :
    PI X (.Tuple es kk tp) (.Call (.Name "zip" p) [a, b] [] pos) (iZip K ta) := by
  subst ek
  exact pi_zip hg hm ha h1 h2
end L2
namespace L2
theorem seqH {t u : TS} {D : Ends} {σ : St} {H : Hp} (h : ∀ D' : Ends, (∀ σ' H', u D σ' H' → D'.nx σ' H') → t D' σ H) : tSeq t u D σ H := h { D with nx := u D } fun _ _ z => z
theorem bodyH {t : TS} {D : Ends} {σ : St} {H : Hp} (h : ∀ D' : Ends, (∀ σ' H', D.nx σ' H' → D'.nx σ' H') → t D' σ H) : t D σ H := h D fun _ _ z => z
end L2
namespace L2
open PySem PySem.Spec PyProof.Rows
section
variable {X : Cx}
end
end L2
namespace L2
open PySem PySem.Spec PyProof.Rows
section
variable {K : PySem.W.Frag} {a a1 a2 D : Addr} {H1 : Hp} {σc : St} {g : TG} {te : TE} {tt : TT} {Q : VK} {xs ys : List V}
theorem map_range_snoc {α : Type} (f : Nat → α) (i : Nat) : (List.range i).map f ++ [f i] = (List.range (i + 1)).map f := by
  rw [List.range_succ, List.map_append]; rfl
theorem map_range_get {α β : Type} (f : Nat → β) (h : α → β) (l : List α) (e : ∀ (i : Nat) (x : α), l[i]? = some x → f i = h x) : (List.range l.length).map f = l.map h := by
  apply List.ext_getElem?
  intro i
  rw [List.getElem?_map, List.getElem?_map]
  by_cases hi : i < l.length
  · rw [List.getElem?_range hi, List.getElem?_eq_getElem hi]
    show some (f i) = some (h l[i])
    rw [e i l[i] (List.getElem?_eq_getElem hi)]
  · rw [List.getElem?_eq_none (by simp; trivial), List.getElem?_eq_none (by trivial)]; rfl
theorem comp_mapJ {J : It} {n : Nat} (f : Nat → V) (hz : n ≤ 10000) (hD : H1 D = none) (hgo : ∀ i H', i < n → Same H1 H' → J.go i H') (hst : ∀ H', Same H1 H' → J.stop n H')
    (hs : ∀ i x H' H'' (R : VK), i < n → Same H1 H' → J.yld i H' x H'' → (∀ H4, Same H' H4 → R (f i) H4) → g x σc H'' fun σ2 H2 => Back σc σ2 ∧ te σ2 H2 R)
    (hd : ∀ H', Same H1 H' → H' D = some (.lst ((List.range n).map f)) → Q (.ref D) H') : CompW J σc g tT te D H1 Q := by
  refine comp_each (n := n) (fun i H' zs => zs = (List.range i).map f ∧ H' D = some (.lst zs) ∧ Same H1 H') (sz_of hz) ⟨rfl, upd_same, same_lst hD (Same.refl _)⟩ ?_ ?_ ?_ ?_ ?_
  · rintro i H' zs ⟨rfl, q, _⟩
    exact ⟨q, by simp⟩
  · rintro i H' zs hi ⟨_, _, sm⟩
    exact hgo i H' hi sm
  · rintro H' zs ⟨_, _, sm⟩
    exact hst H' sm
  · rintro i H' zs x H'' hi ⟨rfl, q, sm⟩ y
    exact hs i x H' H'' _ hi sm y fun H4 s4 => ⟨s4 _ _ q, map_range_snoc f i, upd_same, same_lst hD (sm.trans s4)⟩
  · rintro H' zs ⟨rfl, q, sm⟩
    exact hd H' sm q
theorem comp_mapL (f : Nat → V) (hz : xs.length ≤ 10000) (hD : H1 D = none) (ha : H1 a = some (.lst xs))
    (hs : ∀ i x H' (R : VK), xs[i]? = some x → Same H1 H' → (∀ H4, Same H' H4 → R (f i) H4) → g x σc H' fun σ2 H2 => Back σc σ2 ∧ te σ2 H2 R)
    (hd : ∀ H', Same H1 H' → H' D = some (.lst ((List.range xs.length).map f)) → Q (.ref D) H') : CompW (Itl K a) σc g tT te D H1 Q := by
  refine comp_mapJ (n := xs.length) f hz hD (fun i H' hi sm => ⟨xs, xs[i], SqL.of (sm _ _ ha), by simp [hi]⟩) (fun H' sm => ⟨xs, SqL.of (sm _ _ ha), Nat.le_refl _⟩) ?_ hd
  rintro i x H' H'' R hi sm ⟨rfl, ex⟩ k
  exact hs i x H'' R (ex _ (SqL.of (sm _ _ ha))) sm k
theorem comp_mapZ {c1 c2 : Bool} {j1 j2 : Nat} (f : Nat → V) (hz : min xs.length ys.length ≤ 10000) (hD : H1 D = none) (h1 : ∀ H', Same H1 H' → SqC K H' a1 xs c1) (h2 : ∀ H', Same H1 H' → SqC K H' a2 ys c2)
    (hs : ∀ i x y H' (R : VK), xs[i]? = some x → ys[i]? = some y → Same H1 H' → (∀ H4, Same H' H4 → R (f i) H4) → (fun σ2 H2 => Back σc σ2 ∧ te σ2 H2 R) ((σc.set j1 (some x)).set j2 (some y)) H')
    (hd : ∀ H', Same H1 H' → H' D = some (.lst ((List.range (min xs.length ys.length)).map f)) → Q (.ref D) H') : CompW (Itz K a1 a2 c1 c2) σc (gTup K 2 (gCons (gName j1) (gCons (gName j2) gNil))) tT te D H1 Q := by
  refine comp_mapJ (n := min xs.length ys.length) f hz hD (fun i H' hi sm => ⟨xs, ys, xs[i]'(by trivial), ys[i]'(by trivial), h1 H' sm, h2 H' sm, by rw [List.getElem?_eq_getElem (by trivial)], by rw [List.getElem?_eq_getElem (by trivial)]⟩) (fun H' sm => ⟨xs, ys, h1 H' sm, h2 H' sm, by trivial⟩) ?_ hd
  rintro i v H' H'' R hi sm ⟨T, x, y, hT, rfl, rfl, e1, e2⟩ k
  have st := Same.new (o := .tup [x, y]) hT
  exact ⟨T, _, rfl, SqT.of upd_same, rfl, _, _, rfl, _, _, rfl, rfl, hs i x y _ R (e1 _ (h1 H' sm)) (e2 _ (h2 H' sm)) (sm.trans st) fun H4 s4 => k H4 (st.trans s4)⟩
end
end L2
namespace L2
end L2
namespace L2
open PySem PySem.Spec PyProof.Rows
section
variable {X : Cx} {tg : Expr}
end
end L2
namespace L2
open PySem PySem.Spec PyProof.Rows
section
variable {X : Cx} {K : PySem.W.Frag} {o e : Expr} {es : List Expr} {to : TE} {t : TA} {name : Str} {apos cpos : Pos} {id : String} {r : V → List V → Hp → VK → Prop}
end
end L2
namespace L2
open PySem PyProof.Rows
section
variable {X : Cx} {elt tg iter : Expr} {ifs : List Expr} {scope : Scope} {pos : Pos} {N' : List Str} {L : Nat} {src : List Nat} {wi : TI} {g : TG} {tt : TT} {te : TE}
end
end L2
namespace HT
open PySem PySem.Spec PyProof.Rows
section
variable {prog : Program} {w : World} {A : Around} {E : Value → Shared → Prop} {s : Shared}
end
end HT
namespace L2
open PySem PySem.Spec PyProof.Rows
section
variable {X : Cx} {K : PySem.W.Frag}
end
section
variable {X : Cx} {e : Expr} {te : TE} {st : Expr} {ts : TO} {p2 pos : Pos}
end
end L2
namespace L2
open PySem PySem.Spec PyProof.Rows
end L2
namespace L2
open PySem PySem.Spec PyProof.Rows
section
variable {H H' H'' : Hp} {z n k m : Nat} {v : V} {E : Addr → Prop} {b th th' p : Addr} {xs ys zs : List V}
end
section
variable {E : Addr → Prop} {z : Nat} {H0 : Hp} {σ : St} {n k m : Nat} {te tb : TE} {ta : TA} {v : V} {i : Nat} {p : Addr} {xs : List V} {K : PySem.W.Frag}
end
section
variable {b th : Addr} {H0 : Hp} {σ : St} {zs : List V} {ta : TA} {te : TE} {n i : Nat} {Q : VK} {K : PySem.W.Frag}
end
end L2
namespace L2
open PySem PySem.Spec PyProof.Rows
theorem seqA {te : TE} {i : Nat} {u : TS} {D : Ends} {σ : St} {H : Hp} (h : ∀ Q : VK, (∀ v H', u D (σ.set i (some v)) H' → Q v H') → te σ H Q) : tSeq (tAsg te (gName i)) u D σ H := h _ fun _ _ z => z
theorem seqP {ta : TA} {i j : Nat} {u : TS} {D : Ends} {σ : St} {H : Hp} (h : ∀ Q : List V → Hp → Prop, (∀ v w H', u D ((σ.set i (some v)).set j (some w)) H' → Q [v, w] H') → ta σ H Q) : tSeq (tPar i j ta) u D σ H := h _ fun _ _ _ z => ⟨_, _, rfl, z⟩
theorem len1 {α : Type} {P : List α → Prop} (h : ∀ a, P [a]) : ∀ us : List α, us.length = 1 → P us := fun us hl => by
  cases us with
  | nil => cases hl
  | cons a r => cases r with
    | nil => exact h a
    | cons b r => simp at hl
theorem len2 {α : Type} {P : List α → Prop} (h : ∀ a b, P [a, b]) : ∀ us : List α, us.length = 2 → P us := fun us hl => by
  cases us with
  | nil => cases hl
  | cons a r => exact len1 (P := fun r => P (a :: r)) (fun b => h a b) r (by simpa using hl)
theorem len3 {α : Type} {P : List α → Prop} (h : ∀ a b c, P [a, b, c]) : ∀ us : List α, us.length = 3 → P us := fun us hl => by
  cases us with
  | nil => cases hl
  | cons a r => exact len2 (P := fun r => P (a :: r)) (fun b c => h a b c) r (by simpa using hl)
theorem len4 {α : Type} {P : List α → Prop} (h : ∀ a b c d, P [a, b, c, d]) : ∀ us : List α, us.length = 4 → P us := fun us hl => by
  cases us with
  | nil => cases hl
  | cons a r => exact len3 (P := fun r => P (a :: r)) (fun b c d => h a b c d) r (by simpa using hl)
end L2
namespace L2
open PySem PySem.Spec PyProof.Rows
theorem vals_get : ∀ {xs : List V} {us : List Value}, xs.length = us.length → (∀ (i : Nat) x u, xs[i]? = some x → us[i]? = some u → RelV x u) → Vals xs us
  | [], [], _, _ => .nil
  | x :: xs, u :: us, hl, h => .cons (h 0 x u rfl rfl) (vals_get (by simpa using hl) fun i y w e1 e2 => h (i + 1) y w e1 e2)
section
variable {X : Cx} {a : Expr} {ta : TA} {p p2 pos pos2 : Pos}
def rngL (n : Nat) : List V := (List.range n).map fun (k : Nat) => V.int (k : Int)
def tListR (ta : TA) : TE := fun σ H Q => ta σ H fun vs H1 => ∃ j : Int, vs = [.int j] ∧ 0 ≤ j ∧ j ≤ 10000 ∧ ∀ l H', Nw H1 l (.lst (rngL j.toNat)) H' → Q (.ref l) H'
theorem pe_listR (hc : X.calm = true) (hgL : Gl X "list") (hmL : X.mg "list" = none) (hvL : bootBuiltins "list" = some (.type "list")) (hgR : Gl X "range") (hmR : X.mg "range" = none) (ha : PA X [a] ta) (hs : starEach [a] X.env = [(false, eval a X.env)] := by rfl)
    (hs2 : starEach [Expr.Call (.Name "range" p2) [a] [] pos2] X.env = [(false, eval (Expr.Call (.Name "range" p2) [a] [] pos2) X.env)] := by rfl) : PE X (.Call (.Name "list" p) [.Call (.Name "range" p2) [a] [] pos2] [] pos) (tListR ta) := by
  intro pins s σ H Q I h
  refine wpAny_Call_Name_kw (ld_blt I hgL hmL hvL ?_ (by decide) (by decide))
  refine PyProof.Rows.callWith_type1 ?_ hs2 rfl
  rw [hs2]
  show wpAny _ _ (spliced ((false, eval (Expr.Call (.Name "range" p2) [a] [] pos2) X.env) :: [])) _ _ s
  refine Calls.spliced_cons ?_
  refine Call_ (ld_blt I hgR hmR boot_range (PyProof.Rows.callWith_type1 (thn (ha pos2 pins s σ H _ I h) fun us s1 ⟨vs, H1, I1, r1, q1⟩ => ?_) hs rfl))
  obtain ⟨j, e, q1, q2, q⟩ := q1
  subst e
  cases r1 with
  | cons r rr =>
    cases rr
    obtain ⟨t, rfl⟩ := r
    refine call_range_1 (Calls.spliced_nil ?_)
    have I2 : Inv X pins σ H1 { s1 with heap := s1.heap.push { cls := .type "range", data := .fields #[.int 0 s1.toks, .int j t, .int 1 (s1.toks + 1)] }, toks := s1.toks + 1 + 1 } := I1.kept fun b o e => Heap.get?_push_of_some _ e
    refine call_list_range (n := j.toNat) (I2.ok.hd hc) (IsRange.new ..) (small_one (by trivial) (by trivial) (by trivial) (by trivial)) (by rw [rangeSize_one]; split <;> trivial) (by trivial) fun h' tk acc' c' hk hS hacc => ?_
    have hz : (rngL j.toNat).length ≤ sizeLine := by rw [rngL, List.length_map, List.length_range, sizeLine_eq]; trivial
    have hv : Vals (rngL j.toNat) acc'.toList := by
      refine vals_get (by rw [rngL, List.length_map, List.length_range, Array.length_toList, hacc.1]) fun i x u e1 e2 => ?_
      obtain ⟨tk', rfl⟩ := hacc.2 i u (by simpa using e2)
      rw [rngL, List.getElem?_map] at e1
      obtain ⟨m, e3, rfl⟩ := Option.map_eq_some_iff.mp e1
      obtain ⟨_, rfl⟩ : i < j.toNat ∧ i = m := by
        have := List.getElem?_eq_some_iff.mp e3
        obtain ⟨h1, h2⟩ := this
        simp at h1 h2
        exact ⟨by trivial, h2⟩
      exact ⟨tk', by simp⟩
    refine ⟨.ref _, _, I2.laid (t' := tk) hk (Nat.le_refl _) (show ObjOk X.prog X.w _ h' _ (.lst (rngL j.toNat)) from ⟨hz, acc'.toList, c', hv, by simpa using hS⟩), rfl, q _ _ (.mk' (I2.hok.fresh (Nat.le_refl _)))⟩
inductive rPopA_ (x : V) (vs : List V) (H : Hp) (Q : VK) : Prop
  | mk (l : _) (xs : _) (i : _) (y : _) (h0 : x = .ref l) (h1 : vs = [.int (i : Nat)]) (h2 : H l = some (.lst xs)) (h3 : xs.length ≤ 10000) (h4 : xs[i]? = some y) (h5 : ∀ H', Ch H l (xs.eraseIdx i) H' → Q y H')
def rPopA : V → List V → Hp → VK → Prop := fun x vs H Q => rPopA_  x vs H Q
theorem mt_popA : MtM X "list.pop" rPopA := by
  intro pins s σ H x vs v us Q I rx rv h
  obtain ⟨l, xs, i, y, e1, e2, hH, hz, hy, q⟩ := h
  have hi : i < xs.length := (List.getElem?_eq_some_iff.mp hy).1
  refine mt_popAt pins s σ H x vs v us Q I rx rv ⟨l, xs, _, i, y, e1, e2, hH, by trivial, by trivial, ?_, hy, q _ .mk'⟩
  have h0 : ¬ ((i : Int) < 0) := by trivial
  simp [seqIndex?, h0, hi]
inductive rIndexA_ (x : V) (vs : List V) (H : Hp) (Q : VK) : Prop
  | mk (l : Addr) (ks : List Int) (k : Int) (j : Nat) (h0 : x = .ref l) (h1 : vs = [.int k]) (h2 : H l = some (.lst (ks.map V.int))) (h3 : ks.length ≤ 10000) (h4 : ks[j]? = some k) (h5 : (∀ m, m < j → ks[m]? ≠ some k)) (h6 : Q (.int (j : Int)) H)
def rIndexA : V → List V → Hp → VK → Prop := fun x vs H Q => rIndexA_  x vs H Q
theorem mt_indexA : MtM X "list.index" rIndexA := by
  intro pins s σ H x vs v us Q I rx rv h
  obtain ⟨l, ks, k, j, rfl, rfl, hH, hz, hj, hno, q⟩ := h
  cases rx
  obtain ⟨u, rfl, ru⟩ := rv.one
  obtain ⟨t, rfl⟩ := ru
  obtain ⟨z, its, n, r, hl, e⟩ := I.lstM hH
  have hlen : ks.length = its.length := by rw [← hl, List.length_map]
  have isI : ∀ (m : Nat) (w : Value), its[m]? = some w → Ex2 fun i t' => ks[m]? = some i ∧ w = .int i t' := fun m w hw => by
    obtain ⟨i, hi⟩ : ∃ i, ks[m]? = some i := ⟨_, List.getElem?_eq_getElem (by rw [hlen]; exact (List.getElem?_eq_some_iff.mp hw).1)⟩
    obtain ⟨w', hw', rw'⟩ := r.get (show (ks.map V.int)[m]? = some (V.int i) by rw [List.getElem?_map, hi]; rfl)
    rw [hw] at hw'
    cases hw'
    obtain ⟨t', rfl⟩ := rw'
    exact ⟨i, t', hi, rfl⟩
  have hji : j < its.length := by rw [← hlen]; exact (List.getElem?_eq_some_iff.mp hj).1
  refine call_meets F.slot_list_index ⟨_, e, rfl⟩ F.entry_list_index (F.args_list_index_2 _ _)
    (MeetsSeq.list_index l its.toArray n (.int k t) (fun y => match y with | .int i _ => i == k | _ => false) (fun y hy => ?_) j (by simpa using hji) (by trivial) ?_ (fun m hm hlt => ?_)) ⟨e, ?_⟩
  · obtain ⟨m, hm⟩ := List.getElem?_of_mem (by simpa using hy : y ∈ its)
    obtain ⟨i, t', _, rfl⟩ := isI m y hm
    exact MeetsSeq.EqGives.int i k t' t
  · obtain ⟨i, t', e1, e2⟩ := isI j its[j] (List.getElem?_eq_getElem hji)
    rw [hj] at e1
    cases e1
    simp only [List.getElem_toArray, e2, beq_self_eq_true]
  · have hm' : m < its.length := by simpa using hm
    obtain ⟨i, t', e1, e2⟩ := isI m its[m] (List.getElem?_eq_getElem hm')
    have := hno m hlt
    rw [e1] at this
    simp only [List.getElem_toArray, e2]
    simpa using fun z => this (by rw [z])
  · exact ⟨.int (j : Int), H, I.tok _, ⟨_, rfl⟩, q⟩
end
end L2
set_option maxHeartbeats 4000000
namespace K09
open PySem L2
def top (i : Nat) : Stmt := PySem.Challenge.pw_gainroads_k09_gains_along_ways.main.body.getD i (.Pass ⟨0, 0, 0, 0⟩)
abbrev s_is_number : Stmt := top 1
abbrev s_common_divisor : Stmt := top 2
abbrev s_fraction : Stmt := top 3
abbrev s_times : Stmt := top 4
abbrev s_over : Stmt := top 5
abbrev s_compared : Stmt := top 6
abbrev s_least : Stmt := top 7
abbrev s_are_ties : Stmt := top 9
abbrev s_is_way : Stmt := top 10
abbrev s_is_round : Stmt := top 11
abbrev s_gain_of : Stmt := top 12
abbrev s_goes_on : Stmt := top 13
abbrev s_room_of : Stmt := top 14
abbrev s_l_box_of : Stmt := top 16
abbrev s_l_take : Stmt := top 17
abbrev s_l_folded : Stmt := top 18
abbrev s_l_lowest : Stmt := top 19
abbrev s_l_sum : Stmt := top 20
abbrev s_l_product : Stmt := top 22
abbrev s_l_names_by : Stmt := top 23
abbrev s_l_gain_by : Stmt := top 24
abbrev s_l_most_by : Stmt := top 25
abbrev s_l_like : Stmt := top 29
abbrev s_l_mixed : Stmt := top 30
abbrev s_l_chain_by : Stmt := top 31
abbrev s_l_eight_by : Stmt := top 32
abbrev s_l_all_in : Stmt := top 33
abbrev s_l_right : Stmt := top 34
abbrev s_law : Stmt := top 35
theorem sc_is_number : FnScope ["thing"] ["thing"] (defScope s_is_number) := ⟨rfl, rfl, rfl, by decide +kernel, rfl, by decide +kernel, by decide +kernel⟩
theorem sc_common_divisor : FnScope ["n", "d"] ["n", "d"] (defScope s_common_divisor) := ⟨rfl, rfl, rfl, by decide +kernel, rfl, by decide +kernel, by decide +kernel⟩
theorem sc_fraction : FnScope ["n", "d", "divisor"] ["n", "d"] (defScope s_fraction) := ⟨rfl, rfl, rfl, by decide +kernel, rfl, by decide +kernel, by decide +kernel⟩
theorem sc_times : FnScope ["one", "other"] ["one", "other"] (defScope s_times) := ⟨rfl, rfl, rfl, by decide +kernel, rfl, by decide +kernel, by decide +kernel⟩
theorem sc_over : FnScope ["one", "other"] ["one", "other"] (defScope s_over) := ⟨rfl, rfl, rfl, by decide +kernel, rfl, by decide +kernel, by decide +kernel⟩
theorem sc_compared : FnScope ["one", "other", "left", "right"] ["one", "other"] (defScope s_compared) := ⟨rfl, rfl, rfl, by decide +kernel, rfl, by decide +kernel, by decide +kernel⟩
theorem sc_least : FnScope ["parts", "best", "part"] ["parts"] (defScope s_least) := ⟨rfl, rfl, rfl, by decide +kernel, rfl, by decide +kernel, by decide +kernel⟩
theorem sc_are_ties : FnScope ["net", "thing"] ["net", "thing"] (defScope s_are_ties) := ⟨rfl, rfl, rfl, by decide +kernel, rfl, by decide +kernel, by decide +kernel⟩
theorem sc_is_way : FnScope ["net", "thing"] ["net", "thing"] (defScope s_is_way) := ⟨rfl, rfl, rfl, by decide +kernel, rfl, by decide +kernel, by decide +kernel⟩
theorem sc_is_round : FnScope ["net", "thing", "begins"] ["net", "thing"] (defScope s_is_round) := ⟨rfl, rfl, rfl, by decide +kernel, rfl, by decide +kernel, by decide +kernel⟩
theorem sc_gain_of : FnScope ["net", "way", "gain", "number"] ["net", "way"] (defScope s_gain_of) := ⟨rfl, rfl, rfl, by decide +kernel, rfl, by decide +kernel, by decide +kernel⟩
theorem sc_goes_on : FnScope ["net", "way", "much", "goes", "number"] ["net", "way", "much"] (defScope s_goes_on) := ⟨rfl, rfl, rfl, by decide +kernel, rfl, by decide +kernel, by decide +kernel⟩
theorem sc_room_of : FnScope ["net", "way", "shares"] ["net", "way"] (defScope s_room_of) := ⟨rfl, rfl, rfl, by decide +kernel, rfl, by decide +kernel, by decide +kernel⟩
theorem sc_l_box_of : FnScope ["_law_script", "_law_k", "_law_cell"] ["_law_script", "_law_k"] (defScope s_l_box_of) := ⟨rfl, rfl, rfl, by decide +kernel, rfl, by decide +kernel, by decide +kernel⟩
theorem sc_l_take : FnScope ["_law_box", "_law_many", "_law_found", "_law_once"] ["_law_box", "_law_many"] (defScope s_l_take) := ⟨rfl, rfl, rfl, by decide +kernel, rfl, by decide +kernel, by decide +kernel⟩
theorem sc_l_folded : FnScope ["_law_script", "_law_many", "_law_cells", "_law_k", "_law_cell"] ["_law_script", "_law_many"] (defScope s_l_folded) := ⟨rfl, rfl, rfl, by decide +kernel, rfl, by decide +kernel, by decide +kernel⟩
theorem sc_l_lowest : FnScope ["_law_n", "_law_d", "_law_one", "_law_other"] ["_law_n", "_law_d"] (defScope s_l_lowest) := ⟨rfl, rfl, rfl, by decide +kernel, rfl, by decide +kernel, by decide +kernel⟩
theorem sc_l_sum : FnScope ["_law_p", "_law_q"] ["_law_p", "_law_q"] (defScope s_l_sum) := ⟨rfl, rfl, rfl, by decide +kernel, rfl, by decide +kernel, by decide +kernel⟩
theorem sc_l_product : FnScope ["_law_p", "_law_q"] ["_law_p", "_law_q"] (defScope s_l_product) := ⟨rfl, rfl, rfl, by decide +kernel, rfl, by decide +kernel, by decide +kernel⟩
theorem sc_l_names_by : FnScope ["_law_box", "_law_many", "_law_letters", "_law_first", "_law_k", "_law_row", "_law_found", "_law_more"] ["_law_box", "_law_many"] (defScope s_l_names_by) := ⟨rfl, rfl, rfl, by decide +kernel, rfl, by decide +kernel, by decide +kernel⟩
theorem sc_l_gain_by : FnScope ["_law_box", "_law_way", "_law_wide"] ["_law_box"] (defScope s_l_gain_by) := ⟨rfl, rfl, rfl, by decide +kernel, rfl, by decide +kernel, by decide +kernel⟩
theorem sc_l_most_by : FnScope ["_law_box", "_law_way"] ["_law_box"] (defScope s_l_most_by) := ⟨rfl, rfl, rfl, by decide +kernel, rfl, by decide +kernel, by decide +kernel⟩
theorem sc_l_like : FnScope ["_law_found", "_law_due"] ["_law_found", "_law_due"] (defScope s_l_like) := ⟨rfl, rfl, rfl, by decide +kernel, rfl, by decide +kernel, by decide +kernel⟩
theorem sc_l_mixed : FnScope ["_law_box", "_law_things", "_law_left_ones", "_law_found"] ["_law_box", "_law_things"] (defScope s_l_mixed) := ⟨rfl, rfl, rfl, by decide +kernel, rfl, by decide +kernel, by decide +kernel⟩
theorem sc_l_chain_by : FnScope ["_law_box", "_law_home", "_law_many", "_law_places", "_law_row", "_law_ties", "_law_order", "_law_mixed_here"] ["_law_box"] (defScope s_l_chain_by) := ⟨rfl, rfl, rfl, by decide +kernel, rfl, by decide +kernel, by decide +kernel⟩
theorem sc_l_eight_by : FnScope ["_law_box", "_law_names", "_law_first", "_law_pairs", "_law_ties"] ["_law_box"] (defScope s_l_eight_by) := ⟨rfl, rfl, rfl, by decide +kernel, rfl, by decide +kernel, by decide +kernel⟩
theorem sc_l_all_in : FnScope ["_law_net", "_law_way", "_law_much", "_law_found", "_law_fits", "_law_number", "_law_top"] ["_law_net", "_law_way", "_law_much"] (defScope s_l_all_in) := ⟨rfl, rfl, rfl, by decide +kernel, rfl, by decide +kernel, by decide +kernel⟩
theorem sc_l_right : FnScope ["_law_net", "_law_way", "_law_much", "_law_product_here", "_law_number", "_law_turn", "_law_found", "_law_room", "_law_on", "_law_fits"] ["_law_net", "_law_way", "_law_much"] (defScope s_l_right) := ⟨rfl, rfl, rfl, by decide +kernel, rfl, by decide +kernel, by decide +kernel⟩
theorem sc_law : FnScope ["_law_script", "_law_cells", "_law_k", "_law_box", "_law_much", "_law_net", "_law_way", "_law_home", "_law_kept", "_law_some", "_law_eight", "_law_around"] ["_law_script"] (defScope s_law) := ⟨rfl, rfl, rfl, by decide +kernel, rfl, by decide +kernel, by decide +kernel⟩
end K09
namespace K09
open PySem L2
set_option genInjectivity false in
set_option genSizeOf false in
structure Txt (K : PySem.W.Frag) (mg : Str → Option Value) where
  b_abs : mg "abs" = none
  b_all : mg "all" = none
  b_any : mg "any" = none
  b_bool : mg "bool" = none
  b_divmod : mg "divmod" = none
  b_enumerate : mg "enumerate" = none
  b_int : mg "int" = none
  b_isinstance : mg "isinstance" = none
  b_len : mg "len" = none
  b_list : mg "list" = none
  b_range : mg "range" = none
  b_set : mg "set" = none
  b_str : mg "str" = none
  b_tuple : mg "tuple" = none
  b_zip : mg "zip" = none
  f_is_number : Addr
  d_is_number : FuncData
  m_is_number : mg "is_number" = some (.ref f_is_number)
  F_is_number : Fun K "is_number" "is_number" s_is_number f_is_number d_is_number
  B_is_number : Binds K d_is_number ["thing"] []
  f_common_divisor : Addr
  d_common_divisor : FuncData
  m_common_divisor : mg "common_divisor" = some (.ref f_common_divisor)
  F_common_divisor : Fun K "common_divisor" "common_divisor" s_common_divisor f_common_divisor d_common_divisor
  B_common_divisor : Binds K d_common_divisor ["n", "d"] []
  f_fraction : Addr
  d_fraction : FuncData
  m_fraction : mg "fraction" = some (.ref f_fraction)
  F_fraction : Fun K "fraction" "fraction" s_fraction f_fraction d_fraction
  B_fraction : Binds K d_fraction ["n", "d"] []
  f_times : Addr
  d_times : FuncData
  m_times : mg "times" = some (.ref f_times)
  F_times : Fun K "times" "times" s_times f_times d_times
  B_times : Binds K d_times ["one", "other"] []
  f_over : Addr
  d_over : FuncData
  m_over : mg "over" = some (.ref f_over)
  F_over : Fun K "over" "over" s_over f_over d_over
  B_over : Binds K d_over ["one", "other"] []
  f_compared : Addr
  d_compared : FuncData
  m_compared : mg "compared" = some (.ref f_compared)
  F_compared : Fun K "compared" "compared" s_compared f_compared d_compared
  B_compared : Binds K d_compared ["one", "other"] []
  f_least : Addr
  d_least : FuncData
  m_least : mg "least" = some (.ref f_least)
  F_least : Fun K "least" "least" s_least f_least d_least
  B_least : Binds K d_least ["parts"] []
  f_are_ties : Addr
  d_are_ties : FuncData
  m_are_ties : mg "are_ties" = some (.ref f_are_ties)
  F_are_ties : Fun K "are_ties" "are_ties" s_are_ties f_are_ties d_are_ties
  B_are_ties : Binds K d_are_ties ["net", "thing"] []
  f_is_way : Addr
  d_is_way : FuncData
  m_is_way : mg "is_way" = some (.ref f_is_way)
  F_is_way : Fun K "is_way" "is_way" s_is_way f_is_way d_is_way
  B_is_way : Binds K d_is_way ["net", "thing"] []
  f_is_round : Addr
  d_is_round : FuncData
  m_is_round : mg "is_round" = some (.ref f_is_round)
  F_is_round : Fun K "is_round" "is_round" s_is_round f_is_round d_is_round
  B_is_round : Binds K d_is_round ["net", "thing"] []
  f_gain_of : Addr
  d_gain_of : FuncData
  m_gain_of : mg "gain_of" = some (.ref f_gain_of)
  F_gain_of : Fun K "gain_of" "gain_of" s_gain_of f_gain_of d_gain_of
  B_gain_of : Binds K d_gain_of ["net", "way"] []
  f_goes_on : Addr
  d_goes_on : FuncData
  m_goes_on : mg "goes_on" = some (.ref f_goes_on)
  F_goes_on : Fun K "goes_on" "goes_on" s_goes_on f_goes_on d_goes_on
  B_goes_on : Binds K d_goes_on ["net", "way", "much"] []
  f_room_of : Addr
  d_room_of : FuncData
  m_room_of : mg "room_of" = some (.ref f_room_of)
  F_room_of : Fun K "room_of" "room_of" s_room_of f_room_of d_room_of
  B_room_of : Binds K d_room_of ["net", "way"] []
  f_l_box_of : Addr
  d_l_box_of : FuncData
  m_l_box_of : mg "_law_box_of" = some (.ref f_l_box_of)
  F_l_box_of : Fun K "_law_box_of" "_law_box_of" s_l_box_of f_l_box_of d_l_box_of
  B_l_box_of : Binds K d_l_box_of ["_law_script", "_law_k"] []
  f_l_take : Addr
  d_l_take : FuncData
  m_l_take : mg "_law_take" = some (.ref f_l_take)
  F_l_take : Fun K "_law_take" "_law_take" s_l_take f_l_take d_l_take
  B_l_take : Binds K d_l_take ["_law_box", "_law_many"] []
  f_l_folded : Addr
  d_l_folded : FuncData
  m_l_folded : mg "_law_folded" = some (.ref f_l_folded)
  F_l_folded : Fun K "_law_folded" "_law_folded" s_l_folded f_l_folded d_l_folded
  B_l_folded : Binds K d_l_folded ["_law_script", "_law_many"] []
  f_l_lowest : Addr
  d_l_lowest : FuncData
  m_l_lowest : mg "_law_lowest" = some (.ref f_l_lowest)
  F_l_lowest : Fun K "_law_lowest" "_law_lowest" s_l_lowest f_l_lowest d_l_lowest
  B_l_lowest : Binds K d_l_lowest ["_law_n", "_law_d"] []
  f_l_sum : Addr
  d_l_sum : FuncData
  m_l_sum : mg "_law_sum" = some (.ref f_l_sum)
  F_l_sum : Fun K "_law_sum" "_law_sum" s_l_sum f_l_sum d_l_sum
  B_l_sum : Binds K d_l_sum ["_law_p", "_law_q"] []
  f_l_product : Addr
  d_l_product : FuncData
  m_l_product : mg "_law_product" = some (.ref f_l_product)
  F_l_product : Fun K "_law_product" "_law_product" s_l_product f_l_product d_l_product
  B_l_product : Binds K d_l_product ["_law_p", "_law_q"] []
  f_l_names_by : Addr
  d_l_names_by : FuncData
  m_l_names_by : mg "_law_names_by" = some (.ref f_l_names_by)
  F_l_names_by : Fun K "_law_names_by" "_law_names_by" s_l_names_by f_l_names_by d_l_names_by
  B_l_names_by : Binds K d_l_names_by ["_law_box", "_law_many"] []
  f_l_gain_by : Addr
  d_l_gain_by : FuncData
  m_l_gain_by : mg "_law_gain_by" = some (.ref f_l_gain_by)
  F_l_gain_by : Fun K "_law_gain_by" "_law_gain_by" s_l_gain_by f_l_gain_by d_l_gain_by
  B_l_gain_by : Binds K d_l_gain_by ["_law_box"] []
  f_l_most_by : Addr
  d_l_most_by : FuncData
  m_l_most_by : mg "_law_most_by" = some (.ref f_l_most_by)
  F_l_most_by : Fun K "_law_most_by" "_law_most_by" s_l_most_by f_l_most_by d_l_most_by
  B_l_most_by : Binds K d_l_most_by ["_law_box"] []
  f_l_like : Addr
  d_l_like : FuncData
  m_l_like : mg "_law_like" = some (.ref f_l_like)
  F_l_like : Fun K "_law_like" "_law_like" s_l_like f_l_like d_l_like
  B_l_like : Binds K d_l_like ["_law_found", "_law_due"] []
  f_l_mixed : Addr
  d_l_mixed : FuncData
  m_l_mixed : mg "_law_mixed" = some (.ref f_l_mixed)
  F_l_mixed : Fun K "_law_mixed" "_law_mixed" s_l_mixed f_l_mixed d_l_mixed
  B_l_mixed : Binds K d_l_mixed ["_law_box", "_law_things"] []
  f_l_chain_by : Addr
  d_l_chain_by : FuncData
  m_l_chain_by : mg "_law_chain_by" = some (.ref f_l_chain_by)
  F_l_chain_by : Fun K "_law_chain_by" "_law_chain_by" s_l_chain_by f_l_chain_by d_l_chain_by
  B_l_chain_by : Binds K d_l_chain_by ["_law_box"] []
  f_l_eight_by : Addr
  d_l_eight_by : FuncData
  m_l_eight_by : mg "_law_eight_by" = some (.ref f_l_eight_by)
  F_l_eight_by : Fun K "_law_eight_by" "_law_eight_by" s_l_eight_by f_l_eight_by d_l_eight_by
  B_l_eight_by : Binds K d_l_eight_by ["_law_box"] []
  f_l_all_in : Addr
  d_l_all_in : FuncData
  m_l_all_in : mg "_law_all_in" = some (.ref f_l_all_in)
  F_l_all_in : Fun K "_law_all_in" "_law_all_in" s_l_all_in f_l_all_in d_l_all_in
  B_l_all_in : Binds K d_l_all_in ["_law_net", "_law_way", "_law_much"] []
  f_l_right : Addr
  d_l_right : FuncData
  m_l_right : mg "_law_right" = some (.ref f_l_right)
  F_l_right : Fun K "_law_right" "_law_right" s_l_right f_l_right d_l_right
  B_l_right : Binds K d_l_right ["_law_net", "_law_way", "_law_much"] []
  f_law : Addr
  d_law : FuncData
  m_law : mg "law" = some (.ref f_law)
  F_law : Fun K "law" "law" s_law f_law d_law
  B_law : Binds K d_law ["_law_script"] []
theorem txt_mk {K : PySem.W.Frag} {h : Heap} {mg : Str → Option Value} (X : K.In h) (G : h.Ns mainGlobals mg)
    {f0 f1 f2 f3 f4 f5 f6 f7 f8 f9 f10 f11 f12 f13 f14 f15 f16 f17 f18 f19 f20 f21 f22 f23 f24 f25 f26 f27 f28 : Addr} {od0 an0 od1 an1 od2 an2 od3 an3 od4 an4 od5 an5 od6 an6 od7 an7 od8 an8 od9 an9 od10 an10 od11 an11 od12 an12 od13 an13 od14 an14 od15 an15 od16 an16 od17 an17 od18 an18 od19 an19 od20 an20 od21 an21 od22 an22 od23 an23 od24 an24 od25 an25 od26 an26 od27 an27 od28 an28 : Option Addr} {sl0 sl1 sl2 sl3 sl4 sl5 sl6 sl7 sl8 sl9 sl10 sl11 sl12 sl13 sl14 sl15 sl16 sl17 sl18 sl19 sl20 sl21 sl22 sl23 sl24 sl25 sl26 sl27 sl28 : Array (Option Value)} {oc0 kV0 dc0 pm0 cd0 ct0 oc1 kV1 dc1 pm1 cd1 ct1 oc2 kV2 dc2 pm2 cd2 ct2 oc3 kV3 dc3 pm3 cd3 ct3 oc4 kV4 dc4 pm4 cd4 ct4 oc5 kV5 dc5 pm5 cd5 ct5 oc6 kV6 dc6 pm6 cd6 ct6 oc7 kV7 dc7 pm7 cd7 ct7 oc8 kV8 dc8 pm8 cd8 ct8 oc9 kV9 dc9 pm9 cd9 ct9 oc10 kV10 dc10 pm10 cd10 ct10 oc11 kV11 dc11 pm11 cd11 ct11 oc12 kV12 dc12 pm12 cd12 ct12 oc13 kV13 dc13 pm13 cd13 ct13 oc14 kV14 dc14 pm14 cd14 ct14 oc15 kV15 dc15 pm15 cd15 ct15 oc16 kV16 dc16 pm16 cd16 ct16 oc17 kV17 dc17 pm17 cd17 ct17 oc18 kV18 dc18 pm18 cd18 ct18 oc19 kV19 dc19 pm19 cd19 ct19 oc20 kV20 dc20 pm20 cd20 ct20 oc21 kV21 dc21 pm21 cd21 ct21 oc22 kV22 dc22 pm22 cd22 ct22 oc23 kV23 dc23 pm23 cd23 ct23 oc24 kV24 dc24 pm24 cd24 ct24 oc25 kV25 dc25 pm25 cd25 ct25 oc26 kV26 dc26 pm26 cd26 ct26 oc27 kV27 dc27 pm27 cd27 ct27 oc28 kV28 dc28 pm28 cd28 ct28 : Value}
    (a0 : PySem.W.nsIn K mainGlobals "is_number" = some (some (.ref f0))) (l0 : K.lookup f0 = some ⟨oc0, od0, .func (PySem.W.fnOf "is_number" "is_number" (defArgs s_is_number) (defBody s_is_number) (defScope s_is_number) .none kV0 dc0 pm0 an0 cd0 ct0), sl0⟩) (c0 : PySem.W.codeIn K cd0 "is_number" = true) (k0 : PySem.W.keepIn K (.ref f0) = true)
    (a1 : PySem.W.nsIn K mainGlobals "common_divisor" = some (some (.ref f1))) (l1 : K.lookup f1 = some ⟨oc1, od1, .func (PySem.W.fnOf "common_divisor" "common_divisor" (defArgs s_common_divisor) (defBody s_common_divisor) (defScope s_common_divisor) .none kV1 dc1 pm1 an1 cd1 ct1), sl1⟩) (c1 : PySem.W.codeIn K cd1 "common_divisor" = true) (k1 : PySem.W.keepIn K (.ref f1) = true)
    (a2 : PySem.W.nsIn K mainGlobals "fraction" = some (some (.ref f2))) (l2 : K.lookup f2 = some ⟨oc2, od2, .func (PySem.W.fnOf "fraction" "fraction" (defArgs s_fraction) (defBody s_fraction) (defScope s_fraction) .none kV2 dc2 pm2 an2 cd2 ct2), sl2⟩) (c2 : PySem.W.codeIn K cd2 "fraction" = true) (k2 : PySem.W.keepIn K (.ref f2) = true)
    (a3 : PySem.W.nsIn K mainGlobals "times" = some (some (.ref f3))) (l3 : K.lookup f3 = some ⟨oc3, od3, .func (PySem.W.fnOf "times" "times" (defArgs s_times) (defBody s_times) (defScope s_times) .none kV3 dc3 pm3 an3 cd3 ct3), sl3⟩) (c3 : PySem.W.codeIn K cd3 "times" = true) (k3 : PySem.W.keepIn K (.ref f3) = true)
    (a4 : PySem.W.nsIn K mainGlobals "over" = some (some (.ref f4))) (l4 : K.lookup f4 = some ⟨oc4, od4, .func (PySem.W.fnOf "over" "over" (defArgs s_over) (defBody s_over) (defScope s_over) .none kV4 dc4 pm4 an4 cd4 ct4), sl4⟩) (c4 : PySem.W.codeIn K cd4 "over" = true) (k4 : PySem.W.keepIn K (.ref f4) = true)
    (a5 : PySem.W.nsIn K mainGlobals "compared" = some (some (.ref f5))) (l5 : K.lookup f5 = some ⟨oc5, od5, .func (PySem.W.fnOf "compared" "compared" (defArgs s_compared) (defBody s_compared) (defScope s_compared) .none kV5 dc5 pm5 an5 cd5 ct5), sl5⟩) (c5 : PySem.W.codeIn K cd5 "compared" = true) (k5 : PySem.W.keepIn K (.ref f5) = true)
    (a6 : PySem.W.nsIn K mainGlobals "least" = some (some (.ref f6))) (l6 : K.lookup f6 = some ⟨oc6, od6, .func (PySem.W.fnOf "least" "least" (defArgs s_least) (defBody s_least) (defScope s_least) .none kV6 dc6 pm6 an6 cd6 ct6), sl6⟩) (c6 : PySem.W.codeIn K cd6 "least" = true) (k6 : PySem.W.keepIn K (.ref f6) = true)
    (a7 : PySem.W.nsIn K mainGlobals "are_ties" = some (some (.ref f7))) (l7 : K.lookup f7 = some ⟨oc7, od7, .func (PySem.W.fnOf "are_ties" "are_ties" (defArgs s_are_ties) (defBody s_are_ties) (defScope s_are_ties) .none kV7 dc7 pm7 an7 cd7 ct7), sl7⟩) (c7 : PySem.W.codeIn K cd7 "are_ties" = true) (k7 : PySem.W.keepIn K (.ref f7) = true)
    (a8 : PySem.W.nsIn K mainGlobals "is_way" = some (some (.ref f8))) (l8 : K.lookup f8 = some ⟨oc8, od8, .func (PySem.W.fnOf "is_way" "is_way" (defArgs s_is_way) (defBody s_is_way) (defScope s_is_way) .none kV8 dc8 pm8 an8 cd8 ct8), sl8⟩) (c8 : PySem.W.codeIn K cd8 "is_way" = true) (k8 : PySem.W.keepIn K (.ref f8) = true)
    (a9 : PySem.W.nsIn K mainGlobals "is_round" = some (some (.ref f9))) (l9 : K.lookup f9 = some ⟨oc9, od9, .func (PySem.W.fnOf "is_round" "is_round" (defArgs s_is_round) (defBody s_is_round) (defScope s_is_round) .none kV9 dc9 pm9 an9 cd9 ct9), sl9⟩) (c9 : PySem.W.codeIn K cd9 "is_round" = true) (k9 : PySem.W.keepIn K (.ref f9) = true)
    (a10 : PySem.W.nsIn K mainGlobals "gain_of" = some (some (.ref f10))) (l10 : K.lookup f10 = some ⟨oc10, od10, .func (PySem.W.fnOf "gain_of" "gain_of" (defArgs s_gain_of) (defBody s_gain_of) (defScope s_gain_of) .none kV10 dc10 pm10 an10 cd10 ct10), sl10⟩) (c10 : PySem.W.codeIn K cd10 "gain_of" = true) (k10 : PySem.W.keepIn K (.ref f10) = true)
    (a11 : PySem.W.nsIn K mainGlobals "goes_on" = some (some (.ref f11))) (l11 : K.lookup f11 = some ⟨oc11, od11, .func (PySem.W.fnOf "goes_on" "goes_on" (defArgs s_goes_on) (defBody s_goes_on) (defScope s_goes_on) .none kV11 dc11 pm11 an11 cd11 ct11), sl11⟩) (c11 : PySem.W.codeIn K cd11 "goes_on" = true) (k11 : PySem.W.keepIn K (.ref f11) = true)
    (a12 : PySem.W.nsIn K mainGlobals "room_of" = some (some (.ref f12))) (l12 : K.lookup f12 = some ⟨oc12, od12, .func (PySem.W.fnOf "room_of" "room_of" (defArgs s_room_of) (defBody s_room_of) (defScope s_room_of) .none kV12 dc12 pm12 an12 cd12 ct12), sl12⟩) (c12 : PySem.W.codeIn K cd12 "room_of" = true) (k12 : PySem.W.keepIn K (.ref f12) = true)
    (a13 : PySem.W.nsIn K mainGlobals "_law_box_of" = some (some (.ref f13))) (l13 : K.lookup f13 = some ⟨oc13, od13, .func (PySem.W.fnOf "_law_box_of" "_law_box_of" (defArgs s_l_box_of) (defBody s_l_box_of) (defScope s_l_box_of) .none kV13 dc13 pm13 an13 cd13 ct13), sl13⟩) (c13 : PySem.W.codeIn K cd13 "_law_box_of" = true) (k13 : PySem.W.keepIn K (.ref f13) = true)
    (a14 : PySem.W.nsIn K mainGlobals "_law_take" = some (some (.ref f14))) (l14 : K.lookup f14 = some ⟨oc14, od14, .func (PySem.W.fnOf "_law_take" "_law_take" (defArgs s_l_take) (defBody s_l_take) (defScope s_l_take) .none kV14 dc14 pm14 an14 cd14 ct14), sl14⟩) (c14 : PySem.W.codeIn K cd14 "_law_take" = true) (k14 : PySem.W.keepIn K (.ref f14) = true)
    (a15 : PySem.W.nsIn K mainGlobals "_law_folded" = some (some (.ref f15))) (l15 : K.lookup f15 = some ⟨oc15, od15, .func (PySem.W.fnOf "_law_folded" "_law_folded" (defArgs s_l_folded) (defBody s_l_folded) (defScope s_l_folded) .none kV15 dc15 pm15 an15 cd15 ct15), sl15⟩) (c15 : PySem.W.codeIn K cd15 "_law_folded" = true) (k15 : PySem.W.keepIn K (.ref f15) = true)
    (a16 : PySem.W.nsIn K mainGlobals "_law_lowest" = some (some (.ref f16))) (l16 : K.lookup f16 = some ⟨oc16, od16, .func (PySem.W.fnOf "_law_lowest" "_law_lowest" (defArgs s_l_lowest) (defBody s_l_lowest) (defScope s_l_lowest) .none kV16 dc16 pm16 an16 cd16 ct16), sl16⟩) (c16 : PySem.W.codeIn K cd16 "_law_lowest" = true) (k16 : PySem.W.keepIn K (.ref f16) = true)
    (a17 : PySem.W.nsIn K mainGlobals "_law_sum" = some (some (.ref f17))) (l17 : K.lookup f17 = some ⟨oc17, od17, .func (PySem.W.fnOf "_law_sum" "_law_sum" (defArgs s_l_sum) (defBody s_l_sum) (defScope s_l_sum) .none kV17 dc17 pm17 an17 cd17 ct17), sl17⟩) (c17 : PySem.W.codeIn K cd17 "_law_sum" = true) (k17 : PySem.W.keepIn K (.ref f17) = true)
    (a18 : PySem.W.nsIn K mainGlobals "_law_product" = some (some (.ref f18))) (l18 : K.lookup f18 = some ⟨oc18, od18, .func (PySem.W.fnOf "_law_product" "_law_product" (defArgs s_l_product) (defBody s_l_product) (defScope s_l_product) .none kV18 dc18 pm18 an18 cd18 ct18), sl18⟩) (c18 : PySem.W.codeIn K cd18 "_law_product" = true) (k18 : PySem.W.keepIn K (.ref f18) = true)
    (a19 : PySem.W.nsIn K mainGlobals "_law_names_by" = some (some (.ref f19))) (l19 : K.lookup f19 = some ⟨oc19, od19, .func (PySem.W.fnOf "_law_names_by" "_law_names_by" (defArgs s_l_names_by) (defBody s_l_names_by) (defScope s_l_names_by) .none kV19 dc19 pm19 an19 cd19 ct19), sl19⟩) (c19 : PySem.W.codeIn K cd19 "_law_names_by" = true) (k19 : PySem.W.keepIn K (.ref f19) = true)
    (a20 : PySem.W.nsIn K mainGlobals "_law_gain_by" = some (some (.ref f20))) (l20 : K.lookup f20 = some ⟨oc20, od20, .func (PySem.W.fnOf "_law_gain_by" "_law_gain_by" (defArgs s_l_gain_by) (defBody s_l_gain_by) (defScope s_l_gain_by) .none kV20 dc20 pm20 an20 cd20 ct20), sl20⟩) (c20 : PySem.W.codeIn K cd20 "_law_gain_by" = true) (k20 : PySem.W.keepIn K (.ref f20) = true)
    (a21 : PySem.W.nsIn K mainGlobals "_law_most_by" = some (some (.ref f21))) (l21 : K.lookup f21 = some ⟨oc21, od21, .func (PySem.W.fnOf "_law_most_by" "_law_most_by" (defArgs s_l_most_by) (defBody s_l_most_by) (defScope s_l_most_by) .none kV21 dc21 pm21 an21 cd21 ct21), sl21⟩) (c21 : PySem.W.codeIn K cd21 "_law_most_by" = true) (k21 : PySem.W.keepIn K (.ref f21) = true)
    (a22 : PySem.W.nsIn K mainGlobals "_law_like" = some (some (.ref f22))) (l22 : K.lookup f22 = some ⟨oc22, od22, .func (PySem.W.fnOf "_law_like" "_law_like" (defArgs s_l_like) (defBody s_l_like) (defScope s_l_like) .none kV22 dc22 pm22 an22 cd22 ct22), sl22⟩) (c22 : PySem.W.codeIn K cd22 "_law_like" = true) (k22 : PySem.W.keepIn K (.ref f22) = true)
    (a23 : PySem.W.nsIn K mainGlobals "_law_mixed" = some (some (.ref f23))) (l23 : K.lookup f23 = some ⟨oc23, od23, .func (PySem.W.fnOf "_law_mixed" "_law_mixed" (defArgs s_l_mixed) (defBody s_l_mixed) (defScope s_l_mixed) .none kV23 dc23 pm23 an23 cd23 ct23), sl23⟩) (c23 : PySem.W.codeIn K cd23 "_law_mixed" = true) (k23 : PySem.W.keepIn K (.ref f23) = true)
    (a24 : PySem.W.nsIn K mainGlobals "_law_chain_by" = some (some (.ref f24))) (l24 : K.lookup f24 = some ⟨oc24, od24, .func (PySem.W.fnOf "_law_chain_by" "_law_chain_by" (defArgs s_l_chain_by) (defBody s_l_chain_by) (defScope s_l_chain_by) .none kV24 dc24 pm24 an24 cd24 ct24), sl24⟩) (c24 : PySem.W.codeIn K cd24 "_law_chain_by" = true) (k24 : PySem.W.keepIn K (.ref f24) = true)
    (a25 : PySem.W.nsIn K mainGlobals "_law_eight_by" = some (some (.ref f25))) (l25 : K.lookup f25 = some ⟨oc25, od25, .func (PySem.W.fnOf "_law_eight_by" "_law_eight_by" (defArgs s_l_eight_by) (defBody s_l_eight_by) (defScope s_l_eight_by) .none kV25 dc25 pm25 an25 cd25 ct25), sl25⟩) (c25 : PySem.W.codeIn K cd25 "_law_eight_by" = true) (k25 : PySem.W.keepIn K (.ref f25) = true)
    (a26 : PySem.W.nsIn K mainGlobals "_law_all_in" = some (some (.ref f26))) (l26 : K.lookup f26 = some ⟨oc26, od26, .func (PySem.W.fnOf "_law_all_in" "_law_all_in" (defArgs s_l_all_in) (defBody s_l_all_in) (defScope s_l_all_in) .none kV26 dc26 pm26 an26 cd26 ct26), sl26⟩) (c26 : PySem.W.codeIn K cd26 "_law_all_in" = true) (k26 : PySem.W.keepIn K (.ref f26) = true)
    (a27 : PySem.W.nsIn K mainGlobals "_law_right" = some (some (.ref f27))) (l27 : K.lookup f27 = some ⟨oc27, od27, .func (PySem.W.fnOf "_law_right" "_law_right" (defArgs s_l_right) (defBody s_l_right) (defScope s_l_right) .none kV27 dc27 pm27 an27 cd27 ct27), sl27⟩) (c27 : PySem.W.codeIn K cd27 "_law_right" = true) (k27 : PySem.W.keepIn K (.ref f27) = true)
    (a28 : PySem.W.nsIn K mainGlobals "law" = some (some (.ref f28))) (l28 : K.lookup f28 = some ⟨oc28, od28, .func (PySem.W.fnOf "law" "law" (defArgs s_law) (defBody s_law) (defScope s_law) .none kV28 dc28 pm28 an28 cd28 ct28), sl28⟩) (c28 : PySem.W.codeIn K cd28 "law" = true) (k28 : PySem.W.keepIn K (.ref f28) = true)
    (z0 : PySem.W.nsIn K mainGlobals "abs" = some none)
    (z1 : PySem.W.nsIn K mainGlobals "all" = some none)
    (z2 : PySem.W.nsIn K mainGlobals "any" = some none)
    (z3 : PySem.W.nsIn K mainGlobals "bool" = some none)
    (z4 : PySem.W.nsIn K mainGlobals "divmod" = some none)
    (z5 : PySem.W.nsIn K mainGlobals "enumerate" = some none)
    (z6 : PySem.W.nsIn K mainGlobals "int" = some none)
    (z7 : PySem.W.nsIn K mainGlobals "isinstance" = some none)
    (z8 : PySem.W.nsIn K mainGlobals "len" = some none)
    (z9 : PySem.W.nsIn K mainGlobals "list" = some none)
    (z10 : PySem.W.nsIn K mainGlobals "range" = some none)
    (z11 : PySem.W.nsIn K mainGlobals "set" = some none)
    (z12 : PySem.W.nsIn K mainGlobals "str" = some none)
    (z13 : PySem.W.nsIn K mainGlobals "tuple" = some none)
    (z14 : PySem.W.nsIn K mainGlobals "zip" = some none)
    : ∃ T : Txt K mg, T.f_law = f28 ∧ (∀ (s : Shared) (u : Value), BindsTo s T.d_law ⟨[u], []⟩ [("_law_script", u)]) := by
  refine ⟨{
    b_abs := PySem.W.mg_none_of X G z0,
    b_all := PySem.W.mg_none_of X G z1,
    b_any := PySem.W.mg_none_of X G z2,
    b_bool := PySem.W.mg_none_of X G z3,
    b_divmod := PySem.W.mg_none_of X G z4,
    b_enumerate := PySem.W.mg_none_of X G z5,
    b_int := PySem.W.mg_none_of X G z6,
    b_isinstance := PySem.W.mg_none_of X G z7,
    b_len := PySem.W.mg_none_of X G z8,
    b_list := PySem.W.mg_none_of X G z9,
    b_range := PySem.W.mg_none_of X G z10,
    b_set := PySem.W.mg_none_of X G z11,
    b_str := PySem.W.mg_none_of X G z12,
    b_tuple := PySem.W.mg_none_of X G z13,
    b_zip := PySem.W.mg_none_of X G z14,
    f_is_number := f0, d_is_number := _, m_is_number := PySem.W.mg_of X G a0, F_is_number := fun_mk (st := s_is_number) l0 c0 k0, B_is_number := (fun_mk (st := s_is_number) l0 c0 k0).binds (ps := ["thing"]) fun _ _ _ _ _ _ => len1 (fun _ => rfl),
    f_common_divisor := f1, d_common_divisor := _, m_common_divisor := PySem.W.mg_of X G a1, F_common_divisor := fun_mk (st := s_common_divisor) l1 c1 k1, B_common_divisor := (fun_mk (st := s_common_divisor) l1 c1 k1).binds (ps := ["n", "d"]) fun _ _ _ _ _ _ => len2 (fun _ _ => rfl),
    f_fraction := f2, d_fraction := _, m_fraction := PySem.W.mg_of X G a2, F_fraction := fun_mk (st := s_fraction) l2 c2 k2, B_fraction := (fun_mk (st := s_fraction) l2 c2 k2).binds (ps := ["n", "d"]) fun _ _ _ _ _ _ => len2 (fun _ _ => rfl),
    f_times := f3, d_times := _, m_times := PySem.W.mg_of X G a3, F_times := fun_mk (st := s_times) l3 c3 k3, B_times := (fun_mk (st := s_times) l3 c3 k3).binds (ps := ["one", "other"]) fun _ _ _ _ _ _ => len2 (fun _ _ => rfl),
    f_over := f4, d_over := _, m_over := PySem.W.mg_of X G a4, F_over := fun_mk (st := s_over) l4 c4 k4, B_over := (fun_mk (st := s_over) l4 c4 k4).binds (ps := ["one", "other"]) fun _ _ _ _ _ _ => len2 (fun _ _ => rfl),
    f_compared := f5, d_compared := _, m_compared := PySem.W.mg_of X G a5, F_compared := fun_mk (st := s_compared) l5 c5 k5, B_compared := (fun_mk (st := s_compared) l5 c5 k5).binds (ps := ["one", "other"]) fun _ _ _ _ _ _ => len2 (fun _ _ => rfl),
    f_least := f6, d_least := _, m_least := PySem.W.mg_of X G a6, F_least := fun_mk (st := s_least) l6 c6 k6, B_least := (fun_mk (st := s_least) l6 c6 k6).binds (ps := ["parts"]) fun _ _ _ _ _ _ => len1 (fun _ => rfl),
    f_are_ties := f7, d_are_ties := _, m_are_ties := PySem.W.mg_of X G a7, F_are_ties := fun_mk (st := s_are_ties) l7 c7 k7, B_are_ties := (fun_mk (st := s_are_ties) l7 c7 k7).binds (ps := ["net", "thing"]) fun _ _ _ _ _ _ => len2 (fun _ _ => rfl),
    f_is_way := f8, d_is_way := _, m_is_way := PySem.W.mg_of X G a8, F_is_way := fun_mk (st := s_is_way) l8 c8 k8, B_is_way := (fun_mk (st := s_is_way) l8 c8 k8).binds (ps := ["net", "thing"]) fun _ _ _ _ _ _ => len2 (fun _ _ => rfl),
    f_is_round := f9, d_is_round := _, m_is_round := PySem.W.mg_of X G a9, F_is_round := fun_mk (st := s_is_round) l9 c9 k9, B_is_round := (fun_mk (st := s_is_round) l9 c9 k9).binds (ps := ["net", "thing"]) fun _ _ _ _ _ _ => len2 (fun _ _ => rfl),
    f_gain_of := f10, d_gain_of := _, m_gain_of := PySem.W.mg_of X G a10, F_gain_of := fun_mk (st := s_gain_of) l10 c10 k10, B_gain_of := (fun_mk (st := s_gain_of) l10 c10 k10).binds (ps := ["net", "way"]) fun _ _ _ _ _ _ => len2 (fun _ _ => rfl),
    f_goes_on := f11, d_goes_on := _, m_goes_on := PySem.W.mg_of X G a11, F_goes_on := fun_mk (st := s_goes_on) l11 c11 k11, B_goes_on := (fun_mk (st := s_goes_on) l11 c11 k11).binds (ps := ["net", "way", "much"]) fun _ _ _ _ _ _ => len3 (fun _ _ _ => rfl),
    f_room_of := f12, d_room_of := _, m_room_of := PySem.W.mg_of X G a12, F_room_of := fun_mk (st := s_room_of) l12 c12 k12, B_room_of := (fun_mk (st := s_room_of) l12 c12 k12).binds (ps := ["net", "way"]) fun _ _ _ _ _ _ => len2 (fun _ _ => rfl),
    f_l_box_of := f13, d_l_box_of := _, m_l_box_of := PySem.W.mg_of X G a13, F_l_box_of := fun_mk (st := s_l_box_of) l13 c13 k13, B_l_box_of := (fun_mk (st := s_l_box_of) l13 c13 k13).binds (ps := ["_law_script", "_law_k"]) fun _ _ _ _ _ _ => len2 (fun _ _ => rfl),
    f_l_take := f14, d_l_take := _, m_l_take := PySem.W.mg_of X G a14, F_l_take := fun_mk (st := s_l_take) l14 c14 k14, B_l_take := (fun_mk (st := s_l_take) l14 c14 k14).binds (ps := ["_law_box", "_law_many"]) fun _ _ _ _ _ _ => len2 (fun _ _ => rfl),
    f_l_folded := f15, d_l_folded := _, m_l_folded := PySem.W.mg_of X G a15, F_l_folded := fun_mk (st := s_l_folded) l15 c15 k15, B_l_folded := (fun_mk (st := s_l_folded) l15 c15 k15).binds (ps := ["_law_script", "_law_many"]) fun _ _ _ _ _ _ => len2 (fun _ _ => rfl),
    f_l_lowest := f16, d_l_lowest := _, m_l_lowest := PySem.W.mg_of X G a16, F_l_lowest := fun_mk (st := s_l_lowest) l16 c16 k16, B_l_lowest := (fun_mk (st := s_l_lowest) l16 c16 k16).binds (ps := ["_law_n", "_law_d"]) fun _ _ _ _ _ _ => len2 (fun _ _ => rfl),
    f_l_sum := f17, d_l_sum := _, m_l_sum := PySem.W.mg_of X G a17, F_l_sum := fun_mk (st := s_l_sum) l17 c17 k17, B_l_sum := (fun_mk (st := s_l_sum) l17 c17 k17).binds (ps := ["_law_p", "_law_q"]) fun _ _ _ _ _ _ => len2 (fun _ _ => rfl),
    f_l_product := f18, d_l_product := _, m_l_product := PySem.W.mg_of X G a18, F_l_product := fun_mk (st := s_l_product) l18 c18 k18, B_l_product := (fun_mk (st := s_l_product) l18 c18 k18).binds (ps := ["_law_p", "_law_q"]) fun _ _ _ _ _ _ => len2 (fun _ _ => rfl),
    f_l_names_by := f19, d_l_names_by := _, m_l_names_by := PySem.W.mg_of X G a19, F_l_names_by := fun_mk (st := s_l_names_by) l19 c19 k19, B_l_names_by := (fun_mk (st := s_l_names_by) l19 c19 k19).binds (ps := ["_law_box", "_law_many"]) fun _ _ _ _ _ _ => len2 (fun _ _ => rfl),
    f_l_gain_by := f20, d_l_gain_by := _, m_l_gain_by := PySem.W.mg_of X G a20, F_l_gain_by := fun_mk (st := s_l_gain_by) l20 c20 k20, B_l_gain_by := (fun_mk (st := s_l_gain_by) l20 c20 k20).binds (ps := ["_law_box"]) fun _ _ _ _ _ _ => len1 (fun _ => rfl),
    f_l_most_by := f21, d_l_most_by := _, m_l_most_by := PySem.W.mg_of X G a21, F_l_most_by := fun_mk (st := s_l_most_by) l21 c21 k21, B_l_most_by := (fun_mk (st := s_l_most_by) l21 c21 k21).binds (ps := ["_law_box"]) fun _ _ _ _ _ _ => len1 (fun _ => rfl),
    f_l_like := f22, d_l_like := _, m_l_like := PySem.W.mg_of X G a22, F_l_like := fun_mk (st := s_l_like) l22 c22 k22, B_l_like := (fun_mk (st := s_l_like) l22 c22 k22).binds (ps := ["_law_found", "_law_due"]) fun _ _ _ _ _ _ => len2 (fun _ _ => rfl),
    f_l_mixed := f23, d_l_mixed := _, m_l_mixed := PySem.W.mg_of X G a23, F_l_mixed := fun_mk (st := s_l_mixed) l23 c23 k23, B_l_mixed := (fun_mk (st := s_l_mixed) l23 c23 k23).binds (ps := ["_law_box", "_law_things"]) fun _ _ _ _ _ _ => len2 (fun _ _ => rfl),
    f_l_chain_by := f24, d_l_chain_by := _, m_l_chain_by := PySem.W.mg_of X G a24, F_l_chain_by := fun_mk (st := s_l_chain_by) l24 c24 k24, B_l_chain_by := (fun_mk (st := s_l_chain_by) l24 c24 k24).binds (ps := ["_law_box"]) fun _ _ _ _ _ _ => len1 (fun _ => rfl),
    f_l_eight_by := f25, d_l_eight_by := _, m_l_eight_by := PySem.W.mg_of X G a25, F_l_eight_by := fun_mk (st := s_l_eight_by) l25 c25 k25, B_l_eight_by := (fun_mk (st := s_l_eight_by) l25 c25 k25).binds (ps := ["_law_box"]) fun _ _ _ _ _ _ => len1 (fun _ => rfl),
    f_l_all_in := f26, d_l_all_in := _, m_l_all_in := PySem.W.mg_of X G a26, F_l_all_in := fun_mk (st := s_l_all_in) l26 c26 k26, B_l_all_in := (fun_mk (st := s_l_all_in) l26 c26 k26).binds (ps := ["_law_net", "_law_way", "_law_much"]) fun _ _ _ _ _ _ => len3 (fun _ _ _ => rfl),
    f_l_right := f27, d_l_right := _, m_l_right := PySem.W.mg_of X G a27, F_l_right := fun_mk (st := s_l_right) l27 c27 k27, B_l_right := (fun_mk (st := s_l_right) l27 c27 k27).binds (ps := ["_law_net", "_law_way", "_law_much"]) fun _ _ _ _ _ _ => len3 (fun _ _ _ => rfl),
    f_law := f28, d_law := _, m_law := PySem.W.mg_of X G a28, F_law := fun_mk (st := s_law) l28 c28 k28, B_law := (fun_mk (st := s_law) l28 c28 k28).binds (ps := ["_law_script"]) fun _ _ _ _ _ _ => len1 (fun _ => rfl) }, rfl, fun s v => .of_eq rfl⟩
end K09
namespace K09
open PySem L2
theorem k_fraction_n : (defScope s_fraction).names.lookup ("n" : Str) = some NameKind.local := by decide +kernel
theorem k_fraction_d : (defScope s_fraction).names.lookup ("d" : Str) = some NameKind.local := by decide +kernel
theorem k_fraction_divisor : (defScope s_fraction).names.lookup ("divisor" : Str) = some NameKind.local := by decide +kernel
theorem k_fraction_common_divisor : (defScope s_fraction).names.lookup ("common_divisor" : Str) = some NameKind.globalImplicit := by decide +kernel
theorem k_times_one : (defScope s_times).names.lookup ("one" : Str) = some NameKind.local := by decide +kernel
theorem k_times_other : (defScope s_times).names.lookup ("other" : Str) = some NameKind.local := by decide +kernel
theorem k_times_fraction : (defScope s_times).names.lookup ("fraction" : Str) = some NameKind.globalImplicit := by decide +kernel
theorem k_over_one : (defScope s_over).names.lookup ("one" : Str) = some NameKind.local := by decide +kernel
theorem k_over_other : (defScope s_over).names.lookup ("other" : Str) = some NameKind.local := by decide +kernel
theorem k_over_fraction : (defScope s_over).names.lookup ("fraction" : Str) = some NameKind.globalImplicit := by decide +kernel
theorem k_compared_one : (defScope s_compared).names.lookup ("one" : Str) = some NameKind.local := by decide +kernel
theorem k_compared_other : (defScope s_compared).names.lookup ("other" : Str) = some NameKind.local := by decide +kernel
theorem k_compared_left : (defScope s_compared).names.lookup ("left" : Str) = some NameKind.local := by decide +kernel
theorem k_compared_right : (defScope s_compared).names.lookup ("right" : Str) = some NameKind.local := by decide +kernel
theorem k_least_parts : (defScope s_least).names.lookup ("parts" : Str) = some NameKind.local := by decide +kernel
theorem k_least_best : (defScope s_least).names.lookup ("best" : Str) = some NameKind.local := by decide +kernel
theorem k_least_part : (defScope s_least).names.lookup ("part" : Str) = some NameKind.local := by decide +kernel
theorem k_least_compared : (defScope s_least).names.lookup ("compared" : Str) = some NameKind.globalImplicit := by decide +kernel
theorem k_are_ties_thing : (defScope s_are_ties).names.lookup ("thing" : Str) = some NameKind.local := by decide +kernel
theorem k_are_ties_isinstance : (defScope s_are_ties).names.lookup ("isinstance" : Str) = some NameKind.globalImplicit := by decide +kernel
theorem k_are_ties_list : (defScope s_are_ties).names.lookup ("list" : Str) = some NameKind.globalImplicit := by decide +kernel
theorem k_are_ties_all : (defScope s_are_ties).names.lookup ("all" : Str) = some NameKind.globalImplicit := by decide +kernel
theorem k_are_ties_len : (defScope s_are_ties).names.lookup ("len" : Str) = some NameKind.globalImplicit := by decide +kernel
theorem k_are_ties_set : (defScope s_are_ties).names.lookup ("set" : Str) = some NameKind.globalImplicit := by decide +kernel
theorem k_is_way_net : (defScope s_is_way).names.lookup ("net" : Str) = some NameKind.cell := by decide +kernel
theorem k_is_way_thing : (defScope s_is_way).names.lookup ("thing" : Str) = some NameKind.local := by decide +kernel
theorem k_is_way_are_ties : (defScope s_is_way).names.lookup ("are_ties" : Str) = some NameKind.globalImplicit := by decide +kernel
theorem k_is_way_all : (defScope s_is_way).names.lookup ("all" : Str) = some NameKind.globalImplicit := by decide +kernel
theorem k_is_way_zip : (defScope s_is_way).names.lookup ("zip" : Str) = some NameKind.globalImplicit := by decide +kernel
theorem k_is_round_net : (defScope s_is_round).names.lookup ("net" : Str) = some NameKind.cell := by decide +kernel
theorem k_is_round_thing : (defScope s_is_round).names.lookup ("thing" : Str) = some NameKind.local := by decide +kernel
theorem k_is_round_begins : (defScope s_is_round).names.lookup ("begins" : Str) = some NameKind.local := by decide +kernel
theorem k_is_round_is_way : (defScope s_is_round).names.lookup ("is_way" : Str) = some NameKind.globalImplicit := by decide +kernel
theorem k_is_round_len : (defScope s_is_round).names.lookup ("len" : Str) = some NameKind.globalImplicit := by decide +kernel
theorem k_is_round_set : (defScope s_is_round).names.lookup ("set" : Str) = some NameKind.globalImplicit := by decide +kernel
theorem k_gain_of_net : (defScope s_gain_of).names.lookup ("net" : Str) = some NameKind.local := by decide +kernel
theorem k_gain_of_way : (defScope s_gain_of).names.lookup ("way" : Str) = some NameKind.local := by decide +kernel
theorem k_gain_of_gain : (defScope s_gain_of).names.lookup ("gain" : Str) = some NameKind.local := by decide +kernel
theorem k_gain_of_number : (defScope s_gain_of).names.lookup ("number" : Str) = some NameKind.local := by decide +kernel
theorem k_gain_of_times : (defScope s_gain_of).names.lookup ("times" : Str) = some NameKind.globalImplicit := by decide +kernel
theorem k_goes_on_net : (defScope s_goes_on).names.lookup ("net" : Str) = some NameKind.local := by decide +kernel
theorem k_goes_on_way : (defScope s_goes_on).names.lookup ("way" : Str) = some NameKind.local := by decide +kernel
theorem k_goes_on_much : (defScope s_goes_on).names.lookup ("much" : Str) = some NameKind.local := by decide +kernel
theorem k_goes_on_goes : (defScope s_goes_on).names.lookup ("goes" : Str) = some NameKind.local := by decide +kernel
theorem k_goes_on_number : (defScope s_goes_on).names.lookup ("number" : Str) = some NameKind.local := by decide +kernel
theorem k_goes_on_times : (defScope s_goes_on).names.lookup ("times" : Str) = some NameKind.globalImplicit := by decide +kernel
theorem k_room_of_net : (defScope s_room_of).names.lookup ("net" : Str) = some NameKind.cell := by decide +kernel
theorem k_room_of_way : (defScope s_room_of).names.lookup ("way" : Str) = some NameKind.local := by decide +kernel
theorem k_room_of_shares : (defScope s_room_of).names.lookup ("shares" : Str) = some NameKind.local := by decide +kernel
theorem k_room_of_goes_on : (defScope s_room_of).names.lookup ("goes_on" : Str) = some NameKind.globalImplicit := by decide +kernel
theorem k_room_of_least : (defScope s_room_of).names.lookup ("least" : Str) = some NameKind.globalImplicit := by decide +kernel
theorem k_room_of_zip : (defScope s_room_of).names.lookup ("zip" : Str) = some NameKind.globalImplicit := by decide +kernel
theorem k_l_sum_l_p : (defScope s_l_sum).names.lookup ("_law_p" : Str) = some NameKind.local := by decide +kernel
theorem k_l_sum_l_q : (defScope s_l_sum).names.lookup ("_law_q" : Str) = some NameKind.local := by decide +kernel
theorem k_l_sum_l_lowest : (defScope s_l_sum).names.lookup ("_law_lowest" : Str) = some NameKind.globalImplicit := by decide +kernel
theorem k_l_product_l_p : (defScope s_l_product).names.lookup ("_law_p" : Str) = some NameKind.local := by decide +kernel
theorem k_l_product_l_q : (defScope s_l_product).names.lookup ("_law_q" : Str) = some NameKind.local := by decide +kernel
theorem k_l_product_l_lowest : (defScope s_l_product).names.lookup ("_law_lowest" : Str) = some NameKind.globalImplicit := by decide +kernel
theorem k_l_names_by_l_box : (defScope s_l_names_by).names.lookup ("_law_box" : Str) = some NameKind.cell := by decide +kernel
theorem k_l_names_by_l_many : (defScope s_l_names_by).names.lookup ("_law_many" : Str) = some NameKind.local := by decide +kernel
theorem k_l_names_by_l_letters : (defScope s_l_names_by).names.lookup ("_law_letters" : Str) = some NameKind.cell := by decide +kernel
theorem k_l_names_by_l_first : (defScope s_l_names_by).names.lookup ("_law_first" : Str) = some NameKind.cell := by decide +kernel
theorem k_l_names_by_l_k : (defScope s_l_names_by).names.lookup ("_law_k" : Str) = some NameKind.local := by decide +kernel
theorem k_l_names_by_l_row : (defScope s_l_names_by).names.lookup ("_law_row" : Str) = some NameKind.local := by decide +kernel
theorem k_l_names_by_l_found : (defScope s_l_names_by).names.lookup ("_law_found" : Str) = some NameKind.local := by decide +kernel
theorem k_l_names_by_l_more : (defScope s_l_names_by).names.lookup ("_law_more" : Str) = some NameKind.local := by decide +kernel
theorem k_l_names_by_l_take : (defScope s_l_names_by).names.lookup ("_law_take" : Str) = some NameKind.globalImplicit := by decide +kernel
theorem k_l_names_by_range : (defScope s_l_names_by).names.lookup ("range" : Str) = some NameKind.globalImplicit := by decide +kernel
theorem k_l_gain_by_l_box : (defScope s_l_gain_by).names.lookup ("_law_box" : Str) = some NameKind.local := by decide +kernel
theorem k_l_gain_by_l_way : (defScope s_l_gain_by).names.lookup ("_law_way" : Str) = some NameKind.local := by decide +kernel
theorem k_l_gain_by_l_wide : (defScope s_l_gain_by).names.lookup ("_law_wide" : Str) = some NameKind.local := by decide +kernel
theorem k_l_gain_by_l_take : (defScope s_l_gain_by).names.lookup ("_law_take" : Str) = some NameKind.globalImplicit := by decide +kernel
theorem k_l_gain_by_l_lowest : (defScope s_l_gain_by).names.lookup ("_law_lowest" : Str) = some NameKind.globalImplicit := by decide +kernel
theorem k_l_most_by_l_box : (defScope s_l_most_by).names.lookup ("_law_box" : Str) = some NameKind.local := by decide +kernel
theorem k_l_most_by_l_way : (defScope s_l_most_by).names.lookup ("_law_way" : Str) = some NameKind.local := by decide +kernel
theorem k_l_most_by_l_take : (defScope s_l_most_by).names.lookup ("_law_take" : Str) = some NameKind.globalImplicit := by decide +kernel
theorem k_l_most_by_l_lowest : (defScope s_l_most_by).names.lookup ("_law_lowest" : Str) = some NameKind.globalImplicit := by decide +kernel
theorem k_l_like_l_found : (defScope s_l_like).names.lookup ("_law_found" : Str) = some NameKind.local := by decide +kernel
theorem k_l_like_l_due : (defScope s_l_like).names.lookup ("_law_due" : Str) = some NameKind.local := by decide +kernel
theorem k_l_like_isinstance : (defScope s_l_like).names.lookup ("isinstance" : Str) = some NameKind.globalImplicit := by decide +kernel
theorem k_l_like_list : (defScope s_l_like).names.lookup ("list" : Str) = some NameKind.globalImplicit := by decide +kernel
theorem k_l_like_tuple : (defScope s_l_like).names.lookup ("tuple" : Str) = some NameKind.globalImplicit := by decide +kernel
theorem k_l_like_len : (defScope s_l_like).names.lookup ("len" : Str) = some NameKind.globalImplicit := by decide +kernel
theorem k_l_like_all : (defScope s_l_like).names.lookup ("all" : Str) = some NameKind.globalImplicit := by decide +kernel
theorem k_l_like_zip : (defScope s_l_like).names.lookup ("zip" : Str) = some NameKind.globalImplicit := by decide +kernel
theorem k_l_like_str : (defScope s_l_like).names.lookup ("str" : Str) = some NameKind.globalImplicit := by decide +kernel
theorem k_l_like_bool : (defScope s_l_like).names.lookup ("bool" : Str) = some NameKind.globalImplicit := by decide +kernel
theorem k_l_like_int : (defScope s_l_like).names.lookup ("int" : Str) = some NameKind.globalImplicit := by decide +kernel
theorem k_l_mixed_l_box : (defScope s_l_mixed).names.lookup ("_law_box" : Str) = some NameKind.local := by decide +kernel
theorem k_l_mixed_l_things : (defScope s_l_mixed).names.lookup ("_law_things" : Str) = some NameKind.local := by decide +kernel
theorem k_l_mixed_l_left_ones : (defScope s_l_mixed).names.lookup ("_law_left_ones" : Str) = some NameKind.local := by decide +kernel
theorem k_l_mixed_l_found : (defScope s_l_mixed).names.lookup ("_law_found" : Str) = some NameKind.local := by decide +kernel
theorem k_l_mixed_list : (defScope s_l_mixed).names.lookup ("list" : Str) = some NameKind.globalImplicit := by decide +kernel
theorem k_l_mixed_l_take : (defScope s_l_mixed).names.lookup ("_law_take" : Str) = some NameKind.globalImplicit := by decide +kernel
theorem k_l_mixed_len : (defScope s_l_mixed).names.lookup ("len" : Str) = some NameKind.globalImplicit := by decide +kernel
theorem k_l_chain_by_l_box : (defScope s_l_chain_by).names.lookup ("_law_box" : Str) = some NameKind.cell := by decide +kernel
theorem k_l_chain_by_l_home : (defScope s_l_chain_by).names.lookup ("_law_home" : Str) = some NameKind.local := by decide +kernel
theorem k_l_chain_by_l_many : (defScope s_l_chain_by).names.lookup ("_law_many" : Str) = some NameKind.local := by decide +kernel
theorem k_l_chain_by_l_places : (defScope s_l_chain_by).names.lookup ("_law_places" : Str) = some NameKind.local := by decide +kernel
theorem k_l_chain_by_l_row : (defScope s_l_chain_by).names.lookup ("_law_row" : Str) = some NameKind.local := by decide +kernel
theorem k_l_chain_by_l_ties : (defScope s_l_chain_by).names.lookup ("_law_ties" : Str) = some NameKind.cell := by decide +kernel
theorem k_l_chain_by_l_order : (defScope s_l_chain_by).names.lookup ("_law_order" : Str) = some NameKind.cell := by decide +kernel
theorem k_l_chain_by_l_mixed_here : (defScope s_l_chain_by).names.lookup ("_law_mixed_here" : Str) = some NameKind.local := by decide +kernel
theorem k_l_chain_by_l_take : (defScope s_l_chain_by).names.lookup ("_law_take" : Str) = some NameKind.globalImplicit := by decide +kernel
theorem k_l_chain_by_l_names_by : (defScope s_l_chain_by).names.lookup ("_law_names_by" : Str) = some NameKind.globalImplicit := by decide +kernel
theorem k_l_chain_by_zip : (defScope s_l_chain_by).names.lookup ("zip" : Str) = some NameKind.globalImplicit := by decide +kernel
theorem k_l_chain_by_l_mixed : (defScope s_l_chain_by).names.lookup ("_law_mixed" : Str) = some NameKind.globalImplicit := by decide +kernel
theorem k_l_chain_by_list : (defScope s_l_chain_by).names.lookup ("list" : Str) = some NameKind.globalImplicit := by decide +kernel
theorem k_l_chain_by_range : (defScope s_l_chain_by).names.lookup ("range" : Str) = some NameKind.globalImplicit := by decide +kernel
theorem k_l_chain_by_tuple : (defScope s_l_chain_by).names.lookup ("tuple" : Str) = some NameKind.globalImplicit := by decide +kernel
theorem k_l_eight_by_l_box : (defScope s_l_eight_by).names.lookup ("_law_box" : Str) = some NameKind.cell := by decide +kernel
theorem k_l_eight_by_l_names : (defScope s_l_eight_by).names.lookup ("_law_names" : Str) = some NameKind.local := by decide +kernel
theorem k_l_eight_by_l_first : (defScope s_l_eight_by).names.lookup ("_law_first" : Str) = some NameKind.local := by decide +kernel
theorem k_l_eight_by_l_pairs : (defScope s_l_eight_by).names.lookup ("_law_pairs" : Str) = some NameKind.local := by decide +kernel
theorem k_l_eight_by_l_ties : (defScope s_l_eight_by).names.lookup ("_law_ties" : Str) = some NameKind.local := by decide +kernel
theorem k_l_eight_by_l_names_by : (defScope s_l_eight_by).names.lookup ("_law_names_by" : Str) = some NameKind.globalImplicit := by decide +kernel
theorem k_l_eight_by_l_take : (defScope s_l_eight_by).names.lookup ("_law_take" : Str) = some NameKind.globalImplicit := by decide +kernel
theorem k_l_eight_by_tuple : (defScope s_l_eight_by).names.lookup ("tuple" : Str) = some NameKind.globalImplicit := by decide +kernel
theorem k_l_all_in_l_net : (defScope s_l_all_in).names.lookup ("_law_net" : Str) = some NameKind.local := by decide +kernel
theorem k_l_all_in_l_way : (defScope s_l_all_in).names.lookup ("_law_way" : Str) = some NameKind.local := by decide +kernel
theorem k_l_all_in_l_much : (defScope s_l_all_in).names.lookup ("_law_much" : Str) = some NameKind.local := by decide +kernel
theorem k_l_all_in_l_found : (defScope s_l_all_in).names.lookup ("_law_found" : Str) = some NameKind.local := by decide +kernel
theorem k_l_all_in_l_fits : (defScope s_l_all_in).names.lookup ("_law_fits" : Str) = some NameKind.local := by decide +kernel
theorem k_l_all_in_l_number : (defScope s_l_all_in).names.lookup ("_law_number" : Str) = some NameKind.local := by decide +kernel
theorem k_l_all_in_l_top : (defScope s_l_all_in).names.lookup ("_law_top" : Str) = some NameKind.local := by decide +kernel
theorem k_l_all_in_l_product : (defScope s_l_all_in).names.lookup ("_law_product" : Str) = some NameKind.globalImplicit := by decide +kernel
theorem k_l_right_l_net : (defScope s_l_right).names.lookup ("_law_net" : Str) = some NameKind.cell := by decide +kernel
theorem k_l_right_l_way : (defScope s_l_right).names.lookup ("_law_way" : Str) = some NameKind.local := by decide +kernel
theorem k_l_right_l_much : (defScope s_l_right).names.lookup ("_law_much" : Str) = some NameKind.local := by decide +kernel
theorem k_l_right_l_product_here : (defScope s_l_right).names.lookup ("_law_product_here" : Str) = some NameKind.local := by decide +kernel
theorem k_l_right_l_number : (defScope s_l_right).names.lookup ("_law_number" : Str) = some NameKind.local := by decide +kernel
theorem k_l_right_l_turn : (defScope s_l_right).names.lookup ("_law_turn" : Str) = some NameKind.local := by decide +kernel
theorem k_l_right_l_found : (defScope s_l_right).names.lookup ("_law_found" : Str) = some NameKind.local := by decide +kernel
theorem k_l_right_l_room : (defScope s_l_right).names.lookup ("_law_room" : Str) = some NameKind.local := by decide +kernel
theorem k_l_right_l_on : (defScope s_l_right).names.lookup ("_law_on" : Str) = some NameKind.local := by decide +kernel
theorem k_l_right_l_fits : (defScope s_l_right).names.lookup ("_law_fits" : Str) = some NameKind.local := by decide +kernel
theorem k_l_right_l_product : (defScope s_l_right).names.lookup ("_law_product" : Str) = some NameKind.globalImplicit := by decide +kernel
theorem k_l_right_range : (defScope s_l_right).names.lookup ("range" : Str) = some NameKind.globalImplicit := by decide +kernel
theorem k_l_right_goes_on : (defScope s_l_right).names.lookup ("goes_on" : Str) = some NameKind.globalImplicit := by decide +kernel
theorem k_l_right_l_like : (defScope s_l_right).names.lookup ("_law_like" : Str) = some NameKind.globalImplicit := by decide +kernel
theorem k_l_right_gain_of : (defScope s_l_right).names.lookup ("gain_of" : Str) = some NameKind.globalImplicit := by decide +kernel
theorem k_l_right_l_all_in : (defScope s_l_right).names.lookup ("_law_all_in" : Str) = some NameKind.globalImplicit := by decide +kernel
theorem k_l_right_room_of : (defScope s_l_right).names.lookup ("room_of" : Str) = some NameKind.globalImplicit := by decide +kernel
theorem k_l_right_any : (defScope s_l_right).names.lookup ("any" : Str) = some NameKind.globalImplicit := by decide +kernel
theorem k_l_right_zip : (defScope s_l_right).names.lookup ("zip" : Str) = some NameKind.globalImplicit := by decide +kernel
theorem k_l_right_l_sum : (defScope s_l_right).names.lookup ("_law_sum" : Str) = some NameKind.globalImplicit := by decide +kernel
theorem k_law_l_script : (defScope s_law).names.lookup ("_law_script" : Str) = some NameKind.local := by decide +kernel
theorem k_law_l_cells : (defScope s_law).names.lookup ("_law_cells" : Str) = some NameKind.local := by decide +kernel
theorem k_law_l_k : (defScope s_law).names.lookup ("_law_k" : Str) = some NameKind.local := by decide +kernel
theorem k_law_l_box : (defScope s_law).names.lookup ("_law_box" : Str) = some NameKind.local := by decide +kernel
theorem k_law_l_much : (defScope s_law).names.lookup ("_law_much" : Str) = some NameKind.local := by decide +kernel
theorem k_law_l_net : (defScope s_law).names.lookup ("_law_net" : Str) = some NameKind.local := by decide +kernel
theorem k_law_l_way : (defScope s_law).names.lookup ("_law_way" : Str) = some NameKind.local := by decide +kernel
theorem k_law_l_home : (defScope s_law).names.lookup ("_law_home" : Str) = some NameKind.local := by decide +kernel
theorem k_law_l_kept : (defScope s_law).names.lookup ("_law_kept" : Str) = some NameKind.local := by decide +kernel
theorem k_law_l_some : (defScope s_law).names.lookup ("_law_some" : Str) = some NameKind.local := by decide +kernel
theorem k_law_l_eight : (defScope s_law).names.lookup ("_law_eight" : Str) = some NameKind.local := by decide +kernel
theorem k_law_l_around : (defScope s_law).names.lookup ("_law_around" : Str) = some NameKind.local := by decide +kernel
theorem k_law_l_folded : (defScope s_law).names.lookup ("_law_folded" : Str) = some NameKind.globalImplicit := by decide +kernel
theorem k_law_range : (defScope s_law).names.lookup ("range" : Str) = some NameKind.globalImplicit := by decide +kernel
theorem k_law_len : (defScope s_law).names.lookup ("len" : Str) = some NameKind.globalImplicit := by decide +kernel
theorem k_law_l_box_of : (defScope s_law).names.lookup ("_law_box_of" : Str) = some NameKind.globalImplicit := by decide +kernel
theorem k_law_l_lowest : (defScope s_law).names.lookup ("_law_lowest" : Str) = some NameKind.globalImplicit := by decide +kernel
theorem k_law_l_take : (defScope s_law).names.lookup ("_law_take" : Str) = some NameKind.globalImplicit := by decide +kernel
theorem k_law_l_chain_by : (defScope s_law).names.lookup ("_law_chain_by" : Str) = some NameKind.globalImplicit := by decide +kernel
theorem k_law_str : (defScope s_law).names.lookup ("str" : Str) = some NameKind.globalImplicit := by decide +kernel
theorem k_law_is_way : (defScope s_law).names.lookup ("is_way" : Str) = some NameKind.globalImplicit := by decide +kernel
theorem k_law_is_round : (defScope s_law).names.lookup ("is_round" : Str) = some NameKind.globalImplicit := by decide +kernel
theorem k_law_l_right : (defScope s_law).names.lookup ("_law_right" : Str) = some NameKind.globalImplicit := by decide +kernel
theorem k_law_l_eight_by : (defScope s_law).names.lookup ("_law_eight_by" : Str) = some NameKind.globalImplicit := by decide +kernel
theorem k_law_l_like : (defScope s_law).names.lookup ("_law_like" : Str) = some NameKind.globalImplicit := by decide +kernel
theorem k_law_gain_of : (defScope s_law).names.lookup ("gain_of" : Str) = some NameKind.globalImplicit := by decide +kernel
theorem k_law_goes_on : (defScope s_law).names.lookup ("goes_on" : Str) = some NameKind.globalImplicit := by decide +kernel
end K09
namespace K09
open PySem L2
section
variable {P : Program} {w : World} {K : PySem.W.Frag} {mg : Str → Option Value} {base : Heap}
inductive spNum_ (vs : List V) (H : Hp) (Q : VK) : Prop
  | mk (x : V) (d : PyData) (E : Addr → Prop) (h0 : vs = [x]) (h1 : IsD E H x d) (h2 : Q (.bl (isNum d)) H)
def spNum : Sp := fun vs H Q _ => spNum_  vs H Q
theorem ok_is_number (T : Txt K mg) : FnOk P w K mg base CX0 1 T.f_is_number T.d_is_number ["thing"] spNum := by
  refine T.F_is_number.ok sc_is_number (fun vs H Q E h => ?_) (fun cdv A outer s H vs Q E hr h => ?_)
  · obtain ⟨x, d, F, rfl, _⟩ := h
    rfl
  · obtain ⟨x, d, F, rfl, hx, k⟩ := h
    refine ⟨_, (pss_one (ps_ret (pe_and (pe_callB call_isinst (by rfl) T.b_isinstance boot_b_isinstance (pa_cons (pv 0) (pa_cons (pe_ty rfl T.b_int boot_ty_int) pa_nil))) (pe_one (pe_not (pe_callB call_isinst (by rfl) T.b_isinstance boot_b_isinstance (pa_cons (pv 0) (pa_cons (pe_ty rfl T.b_bool boot_ty_bool) pa_nil)))))))), ?_⟩
    refine ⟨_, rfl, _, _, _, _, rfl, hx.ty, kit_int d, _, rfl, ?_⟩
    have rest : ∀ b, isNum d = !b → isBoolB d = b → tNotV (tCB (fun xs H Q => Ex4 fun x T t b => xs = [x, .ty T] ∧ TyOf K H x t ∧ PySem.W.kitOne K t (.type T) = some b ∧ Q (.bl b) H) (tCons (tVar 0) (tCons (tC (.ty "bool")) tNil))) (start ["thing"] [x]) H Q := fun b e1 e2 => by
      refine ⟨_, rfl, _, _, _, _, rfl, hx.ty, kit_bool d, _, rfl, ?_⟩
      rw [e2, ← e1]
      exact k
    cases d with
    | int i => exact iteT (rest false rfl rfl)
    | bool b => exact iteT (rest true rfl rfl)
    | none => exact iteF k
    | str _ => exact iteF k
    | list _ => exact iteF k
    | tuple _ => exact iteF k
    | dict _ => exact iteF k
inductive spGcd_ (vs : List V) (H : Hp) (Q : VK) : Prop
  | mk (n d : Int) (h0 : vs = [.int n, .int d]) (h1 : Q (.int (Int.gcd n d : Nat)) H)
def spGcd : Sp := fun vs H Q _ => spGcd_  vs H Q
theorem ok_common_divisor (T : Txt K mg) : FnOk P w K mg base CX0 1 T.f_common_divisor T.d_common_divisor ["n", "d"] spGcd := by
  refine T.F_common_divisor.ok sc_common_divisor (fun vs H Q E h => ?_) (fun cdv A outer s H vs Q E hr h => ?_)
  · obtain ⟨n, d, rfl, _⟩ := h
    rfl
  · obtain ⟨n, d, rfl, k⟩ := h
    refine ⟨_, (pss_cons (ps_while PassesOwn.never (pt_cmpR op_ne (pv 1) pe_int (nomark _)) (pss_one (ps_par (i := 0) (j := 1) rfl sc_common_divisor.nd rfl rfl (by decide) rfl rfl (pa_cons (pv 1) (pa_cons (pe_op op_modN (pv 0) (pv 1)) pa_nil)) rfl)))
      (pss_one (ps_ret (pe_callB call_abs (by rfl) T.b_abs boot_b_abs (pa_cons (pv 0) pa_nil))))), ?_⟩
    refine ⟨fun m σ H' => ∃ a b : Int, σ = [some (.int a), some (.int b)] ∧ H' = H ∧ Int.gcd a b = Int.gcd n d ∧ m = b.natAbs, ⟨_, n, d, rfl, rfl, rfl, rfl⟩, ?_⟩
    rintro m σ H' ⟨a, b, rfl, rfl, hg, rfl⟩
    refine ⟨_, rfl, rfl, _, rfl, ?_⟩
    by_cases hb : b = 0
    · subst hb
      refine iteF ?_
      refine ⟨_, rfl, _, rfl, ?_⟩
      rw [← KM.gcd_zero_abs, hg]
      exact k
    · have e : (!decide (V.int b = V.int 0)) = true := by
        rw [decide_eq_false (fun z => hb (by injection z))]; rfl
      rw [e]
      refine iteT ⟨fun σ' H'' => ∃ a' b' : Int, σ' = [some (.int a'), some (.int b')] ∧ H'' = H' ∧ Int.gcd a' b' = Int.gcd n d ∧ b'.natAbs < b.natAbs, ?_, ?_⟩
      · rintro σ' H'' ⟨a', b', rfl, rfl, h1, h2⟩
        exact ⟨_, h2, a', b', rfl, rfl, h1, rfl⟩
      · refine ⟨_, rfl, _, rfl, _, rfl, _, _, rfl, rfl, hb, _, _, rfl, ?_⟩
        exact ⟨b, a.fmod b, rfl, rfl, (KM.gcd_fmod a b).trans hg, KM.fmod_natAbs_lt a b hb⟩
end
end K09
namespace K09
open PySem L2
theorem net_inv2 {E : Addr → Prop} {H : Hp} {v : V} {ls : List (List Nat)} {ts : List TieD} (h : IsD E H v (netD ls ts)) : Ex4 fun a p q ys => v = .ref a ∧ H a = some (.tup [.ref p, .ref q]) ∧ H p = some (.tup (ls.map strV)) ∧ H q = some (.tup ys) ∧ IsAll E H ys (ts.map tieD) := by
  have sall : ∀ {ls : List (List Nat)} {xs : List V}, IsAll E H xs (ls.map fun l => PyData.str (S l)) → xs = ls.map strV := by
    intro ls
    induction ls with
    | nil => intro xs h; cases h; rfl
    | cons l r ih =>
      intro xs h
      cases h with
      | cons h1 h2 => cases h1; rw [ih h2]; rfl
  cases h with
  | @tup a xs _ h r =>
    cases r with
    | cons h1 r =>
    cases r with
    | cons h2 r =>
    cases r
    cases h1 with
    | @tup p ps _ hp rp =>
    cases h2 with
    | @tup q ys _ hq rq =>
      have e := sall rp
      subst e
      exact ⟨a, p, q, ys, rfl, h, hp, hq, rq⟩
theorem tie_inv2 {E : Addr → Prop} {H : Hp} {v : V} {t : TieD} (h : IsD E H v (tieD t)) : Ex4 fun a om og op => v = .ref a ∧ H a = some (.tup [.str (S t.bg), .str (S t.en), .ref om, .ref og, .ref op]) ∧ H om = some (fr t.most) ∧ H og = some (fr t.gain) ∧ H op = some (fr t.price) := by
  cases h with
  | @tup a xs _ h r =>
    cases r with
    | @cons u1 _ _ _ h1 r =>
    cases r with
    | @cons u2 _ _ _ h2 r =>
    cases r with
    | @cons u3 _ _ _ h3 r =>
    cases r with
    | @cons u4 _ _ _ h4 r =>
    cases r with
    | @cons u5 _ _ _ h5 r =>
    cases r
    cases h1
    cases h2
    obtain ⟨om, rfl, ho⟩ := isF_inv h3
    obtain ⟨og, rfl, hg⟩ := isF_inv h4
    obtain ⟨op, rfl, hp⟩ := isF_inv h5
    exact ⟨a, om, og, op, rfl, h, ho, hg, hp⟩
abbrev nts (r : List Nat) : List V := r.map fun i : Nat => V.int ((i : Nat) : Int)
theorem dec_str {a b : List Nat} : decide (V.str (S a) = V.str (S b)) = decide (a = b) := by
  by_cases h : a = b
  · subst h; simp
  · rw [decide_eq_false h, decide_eq_false]
    intro z
    injection z with z
    exact h (S_inj z)
section
variable {P : Program} {w : World} {K : PySem.W.Frag} {mg : Str → Option Value} {base : Heap}
end
end K09
namespace K09
open PySem L2
section
variable {P : Program} {w : World} {K : PySem.W.Frag} {mg : Str → Option Value} {base : Heap}
theorem ok_fraction (T : Txt K mg) : FnOk P w K mg base CX0 2 T.f_fraction T.d_fraction ["n", "d"] spLowA := by
  have G_common_divisor := ok_common_divisor (P := P) (w := w) (base := base) T
  refine T.F_fraction.ok sc_fraction (fun vs H Q E h => ?_) (fun cdv A outer s H vs Q E hr h => ?_)
  · obtain ⟨n, d, rfl, _⟩ := h
    rfl
  · obtain ⟨n, d, rfl, hd, hs, k⟩ := h
    refine ⟨_, (@pss_cons _ _ _ _ _ (@ps_set _ _ (2) _ _ _ _ sc_fraction.nd rfl (Or.inl k_fraction_divisor) (@pe_call _ _ _ _ _ _ _ _ _ _ _ _ _ _ _ _ G_common_divisor (hr.mono (by decide)) k_fraction_common_divisor T.m_common_divisor T.F_common_divisor.kp T.B_common_divisor .nil (@pass0 _) (@pa_c _ _ _ _ _ (@pw _ 0 _ _ (Or.inl k_fraction_n) (by rfl) (by decide) (by decide)) (@pa_c _ _ _ _ _ (@pw _ 1 _ _ (Or.inl k_fraction_d) (by rfl) (by decide) (by decide)) (@pa_nil _) rfl) rfl) (by decide) (by rfl) (by rfl)) (by rfl) (by first | exact .inl rfl | exact .inr rfl | assumption)) (@pss_cons _ _ _ _ _ (@ps_if _ _ _ _ _ _ _ _ (@pt_cmpR _ _ _ _ _ _ _ _ (@op_lt _) (@pw _ 1 _ _ (Or.inl k_fraction_d) (by rfl) (by decide) (by decide)) (@pe_int _ _ _ _) (@nomark _ _ (by decide) (by decide))) (@pss_one _ _ _ (@ps_set _ _ (2) _ _ _ _ sc_fraction.nd rfl (Or.inl k_fraction_divisor) (@pe_un _ _ _ _ _ _ (@un_neg _) (@pw _ 2 _ _ (Or.inl k_fraction_divisor) (by rfl) (by decide) (by decide))) (by rfl) (by first | exact .inl rfl | exact .inr rfl | assumption))) (@pss_nil _)) (@pss_one _ _ _ (@ps_ret _ _ _ _ (@pe_tupA _ _ _ _ _ (@pa_c _ _ _ _ _ (@pe_op _ _ _ _ _ _ _ _ (@op_fdivS _) (@pw _ 0 _ _ (Or.inl k_fraction_n) (by rfl) (by decide) (by decide)) (@pw _ 2 _ _ (Or.inl k_fraction_divisor) (by rfl) (by decide) (by decide))) (@pa_c _ _ _ _ _ (@pe_op _ _ _ _ _ _ _ _ (@op_fdivS _) (@pw _ 1 _ _ (Or.inl k_fraction_d) (by rfl) (by decide) (by decide)) (@pw _ 2 _ _ (Or.inl k_fraction_divisor) (by rfl) (by decide) (by decide))) (@pa_nil _) rfl) rfl)))))), ?_⟩
    refine ⟨_, rfl, _, rfl, n, d, rfl, _, rfl, _, _, rfl, rfl, _, rfl, ?_⟩
    have g0 := KM.gcd_pos (n := n) hd
    have gs := gcdS (n := n) hd hs
    have kl := KM.fdiv_low (n := n) hd
    by_cases h0 : d < 0
    · rw [decide_eq_true h0]
      rw [if_pos h0] at kl
      have c1 : ∀ x, CDivS x (-((Int.gcd n d : Nat) : Int)) := fun x => ⟨by trivial, gs.neg⟩
      refine iteT ⟨_, rfl, _, rfl, _, rfl, _, rfl, _, _, rfl, rfl, c1 n, _, rfl, _, rfl, _, _, rfl, rfl, c1 d, (by show 2 ≤ 10000; decide), fun p H1 nw => ?_⟩
      have q := k p H1
      rw [← kl] at q
      exact q nw
    · rw [decide_eq_false h0]
      rw [if_neg h0] at kl
      have c1 : ∀ x, CDivS x ((Int.gcd n d : Nat) : Int) := fun x => ⟨by trivial, gs⟩
      refine iteF ⟨_, rfl, _, rfl, _, _, rfl, rfl, c1 n, _, rfl, _, rfl, _, _, rfl, rfl, c1 d, (by show 2 ≤ 10000; decide), fun p H1 nw => ?_⟩
      have q := k p H1
      rw [← kl] at q
      exact q nw
theorem ok_times (T : Txt K mg) : FnOk P w K mg base CX0 3 T.f_times T.d_times ["one", "other"] (spBinA nTim dAdd) := by
  have G_fraction := ok_fraction (P := P) (w := w) (base := base) T
  refine T.F_times.ok sc_times (fun vs H Q E h => ?_) (fun cdv A outer s H vs Q E hr h => ?_)
  · obtain ⟨a, b, n1, d1, n2, d2, rfl, _⟩ := h
    rfl
  · obtain ⟨a, b, n1, d1, n2, d2, rfl, ha, hb, ⟨z1, z2, z3, z4, hd⟩, k⟩ := h
    refine ⟨_, (@pss_one _ _ _ (@ps_ret _ _ _ _ (@pe_call _ _ _ _ _ _ _ _ _ _ _ _ _ _ _ _ G_fraction (hr.mono (by decide)) k_times_fraction T.m_fraction T.F_fraction.kp T.B_fraction .nil (@pass0 _) (@pa_c _ _ _ _ _ (@pe_op _ _ _ _ _ _ _ _ (@op_mulB _) (@pe_ix _ _ _ _ _ _ _ (@ixT_k _ (K) (by rfl)) (@pw _ 0 _ _ (Or.inl k_times_one) (by rfl) (by decide) (by decide)) (@pe_int _ _ _ _) (fun _ _ => rfl)) (@pe_ix _ _ _ _ _ _ _ (@ixT_k _ (K) (by rfl)) (@pw _ 1 _ _ (Or.inl k_times_other) (by rfl) (by decide) (by decide)) (@pe_int _ _ _ _) (fun _ _ => rfl))) (@pa_c _ _ _ _ _ (@pe_op _ _ _ _ _ _ _ _ (@op_mulB _) (@pe_ix _ _ _ _ _ _ _ (@ixT_k _ (K) (by rfl)) (@pw _ 0 _ _ (Or.inl k_times_one) (by rfl) (by decide) (by decide)) (@pe_int _ _ _ _) (fun _ _ => rfl)) (@pe_ix _ _ _ _ _ _ _ (@ixT_k _ (K) (by rfl)) (@pw _ 1 _ _ (Or.inl k_times_other) (by rfl) (by decide) (by decide)) (@pe_int _ _ _ _) (fun _ _ => rfl))) (@pa_nil _) rfl) rfl) (by decide) (by rfl) (by rfl)))), ?_⟩
    exact ⟨_, rfl, a, _, _, _, rfl, rfl, SqT.of ha, rfl, _, rfl, b, _, _, _, rfl, rfl, SqT.of hb, rfl, _, _, rfl, rfl, mulS z1 z3,
      _, rfl, a, _, _, _, rfl, rfl, SqT.of ha, rfl, _, rfl, b, _, _, _, rfl, rfl, SqT.of hb, rfl, _, _, rfl, rfl, mulS z2 z4, _, _, rfl, hd, mulS9 z2 z4, k⟩
theorem ok_over (T : Txt K mg) : FnOk P w K mg base CX0 3 T.f_over T.d_over ["one", "other"] (spBinA nOvr dOvr) := by
  have G_fraction := ok_fraction (P := P) (w := w) (base := base) T
  refine T.F_over.ok sc_over (fun vs H Q E h => ?_) (fun cdv A outer s H vs Q E hr h => ?_)
  · obtain ⟨a, b, n1, d1, n2, d2, rfl, _⟩ := h
    rfl
  · obtain ⟨a, b, n1, d1, n2, d2, rfl, ha, hb, ⟨z1, z2, z3, z4, hd⟩, k⟩ := h
    refine ⟨_, (@pss_one _ _ _ (@ps_ret _ _ _ _ (@pe_call _ _ _ _ _ _ _ _ _ _ _ _ _ _ _ _ G_fraction (hr.mono (by decide)) k_over_fraction T.m_fraction T.F_fraction.kp T.B_fraction .nil (@pass0 _) (@pa_c _ _ _ _ _ (@pe_op _ _ _ _ _ _ _ _ (@op_mulB _) (@pe_ix _ _ _ _ _ _ _ (@ixT_k _ (K) (by rfl)) (@pw _ 0 _ _ (Or.inl k_over_one) (by rfl) (by decide) (by decide)) (@pe_int _ _ _ _) (fun _ _ => rfl)) (@pe_ix _ _ _ _ _ _ _ (@ixT_k _ (K) (by rfl)) (@pw _ 1 _ _ (Or.inl k_over_other) (by rfl) (by decide) (by decide)) (@pe_int _ _ _ _) (fun _ _ => rfl))) (@pa_c _ _ _ _ _ (@pe_op _ _ _ _ _ _ _ _ (@op_mulB _) (@pe_ix _ _ _ _ _ _ _ (@ixT_k _ (K) (by rfl)) (@pw _ 0 _ _ (Or.inl k_over_one) (by rfl) (by decide) (by decide)) (@pe_int _ _ _ _) (fun _ _ => rfl)) (@pe_ix _ _ _ _ _ _ _ (@ixT_k _ (K) (by rfl)) (@pw _ 1 _ _ (Or.inl k_over_other) (by rfl) (by decide) (by decide)) (@pe_int _ _ _ _) (fun _ _ => rfl))) (@pa_nil _) rfl) rfl) (by decide) (by rfl) (by rfl)))), ?_⟩
    exact ⟨_, rfl, a, _, _, _, rfl, rfl, SqT.of ha, rfl, _, rfl, b, _, _, _, rfl, rfl, SqT.of hb, rfl, _, _, rfl, rfl, mulS z1 z4,
      _, rfl, a, _, _, _, rfl, rfl, SqT.of ha, rfl, _, rfl, b, _, _, _, rfl, rfl, SqT.of hb, rfl, _, _, rfl, rfl, mulS z2 z3, _, _, rfl, hd, mulS9 z2 z3, k⟩
theorem ok_compared (T : Txt K mg) : FnOk P w K mg base CX0 1 T.f_compared T.d_compared ["one", "other"] spCmp := by
  refine T.F_compared.ok sc_compared (fun vs H Q E h => ?_) (fun cdv A outer s H vs Q E hr h => ?_)
  · obtain ⟨a, b, n1, d1, n2, d2, rfl, _⟩ := h
    rfl
  · obtain ⟨a, b, n1, d1, n2, d2, rfl, ha, hb, z1, z2, z3, z4, k⟩ := h
    refine ⟨_, (@pss_cons _ _ _ _ _ (@ps_set _ _ (2) _ _ _ _ sc_compared.nd rfl (Or.inl k_compared_left) (@pe_op _ _ _ _ _ _ _ _ (@op_mulB _) (@pe_ix _ _ _ _ _ _ _ (@ixT_k _ (K) (by rfl)) (@pw _ 0 _ _ (Or.inl k_compared_one) (by rfl) (by decide) (by decide)) (@pe_int _ _ _ _) (fun _ _ => rfl)) (@pe_ix _ _ _ _ _ _ _ (@ixT_k _ (K) (by rfl)) (@pw _ 1 _ _ (Or.inl k_compared_other) (by rfl) (by decide) (by decide)) (@pe_int _ _ _ _) (fun _ _ => rfl))) (by rfl) (by first | exact .inl rfl | exact .inr rfl | assumption)) (@pss_cons _ _ _ _ _ (@ps_set _ _ (3) _ _ _ _ sc_compared.nd rfl (Or.inl k_compared_right) (@pe_op _ _ _ _ _ _ _ _ (@op_mulB _) (@pe_ix _ _ _ _ _ _ _ (@ixT_k _ (K) (by rfl)) (@pw _ 1 _ _ (Or.inl k_compared_other) (by rfl) (by decide) (by decide)) (@pe_int _ _ _ _) (fun _ _ => rfl)) (@pe_ix _ _ _ _ _ _ _ (@ixT_k _ (K) (by rfl)) (@pw _ 0 _ _ (Or.inl k_compared_one) (by rfl) (by decide) (by decide)) (@pe_int _ _ _ _) (fun _ _ => rfl))) (by rfl) (by first | exact .inl rfl | exact .inr rfl | assumption)) (@pss_cons _ _ _ _ _ (@ps_if _ _ _ _ _ _ _ _ (@pt_cmpR _ _ _ _ _ _ _ _ (@op_lt _) (@pw _ 2 _ _ (Or.inl k_compared_left) (by rfl) (by decide) (by decide)) (@pw _ 3 _ _ (Or.inl k_compared_right) (by rfl) (by decide) (by decide)) (@nomark _ _ (by decide) (by decide))) (@pss_one _ _ _ (@ps_ret _ _ _ _ (@pe_un _ _ _ _ _ _ (@un_neg _) (@pe_int _ _ _ _)))) (@pss_nil _)) (@pss_cons _ _ _ _ _ (@ps_if _ _ _ _ _ _ _ _ (@pt_cmpR _ _ _ _ _ _ _ _ (@op_gt _) (@pw _ 2 _ _ (Or.inl k_compared_left) (by rfl) (by decide) (by decide)) (@pw _ 3 _ _ (Or.inl k_compared_right) (by rfl) (by decide) (by decide)) (@nomark _ _ (by decide) (by decide))) (@pss_one _ _ _ (@ps_ret _ _ _ _ (@pe_int _ _ _ _))) (@pss_nil _)) (@pss_one _ _ _ (@ps_ret _ _ _ _ (@pe_int _ _ _ _))))))), ?_⟩
    refine ⟨_, rfl, a, _, _, _, rfl, rfl, SqT.of ha, rfl, _, rfl, b, _, _, _, rfl, rfl, SqT.of hb, rfl, _, _, rfl, rfl, mulS z1 z4, _, rfl, b, _, _, _, rfl, rfl, SqT.of hb, rfl, _, rfl, a, _, _, _, rfl, rfl, SqT.of ha, rfl, _, _, rfl, rfl, mulS z3 z2,
      _, rfl, _, rfl, _, _, rfl, rfl, _, rfl, ?_⟩
    unfold cmpI at k
    by_cases h1 : n1 * d2 < n2 * d1
    · rw [decide_eq_true h1]
      rw [if_pos h1] at k
      exact iteT ⟨_, rfl, k⟩
    · rw [decide_eq_false h1]
      rw [if_neg h1] at k
      refine iteF ⟨_, rfl, _, rfl, _, _, rfl, rfl, _, rfl, ?_⟩
      by_cases h2 : n2 * d1 < n1 * d2
      · rw [decide_eq_true h2]
        rw [if_pos h2] at k
        exact iteT k
      · rw [decide_eq_false h2]
        rw [if_neg h2] at k
        exact iteF k
end
end K09
namespace K09
open PySem L2
section
variable {P : Program} {w : World} {K : PySem.W.Frag} {mg : Str → Option Value} {base : Heap}
inductive spLow_ (vs : List V) (H : Hp) (Q : VK) : Prop
  | mk (n d : Int) (h0 : vs = [.int n, .int d]) (h1 : d ≠ 0) (h2 : d.natAbs.log2 < 9000) (h3 : ∀ p, H p = none → Q (.ref p) (upd H p (.tup [.int (KM.low n d).1, .int (KM.low n d).2])))
def spLow : Sp := fun vs H Q _ => spLow_  vs H Q
theorem gcd_log {n d : Int} (hd : d ≠ 0) (h : d.natAbs.log2 < 9000) : CDivB n ((Int.gcd n d : Nat) : Int) := by
  have g0 := KM.gcd_pos (n := n) hd
  refine ⟨by trivial, ?_⟩
  have h1 : Int.gcd n d ≤ d.natAbs := Nat.le_of_dvd (by trivial) (by
    have : ((Int.gcd n d : Nat) : Int) ∣ d := Int.gcd_dvd_right ..
    exact Int.ofNat_dvd_left.mp this)
  have h2 : d.natAbs < 2 ^ 9000 := (Nat.log2_lt (by trivial)).mp h
  rw [Int.natAbs_natCast]
  exact (Nat.log2_lt (by trivial)).mpr (Nat.lt_of_le_of_lt h1 h2)
theorem ok_lowest (T : Txt K mg) : FnOk P w K mg base CX0 1 T.f_l_lowest T.d_l_lowest ["_law_n", "_law_d"] spLow := by
  refine T.F_l_lowest.ok sc_l_lowest (fun vs H Q E h => ?_) (fun cdv A outer s H vs Q E hr h => ?_)
  · obtain ⟨n, d, rfl, _⟩ := h
    rfl
  · obtain ⟨n, d, rfl, hd, hl, k⟩ := h
    refine ⟨_, (pss_cons (ps_par (i := 2) (j := 3) rfl sc_l_lowest.nd rfl rfl (by decide) rfl rfl (pa_cons (pe_callB call_abs (by rfl) T.b_abs boot_b_abs (pa_cons (pv 0) pa_nil)) (pa_cons (pe_callB call_abs (by rfl) T.b_abs boot_b_abs (pa_cons (pv 1) pa_nil)) pa_nil)) rfl)
      (pss_cons (ps_while PassesOwn.never (pt_cmpR op_gt (pv 3) pe_int (nomark _)) (pss_one (ps_par (i := 2) (j := 3) rfl sc_l_lowest.nd rfl rfl (by decide) rfl rfl (pa_cons (pv 3) (pa_cons (pe_op op_mod (pv 2) (pv 3)) pa_nil)) rfl)))
      (pss_one (ps_ret (pe_ifExp (pt_cmpR op_gt (pv 1) pe_int (nomark _)) (pe_tup (pa_cons (pe_op op_fdivB (pv 0) (pv 2)) (pa_cons (pe_op op_fdivB (pv 1) (pv 2)) pa_nil))) (pe_tup (pa_cons (pe_op op_fdivB (pe_un un_neg (pv 0)) (pv 2)) (pa_cons (pe_op op_fdivB (pe_un un_neg (pv 1)) (pv 2)) pa_nil)))))))), ?_⟩
    refine ⟨_, rfl, _, rfl, _, rfl, _, rfl, _, _, rfl, ?_⟩
    refine ⟨fun m σ H' => ∃ a b : Int, σ = [some (.int n), some (.int d), some (.int a), some (.int b)] ∧ H' = H ∧ 0 ≤ a ∧ 0 ≤ b ∧ Int.gcd a b = Int.gcd n d ∧ m = b.natAbs, ⟨_, _, _, rfl, rfl, abs_nn n, abs_nn d, KM.gcd_abs n d, rfl⟩, ?_⟩
    rintro m σ H' ⟨a, b, rfl, rfl, ha, hb, hg, rfl⟩
    refine ⟨_, rfl, _, _, rfl, rfl, _, rfl, ?_⟩
    by_cases hb0 : 0 < b
    · rw [decide_eq_true hb0]
      refine iteT ⟨fun σ' H'' => ∃ a' b' : Int, σ' = [some (.int n), some (.int d), some (.int a'), some (.int b')] ∧ H'' = H' ∧ 0 ≤ a' ∧ 0 ≤ b' ∧ Int.gcd a' b' = Int.gcd n d ∧ b'.natAbs < b.natAbs, ?_, ?_⟩
      · rintro σ' H'' ⟨a', b', rfl, rfl, h0, h1, h2, h3⟩
        exact ⟨_, h3, a', b', rfl, rfl, h0, h1, h2, rfl⟩
      · refine ⟨_, rfl, _, rfl, _, rfl, _, _, rfl, rfl, hb0, _, _, rfl, ?_⟩
        have q0 := Int.emod_nonneg a (Int.ne_of_gt hb0)
        have q1 := Int.emod_lt_of_pos a hb0
        exact ⟨b, a % b, rfl, rfl, hb, q0, (KM.gcd_emod a b).trans hg, by trivial⟩
    · have hb1 : b = 0 := by trivial
      subst hb1
      refine iteF ?_
      have eg : a = ((Int.gcd n d : Nat) : Int) := by
        rw [← hg, KM.gcd_zero_abs, if_neg (by trivial)]
      have c1 := gcd_log (n := n) hd hl
      rw [← eg] at c1
      refine ⟨_, rfl, _, _, rfl, rfl, _, rfl, ?_⟩
      by_cases h0 : 0 < d
      · rw [decide_eq_true h0]
        refine iteT ⟨_, rfl, _, rfl, _, _, rfl, rfl, c1, _, rfl, _, rfl, _, _, rfl, rfl, c1, (by show 2 ≤ sizeLine; decide), fun p hp => ?_⟩
        have q := k p hp
        unfold KM.low at q
        rw [if_pos h0, ← eg] at q
        exact q
      · rw [decide_eq_false h0]
        refine iteF ⟨_, rfl, _, rfl, _, rfl, _, _, rfl, rfl, c1, _, rfl, _, rfl, _, rfl, _, _, rfl, rfl, c1, (by show 2 ≤ sizeLine; decide), fun p hp => ?_⟩
        have q := k p hp
        unfold KM.low at q
        rw [if_neg h0, ← eg] at q
        exact q
end
end K09
namespace K09
open PySem L2
section
variable {P : Program} {w : World} {K : PySem.W.Frag} {mg : Str → Option Value} {base : Heap}
theorem ok_lowestA (T : Txt K mg) : FnOk P w K mg base CX0 1 T.f_l_lowest T.d_l_lowest ["_law_n", "_law_d"] spLowA :=
  (ok_lowest T).imp fun vs H Q E ⟨n, d, e, hd, hs, k⟩ => ⟨n, d, e, hd, hs.log hd, fun p hp => k p _ (.mk' hp)⟩
theorem ok_sum (T : Txt K mg) : FnOk P w K mg base CX0 2 T.f_l_sum T.d_l_sum ["_law_p", "_law_q"] (spBinA nAdd dAdd) := by
  have G_l_lowest := ok_lowest (P := P) (w := w) (base := base) T
  refine T.F_l_sum.ok sc_l_sum (fun vs H Q E h => ?_) (fun cdv A outer s H vs Q E hr h => ?_)
  · obtain ⟨a, b, n1, d1, n2, d2, rfl, _⟩ := h
    rfl
  · obtain ⟨a, b, n1, d1, n2, d2, rfl, ha, hb, ⟨z1, z2, z3, z4, hd⟩, k⟩ := h
    refine ⟨_, (@pss_one _ _ _ (@ps_ret _ _ _ _ (@pe_call _ _ _ _ _ _ _ _ _ _ _ _ _ _ _ _ G_l_lowest (hr.mono (by decide)) k_l_sum_l_lowest T.m_l_lowest T.F_l_lowest.kp T.B_l_lowest .nil (@pass0 _) (@pa_c _ _ _ _ _ (@pe_op _ _ _ _ _ _ _ _ (@op_add _) (@pe_op _ _ _ _ _ _ _ _ (@op_mulB _) (@pe_ix _ _ _ _ _ _ _ (@ixT_k _ (K) (by rfl)) (@pw _ 0 _ _ (Or.inl k_l_sum_l_p) (by rfl) (by decide) (by decide)) (@pe_int _ _ _ _) (fun _ _ => rfl)) (@pe_ix _ _ _ _ _ _ _ (@ixT_k _ (K) (by rfl)) (@pw _ 1 _ _ (Or.inl k_l_sum_l_q) (by rfl) (by decide) (by decide)) (@pe_int _ _ _ _) (fun _ _ => rfl))) (@pe_op _ _ _ _ _ _ _ _ (@op_mulB _) (@pe_ix _ _ _ _ _ _ _ (@ixT_k _ (K) (by rfl)) (@pw _ 1 _ _ (Or.inl k_l_sum_l_q) (by rfl) (by decide) (by decide)) (@pe_int _ _ _ _) (fun _ _ => rfl)) (@pe_ix _ _ _ _ _ _ _ (@ixT_k _ (K) (by rfl)) (@pw _ 0 _ _ (Or.inl k_l_sum_l_p) (by rfl) (by decide) (by decide)) (@pe_int _ _ _ _) (fun _ _ => rfl)))) (@pa_c _ _ _ _ _ (@pe_op _ _ _ _ _ _ _ _ (@op_mulB _) (@pe_ix _ _ _ _ _ _ _ (@ixT_k _ (K) (by rfl)) (@pw _ 0 _ _ (Or.inl k_l_sum_l_p) (by rfl) (by decide) (by decide)) (@pe_int _ _ _ _) (fun _ _ => rfl)) (@pe_ix _ _ _ _ _ _ _ (@ixT_k _ (K) (by rfl)) (@pw _ 1 _ _ (Or.inl k_l_sum_l_q) (by rfl) (by decide) (by decide)) (@pe_int _ _ _ _) (fun _ _ => rfl))) (@pa_nil _) rfl) rfl) (by decide) (by rfl) (by rfl)))), ?_⟩
    exact ⟨_, rfl, a, _, _, _, rfl, rfl, SqT.of ha, rfl, _, rfl, b, _, _, _, rfl, rfl, SqT.of hb, rfl, _, _, rfl, rfl, mulS z1 z4, _, rfl, b, _, _, _, rfl, rfl, SqT.of hb, rfl, _, rfl, a, _, _, _, rfl, rfl, SqT.of ha, rfl, _, _, rfl, rfl, mulS z3 z2, _, _, rfl, rfl,
      _, rfl, a, _, _, _, rfl, rfl, SqT.of ha, rfl, _, rfl, b, _, _, _, rfl, rfl, SqT.of hb, rfl, _, _, rfl, rfl, mulS z2 z4, _, _, rfl, hd, (mulS9 z2 z4).log hd, fun p hp => k p _ (.mk' hp)⟩
theorem ok_product (T : Txt K mg) : FnOk P w K mg base CX0 2 T.f_l_product T.d_l_product ["_law_p", "_law_q"] (spBinA nTim dAdd) := by
  have G_l_lowest := ok_lowest (P := P) (w := w) (base := base) T
  refine T.F_l_product.ok sc_l_product (fun vs H Q E h => ?_) (fun cdv A outer s H vs Q E hr h => ?_)
  · obtain ⟨a, b, n1, d1, n2, d2, rfl, _⟩ := h
    rfl
  · obtain ⟨a, b, n1, d1, n2, d2, rfl, ha, hb, ⟨z1, z2, z3, z4, hd⟩, k⟩ := h
    refine ⟨_, (@pss_one _ _ _ (@ps_ret _ _ _ _ (@pe_call _ _ _ _ _ _ _ _ _ _ _ _ _ _ _ _ G_l_lowest (hr.mono (by decide)) k_l_product_l_lowest T.m_l_lowest T.F_l_lowest.kp T.B_l_lowest .nil (@pass0 _) (@pa_c _ _ _ _ _ (@pe_op _ _ _ _ _ _ _ _ (@op_mulB _) (@pe_ix _ _ _ _ _ _ _ (@ixT_k _ (K) (by rfl)) (@pw _ 0 _ _ (Or.inl k_l_product_l_p) (by rfl) (by decide) (by decide)) (@pe_int _ _ _ _) (fun _ _ => rfl)) (@pe_ix _ _ _ _ _ _ _ (@ixT_k _ (K) (by rfl)) (@pw _ 1 _ _ (Or.inl k_l_product_l_q) (by rfl) (by decide) (by decide)) (@pe_int _ _ _ _) (fun _ _ => rfl))) (@pa_c _ _ _ _ _ (@pe_op _ _ _ _ _ _ _ _ (@op_mulB _) (@pe_ix _ _ _ _ _ _ _ (@ixT_k _ (K) (by rfl)) (@pw _ 0 _ _ (Or.inl k_l_product_l_p) (by rfl) (by decide) (by decide)) (@pe_int _ _ _ _) (fun _ _ => rfl)) (@pe_ix _ _ _ _ _ _ _ (@ixT_k _ (K) (by rfl)) (@pw _ 1 _ _ (Or.inl k_l_product_l_q) (by rfl) (by decide) (by decide)) (@pe_int _ _ _ _) (fun _ _ => rfl))) (@pa_nil _) rfl) rfl) (by decide) (by rfl) (by rfl)))), ?_⟩
    exact ⟨_, rfl, a, _, _, _, rfl, rfl, SqT.of ha, rfl, _, rfl, b, _, _, _, rfl, rfl, SqT.of hb, rfl, _, _, rfl, rfl, mulS z1 z3,
      _, rfl, a, _, _, _, rfl, rfl, SqT.of ha, rfl, _, rfl, b, _, _, _, rfl, rfl, SqT.of hb, rfl, _, _, rfl, rfl, mulS z2 z4, _, _, rfl, hd, (mulS9 z2 z4).log hd, fun p hp => k p _ (.mk' hp)⟩
end
end K09
namespace K09
open PySem L2
section
variable {P : Program} {w : World} {K : PySem.W.Frag} {mg : Str → Option Value} {base : Heap}
theorem ok_take (T : Txt K mg) : FnOk P w K mg base CX0 1 T.f_l_take T.d_l_take ["_law_box", "_law_many"] spTake := by
  refine T.F_l_take.ok sc_l_take (fun vs H Q E h => ?_) (fun cdv A outer s H vs Q E hr h => ?_)
  · obtain ⟨b, many, t, rfl, _⟩ := h
    rfl
  · obtain ⟨b, many, t, rfl, ⟨c, x, hb, hc, hx0, hx1⟩, hm0, hm1, ht0, ht1, kk⟩ := h
    refine ⟨_, (pss_cons (ps_if (pt_cmpR op_gt (pe_ix ix_seq (pv 0) pe_int (fun _ _ => rfl)) pe_int (nomark _)) (pss_cons (ps_asg (pe_callB call_divmodB (by rfl) T.b_divmod boot_b_divmod (pa_cons (pe_ix ix_seq (pv 0) pe_int (fun _ _ => rfl)) (pa_cons (pv 1) pa_nil))) (pg_tup rfl (pgs_cons (pg_sub (pv 0) pe_int set_list) (pgs_cons (pg_name (i := 2) sc_l_take.nd rfl (Or.inl rfl)) pgs_nil))))
        (pss_one (ps_ret (pv 2)))) pss_nil)
      (pss_cons (ps_asg (pe_op op_add (pe_ix ix_seq (pv 0) pe_int (fun _ _ => rfl)) pe_int) (pg_sub (pv 0) pe_int set_list))
      (pss_cons (ps_set (i := 3) sc_l_take.nd rfl (Or.inl rfl) (pe_op op_mod (pe_op op_pow (pe_op op_add (pe_ix ix_seq (pv 0) pe_int (fun _ _ => rfl)) (pe_op op_mul pe_int (pe_ix ix_seq (pv 0) pe_int (fun _ _ => rfl)))) pe_int) pe_int))
      (pss_one (ps_ret (pe_op op_mod (pe_op op_fdiv (pe_op op_mod (pe_op op_add (pe_op op_mul (pv 3) pe_int) (pe_op op_mul (pe_op op_mul (pe_ix ix_seq (pv 0) pe_int (fun _ _ => rfl)) (pe_ix ix_seq (pv 0) pe_int (fun _ _ => rfl))) pe_int)) pe_int) pe_int) (pv 1))))))), ?_⟩
    refine ⟨_, rfl, .inl ⟨b, _, _, _, rfl, rfl, SqL.of hb, rfl, _, _, rfl, rfl, _, rfl, ?_⟩⟩
    refine ite2 (fun h => ?_) (fun h => ?_)
    · refine ⟨_, rfl, .inl ⟨b, _, _, _, rfl, rfl, SqL.of hb, rfl, _, rfl, _, _, rfl, ⟨hm0, hm1⟩, fun p hp => ⟨p, _, rfl, SqT.of upd_same, rfl, _, _, rfl, _, rfl, b, [.int c, .int x, .int t], _, 0, rfl, rfl, ?_, rfl, _, _, rfl, rfl, _, rfl, ?_⟩⟩⟩
      · rw [upd_ne (ne_of_none hb hp)]; exact hb
      · have hb' : upd H p (.tup [.int (c / many), .int (c % many)]) b = some (.lst [.int c, .int x, .int t]) := by rw [upd_ne (ne_of_none hb hp)]; exact hb
        exact kk _ t _ (Int.emod_nonneg _ (Int.ne_of_gt hm0)) (Int.emod_lt_of_pos _ hm0) (Int.le_refl _) (by trivial) (sameE_upd (Same.new hp) hb') ⟨_, _, upd_same, Int.ediv_nonneg hc (Int.le_of_lt hm0), hx0, hx1⟩
    · refine ⟨_, rfl, .inl ⟨b, _, _, _, rfl, rfl, SqL.of hb, rfl, _, _, rfl, rfl, _, rfl, b, _, _, 2, rfl, rfl, hb, rfl, ?_⟩⟩
      refine ⟨_, rfl, .inl ⟨b, _, _, _, rfl, rfl, SqL.of upd_same, rfl, _, rfl, .inl ⟨b, _, _, _, rfl, rfl, SqL.of upd_same, rfl, _, _, rfl, rfl, .inl ⟨by decide, by decide⟩, _, _, rfl, rfl, _, _, rfl, rfl, ⟨by decide, by decide, ?_⟩, _, _, rfl, rfl, ?_, ?_⟩⟩⟩
      · have : (x + 39373 * (t + 1)).natAbs < 2 ^ 64 := by trivial
        exact this
      · show (0 : Int) < 2147483647; decide
      have ho0 : 0 ≤ (x + 39373 * (t + 1)) ^ (5 : Int).toNat % 2147483647 := Int.emod_nonneg _ (by decide)
      have ho1 : (x + 39373 * (t + 1)) ^ (5 : Int).toNat % 2147483647 < 2147483647 := Int.emod_lt_of_pos _ (by decide)
      generalize (x + 39373 * (t + 1)) ^ (5 : Int).toNat % 2147483647 = on at ho0 ho1 ⊢
      refine ⟨_, rfl, _, _, rfl, rfl, .inr ⟨by decide, by decide⟩, _, rfl, .inl ⟨b, _, _, _, rfl, rfl, SqL.of upd_same, rfl, _, rfl, .inl ⟨b, _, _, _, rfl, rfl, SqL.of upd_same, rfl, _, _, rfl, rfl, .inl ⟨?_, ?_⟩, _, _, rfl, rfl, .inr ⟨by decide, by decide⟩, _, _, rfl, rfl, _, _, rfl, rfl, ?_, _, _, rfl, rfl, ⟨by decide, by decide⟩, _, rfl, _, _, rfl, rfl, hm0, ?_⟩⟩⟩
      · show -(2 ^ 64) < t + 1; trivial
      · show t + 1 < 2 ^ 64; trivial
      · show (0 : Int) < 2147483629; decide
      · exact kk _ (t + 1) _ (Int.emod_nonneg _ (Int.ne_of_gt hm0)) (Int.emod_lt_of_pos _ hm0) (by trivial) (Int.le_refl _) (sameE_upd (Same.refl H) hb) ⟨c, x, upd_same, hc, hx0, hx1⟩
end
end K09
namespace K09
open PySem L2
section
variable {P : Program} {w : World} {K : PySem.W.Frag} {mg : Str → Option Value} {base : Heap}
theorem ok_names_by (T : Txt K mg) : FnOk P w K mg base CX0 2 T.f_l_names_by T.d_l_names_by ["_law_box", "_law_many"] spNames := by
  have G_l_take := ok_take (P := P) (w := w) (base := base) T
  refine T.F_l_names_by.ok sc_l_names_by (fun vs H Q E h => ?_) (fun cdv A outer s H vs Q E hr h => ?_)
  · obtain ⟨b, many, t, rfl, _⟩ := h
    rfl
  · obtain ⟨b, many, t, rfl, B, ht0, ht1, hm1, hm2, k⟩ := h
    refine ⟨_, (@pss_cons _ _ _ _ _ (@ps_asg _ _ _ _ _ _ (@pe_tupA _ _ _ _ _ (@pa_c _ _ _ _ _ (@pe_str _ _ _ _) (@pa_c _ _ _ _ _ (@pe_call _ _ _ _ _ _ _ _ _ _ _ _ _ _ _ _ G_l_take (hr.mono (by decide)) k_l_names_by_l_take T.m_l_take T.F_l_take.kp T.B_l_take .nil (@pass0 _) (@pa_c _ _ _ _ _ (@pw _ 0 _ _ (Or.inr (Or.inl k_l_names_by_l_box)) (by rfl) (by decide) (by decide)) (@pa_c _ _ _ _ _ (@pe_int _ _ _ _) (@pa_nil _) rfl) rfl) (by decide) (by rfl) (by rfl)) (@pa_nil _) rfl) rfl)) (@pg_tup_k _ (K) _ _ _ _ (2) rfl (@pgs_cons _ _ _ _ _ (@pg_name _ _ (2) _ sc_l_names_by.nd rfl (Or.inr k_l_names_by_l_letters) (by first | exact .inl rfl | exact .inr rfl | assumption)) (@pgs_cons _ _ _ _ _ (@pg_name _ _ (3) _ sc_l_names_by.nd rfl (Or.inr k_l_names_by_l_first) (by first | exact .inl rfl | exact .inr rfl | assumption)) (@pgs_nil _) (by rfl)) (by rfl)) (by rfl) (by rfl) (by rfl)) (by rfl) (by rfl) (by rfl)) (@pss_cons _ _ _ _ _ (@ps_if _ _ _ _ _ _ _ _ (@pt_cmpR _ _ _ _ _ _ _ _ (@op_eq _) (@pe_call _ _ _ _ _ _ _ _ _ _ _ _ _ _ _ _ G_l_take (hr.mono (by decide)) k_l_names_by_l_take T.m_l_take T.F_l_take.kp T.B_l_take .nil (@pass0 _) (@pa_c _ _ _ _ _ (@pw _ 0 _ _ (Or.inr (Or.inl k_l_names_by_l_box)) (by rfl) (by decide) (by decide)) (@pa_c _ _ _ _ _ (@pe_int _ _ _ _) (@pa_nil _) rfl) rfl) (by decide) (by rfl) (by rfl)) (@pe_int _ _ _ _) (@nomark _ _ (by decide) (by decide))) (@pss_cons _ _ _ _ _ (@ps_set _ _ (5) _ _ _ _ sc_l_names_by.nd rfl (Or.inl k_l_names_by_l_row) (@pe_op _ _ _ _ _ _ _ _ (@op_catA _) (@pe_comp _ _ _ _ _ _ _ (["_law_k", "_law_first", "_law_letters"]) (1) ([3, 2]) _ _ _ _ rfl (by kernel_rfl) (@pi_range1 _ _ _ _ _ _ k_l_names_by_range T.b_range (@pa_c _ _ _ _ _ (@pe_int _ _ _ _) (@pa_nil _) rfl) (by rfl)) (fun _ _ _ _ _ _ => (@pg_name _ _ (0) _ (@nodupS _ (by kernel_rfl)) rfl (Or.inl (by kernel_rfl)) (by first | exact .inl rfl | exact .inr rfl | assumption))) (fun _ _ _ _ _ _ => @pifs_nil _) (fun _ _ _ _ _ _ => (@pe_op _ _ _ _ _ _ _ _ (@op_mulS _) (@pe_ix _ _ _ _ _ _ _ (@ix_str _) (@pw _ 2 _ _ (Or.inr (Or.inl (by kernel_rfl))) (by rfl) (by decide) (by decide)) (@pw _ 1 _ _ (Or.inr (Or.inl (by kernel_rfl))) (by rfl) (by decide) (by decide)) (fun _ _ => rfl)) (@pe_op _ _ _ _ _ _ _ _ (@op_add _) (@pe_int _ _ _ _) (@pw _ 0 _ _ (Or.inl (by kernel_rfl)) (by rfl) (by decide) (by decide))))) (by intro _; rfl)) (@pe_comp _ _ _ _ _ _ _ (["_law_k", "_law_first", "_law_letters"]) (1) ([3, 2]) _ _ _ _ rfl (by kernel_rfl) (@pi_range1 _ _ _ _ _ _ k_l_names_by_range T.b_range (@pa_c _ _ _ _ _ (@pe_int _ _ _ _) (@pa_nil _) rfl) (by rfl)) (fun _ _ _ _ _ _ => (@pg_name _ _ (0) _ (@nodupS _ (by kernel_rfl)) rfl (Or.inl (by kernel_rfl)) (by first | exact .inl rfl | exact .inr rfl | assumption))) (fun _ _ _ _ _ _ => @pifs_nil _) (fun _ _ _ _ _ _ => (@pe_op _ _ _ _ _ _ _ _ (@op_mulS _) (@pe_ix _ _ _ _ _ _ _ (@ix_str _) (@pw _ 2 _ _ (Or.inr (Or.inl (by kernel_rfl))) (by rfl) (by decide) (by decide)) (@pe_op _ _ _ _ _ _ _ _ (@op_sub _) (@pw _ 1 _ _ (Or.inr (Or.inl (by kernel_rfl))) (by rfl) (by decide) (by decide)) (@pe_int _ _ _ _)) (fun _ _ => rfl)) (@pe_op _ _ _ _ _ _ _ _ (@op_add _) (@pe_int _ _ _ _) (@pw _ 0 _ _ (Or.inl (by kernel_rfl)) (by rfl) (by decide) (by decide))))) (by intro _; rfl))) (by rfl) (by first | exact .inl rfl | exact .inr rfl | assumption)) (@pss_one _ _ _ (@ps_ret _ _ _ _ (@pe_revA _ _ _ _ _ _ _ _ (@pe_slice _ _ _ _ _ _ _ _ _ _ (@sl_listA _ (K) (by rfl)) (@pw _ 5 _ _ (Or.inl k_l_names_by_l_row) (by rfl) (by decide) (by decide)) (@po_none _) (@po_some _ _ _ (@pw _ 1 _ _ (Or.inl k_l_names_by_l_many) (by rfl) (by decide) (by decide)))) (@po_some _ _ _ (@pe_un _ _ _ _ _ _ (@un_neg _) (@pe_int _ _ _ _))) (by rfl))))) (@pss_nil _)) (@pss_cons _ _ _ _ _ (@ps_set _ _ (6) _ _ _ _ sc_l_names_by.nd rfl (Or.inl k_l_names_by_l_found) (@pe_lstA _ _ _ _ (@pa_nil _)) (by rfl) (by first | exact .inl rfl | exact .inr rfl | assumption)) (@pss_cons _ _ _ _ _ (@ps_for _ _ _ _ _ _ _ _ PassesOwn.never rfl (@pi_range1 _ _ _ _ _ _ k_l_names_by_range T.b_range (@pa_c _ _ _ _ _ (@pw _ 1 _ _ (Or.inl k_l_names_by_l_many) (by rfl) (by decide) (by decide)) (@pa_nil _) rfl) (by rfl)) (@pg_name _ _ (4) _ sc_l_names_by.nd rfl (Or.inl k_l_names_by_l_k) (by first | exact .inl rfl | exact .inr rfl | assumption)) (@pss_cons _ _ _ _ _ (@ps_set _ _ (7) _ _ _ _ sc_l_names_by.nd rfl (Or.inl k_l_names_by_l_more) (@pe_bm_k _ (K) _ _ _ _ _ _ _ _ _ _ _ PySem.F.plainAttrs_str PySem.F.slot_str_join PySem.F.type_str_join (@mt_join _ (K) (by rfl)) (@pe_str _ _ _ _) (@pa_c _ _ _ _ _ (@pe_comp _ _ _ _ _ _ _ (["_law_j", "_law_box", "_law_letters"]) (1) ([0, 2]) _ _ _ _ rfl (by kernel_rfl) (@pi_range1 _ _ _ _ _ _ k_l_names_by_range T.b_range (@pa_c _ _ _ _ _ (@pe_call _ _ _ _ _ _ _ _ _ _ _ _ _ _ _ _ G_l_take (hr.mono (by decide)) k_l_names_by_l_take T.m_l_take T.F_l_take.kp T.B_l_take .nil (@pass0 _) (@pa_c _ _ _ _ _ (@pw _ 0 _ _ (Or.inr (Or.inl k_l_names_by_l_box)) (by rfl) (by decide) (by decide)) (@pa_c _ _ _ _ _ (@pe_ix _ _ _ _ _ _ _ (@ixL_k _ (K) (by rfl)) (@pe_lstA _ _ _ _ (@pa_c _ _ _ _ _ (@pe_int _ _ _ _) (@pa_c _ _ _ _ _ (@pe_int _ _ _ _) (@pa_c _ _ _ _ _ (@pe_int _ _ _ _) (@pa_nil _) rfl) rfl) rfl)) (@pe_call _ _ _ _ _ _ _ _ _ _ _ _ _ _ _ _ G_l_take (hr.mono (by decide)) k_l_names_by_l_take T.m_l_take T.F_l_take.kp T.B_l_take .nil (@pass0 _) (@pa_c _ _ _ _ _ (@pw _ 0 _ _ (Or.inr (Or.inl k_l_names_by_l_box)) (by rfl) (by decide) (by decide)) (@pa_c _ _ _ _ _ (@pe_int _ _ _ _) (@pa_nil _) rfl) rfl) (by decide) (by rfl) (by rfl)) (fun _ _ => rfl)) (@pa_nil _) rfl) rfl) (by decide) (by rfl) (by rfl)) (@pa_nil _) rfl) (by rfl)) (fun _ _ _ _ _ _ => (@pg_name _ _ (0) _ (@nodupS _ (by kernel_rfl)) rfl (Or.inl (by kernel_rfl)) (by first | exact .inl rfl | exact .inr rfl | assumption))) (fun _ _ _ _ _ _ => @pifs_nil _) (fun _ _ _ _ _ _ => (@pe_ix _ _ _ _ _ _ _ (@ix_str _) (@pw _ 2 _ _ (Or.inr (Or.inl (by kernel_rfl))) (by rfl) (by decide) (by decide)) (@pe_call _ _ _ _ _ _ _ _ _ _ _ _ _ _ _ _ G_l_take (hr.mono (by decide)) (by show _ = _; kernel_rfl) T.m_l_take T.F_l_take.kp T.B_l_take .nil (@pass0 _) (@pa_c _ _ _ _ _ (@pw _ 1 _ _ (Or.inr (Or.inl (by kernel_rfl))) (by rfl) (by decide) (by decide)) (@pa_c _ _ _ _ _ (@pe_int _ _ _ _) (@pa_nil _) rfl) rfl) (by decide) (by rfl) (by rfl)) (fun _ _ => rfl))) (by intro _; rfl)) (@pa_nil _) rfl) (by rfl) (by rfl) (by rfl) (by rfl) (by rfl) (by rfl)) (by rfl) (by first | exact .inl rfl | exact .inr rfl | assumption)) (@pss_one _ _ _ (@ps_expr _ _ _ _ (@pe_bm_k _ (K) _ _ _ _ _ _ _ _ _ _ _ PySem.F.plainAttrs_list PySem.F.slot_list_append PySem.F.type_list_append (@mt_appendA _) (@pw _ 6 _ _ (Or.inl k_l_names_by_l_found) (by rfl) (by decide) (by decide)) (@pa_c _ _ _ _ _ (@pe_op _ _ _ _ _ _ _ _ (@op_addS _) (@pe_ix _ _ _ _ _ _ _ (@ix_str _) (@pw _ 2 _ _ (Or.inr (Or.inl k_l_names_by_l_letters)) (by rfl) (by decide) (by decide)) (@pe_op _ _ _ _ _ _ _ _ (@op_mod _) (@pe_op _ _ _ _ _ _ _ _ (@op_add _) (@pw _ 3 _ _ (Or.inr (Or.inl k_l_names_by_l_first)) (by rfl) (by decide) (by decide)) (@pe_op _ _ _ _ _ _ _ _ (@op_mul _) (@pe_int _ _ _ _) (@pw _ 4 _ _ (Or.inl k_l_names_by_l_k) (by rfl) (by decide) (by decide)))) (@pe_int _ _ _ _)) (fun _ _ => rfl)) (@pw _ 7 _ _ (Or.inl k_l_names_by_l_more) (by rfl) (by decide) (by decide))) (@pa_nil _) rfl) (by rfl) (by rfl) (by rfl) (by rfl) (by rfl) (by rfl)) (by rfl)))) (by intro _; rfl)) (@pss_one _ _ _ (@ps_ret _ _ _ _ (@pw _ 6 _ _ (Or.inl k_l_names_by_l_found) (by rfl) (by decide) (by decide)))))))), ?_⟩
    refine ⟨_, rfl, b, 26, t, rfl, B, by decide, by decide, ht0, by trivial, fun f t1 H1 f0 f1 h1a h1b s1 B1 => ⟨(by show 2 ≤ 10000; decide), fun q H2 n2 => ⟨q, _, rfl, SqT.of n2.at', rfl, _, _, rfl, _, _, rfl, rfl, ?_⟩⟩⟩
    have B2 := B1.same n2.sm
    have s02 := s1.trans n2.sm.toE
    refine ⟨_, rfl, b, 4, t1, rfl, B2, by decide, by decide, by trivial, by trivial, fun r t3 H3 r0 r1 h3a h3b s3 B3 => ⟨rfl, _, rfl, ?_⟩⟩
    have s03 := s02.trans s3
    have hz : (Str.ofString "abcdefghijklmnopqrstuvwxyz").length ≤ sizeLine := by decide +kernel
    have comp : ∀ (c : Nat) (G : Hp) (D : Addr), G D = none → (fun (i : Nat) (H' : Hp) (ys : List V) => ys = (List.range i).map (fun k => strV (nm c k)) ∧ H' D = some (.lst ys) ∧ Same G H') 0 (upd G D (.lst [])) [] := fun c G D hD => ⟨rfl, upd_same, same_lst hD (Same.refl _)⟩
    have step : ∀ (c i : Nat) (G H4 : Hp) (D : Addr) (ys : List V), G D = none → ys = (List.range i).map (fun k => strV (nm c k)) → Same G H4 → ys ++ [strV (nm c i)] = (List.range (i + 1)).map (fun k => strV (nm c k)) ∧ upd H4 D (.lst (ys ++ [strV (nm c i)])) D = some (.lst (ys ++ [strV (nm c i)])) ∧ Same G (upd H4 D (.lst (ys ++ [strV (nm c i)]))) := fun c i G H4 D ys hD e s => by
      refine ⟨?_, upd_same, same_lst hD s⟩
      rw [e, List.range_succ, List.map_append]; rfl
    refine ite2 (fun c1 => ?_) (fun c1 => ?_)
    · -- rows of one letter
      have hc1 := letter_at (i := f) (by trivial) (by trivial)
      have hc2 := letter_at (i := f - 1) (by trivial) (by trivial)
      generalize hd1 : 97 + (f % 26).toNat = d1 at hc1
      generalize hd2 : 97 + ((f - 1) % 26).toNat = d2 at hc2
      have b1 : 97 ≤ d1 ∧ d1 ≤ 122 := by trivial
      have b2 : 97 ≤ d2 ∧ d2 ≤ 122 := by trivial
      have ne : d1 ≠ d2 := by trivial
      refine ⟨8, rfl, by decide, by decide, fun D1 hD1 => comp_each (n := 8) (fun (i : Nat) (H' : Hp) (ys : List V) => ys = (List.range i).map (fun k => strV (nm d1 k)) ∧ H' D1 = some (.lst ys) ∧ Same H3 H') (by decide) (comp d1 H3 D1 hD1) ?_ ?_ ?_ ?_ ?_⟩
      · rintro i H' ys ⟨rfl, e, _⟩
        exact ⟨e, by simp⟩
      · intro i H' ys hi _
        exact hi
      · intro H' ys _
        exact Nat.le_refl _
      · rintro i H' ys x H'' hi ⟨e1, e2, e3⟩ ⟨rfl, rfl⟩
        refine ⟨back1, _, rfl, _, rfl, _, _, _, rfl, rfl, hz, hc1, _, rfl, _, _, rfl, rfl, [d1], _, rfl, rfl, by trivial, by trivial, (by show 1 ≤ 100; decide), ?_⟩
        have en : (List.replicate (1 + (0 + (i : Int))).toNat [d1]).flatten = nm d1 i := by
          rw [rep1]
          unfold nm
          congr 1
          trivial
        rw [en]
        exact ⟨e2, step d1 i H3 _ D1 ys hD1 e1 e3⟩
      rintro H4 ys1 ⟨ey1, eD1, s4⟩
      refine ⟨8, rfl, by decide, by decide, fun D2 hD2 => comp_each (n := 8) (fun (i : Nat) (H' : Hp) (ys : List V) => ys = (List.range i).map (fun k => strV (nm d2 k)) ∧ H' D2 = some (.lst ys) ∧ Same H4 H') (by decide) (comp d2 H4 D2 hD2) ?_ ?_ ?_ ?_ ?_⟩
      · rintro i H' ys ⟨rfl, e, _⟩
        exact ⟨e, by simp⟩
      · intro i H' ys hi _
        exact hi
      · intro H' ys _
        exact Nat.le_refl _
      · rintro i H' ys x H'' hi ⟨e1, e2, e3⟩ ⟨rfl, rfl⟩
        refine ⟨back1, _, rfl, _, rfl, _, _, rfl, rfl, _, _, _, rfl, rfl, hz, hc2, _, rfl, _, _, rfl, rfl, [d2], _, rfl, rfl, by trivial, by trivial, (by show 1 ≤ 100; decide), ?_⟩
        have en : (List.replicate (1 + (0 + (i : Int))).toNat [d2]).flatten = nm d2 i := by
          rw [rep1]
          unfold nm
          congr 1
          trivial
        rw [en]
        exact ⟨e2, step d2 i H4 _ D2 ys hD2 e1 e3⟩
      rintro H5 ys2 ⟨ey2, eD2, s5⟩
      subst ey1 ey2
      refine ⟨D1, D2, _, _, rfl, rfl, s5 _ _ eD1, eD2, (by simp), fun q6 H6 n6 => ?_⟩
      refine ⟨_, rfl, _, rfl, _, rfl, q6, _, rfl, SqL.of n6.at', fun q7 H7 n7 => ⟨_, rfl, _, rfl, rfl, q7, _, rfl, SqL.of n7.at', fun q8 H8 n8 => ?_⟩⟩
      have s38 : Same H3 H8 := (((s4.trans s5).trans n6.sm).trans n7.sm).trans n8.sm
      let ls := (((List.range 8).map (nm d1) ++ (List.range 8).map (nm d2)).take many.toNat).reverse
      have e8 : H8 q8 = some (.lst (ls.map strV)) := by
        rw [n8.at', cutV_take (by trivial)]
        congr 2
        show _ = List.map strV (((List.range 8).map (nm d1) ++ (List.range 8).map (nm d2)).take many.toNat).reverse
        rw [List.map_reverse, List.map_take, List.map_append, List.map_map, List.map_map]
        rfl
      have hq8 : H3 q8 = none := (((s4.trans s5).trans n6.sm).trans n7.sm).free n8.fr
      refine k q8 ls t3 H8 (SameE.free s03 B3 hq8) (s03.trans s38.toE) e8 ?_ ?_ ?_ (B3.same s38) (by trivial) (by trivial)
      · show (((List.range 8).map (nm d1) ++ (List.range 8).map (nm d2)).take many.toNat).reverse.length = _
        rw [List.length_reverse, List.length_take]
        simp
        trivial
      · exact (List.reverse_perm _).nodup_iff.mpr ((rows_nodup ne).sublist (List.take_sublist _ _))
      · intro l hl
        have hl' := List.mem_of_mem_take (List.mem_reverse.mp hl)
        rcases List.mem_append.mp hl' with h | h
        · obtain ⟨j, hj, rfl⟩ := List.mem_map.mp h
          exact nm_ok (List.mem_range.mp hj) b1.1 b1.2
        · obtain ⟨j, hj, rfl⟩ := List.mem_map.mp h
          exact nm_ok (List.mem_range.mp hj) b2.1 b2.2
    · -- letters of eleven steps
      refine ⟨(by show 0 ≤ 10000; decide), fun D H4 n4 => ?_⟩
      have hDn : H D = none := SameE.free s03 B3 n4.fr
      have nDb : ¬ D = b := fun z => B3.ne n4.fr z.symm
      refine ⟨_, rfl, _, rfl, by trivial, by trivial, for_range (fun i σ H' => Ex5 fun v4 v5 v7 ls t' => σ = [some (.ref b), some (.int many), some (.str "abcdefghijklmnopqrstuvwxyz"), some (.int f), v4, v5, some (.ref D), v7] ∧ H' D = some (.lst (ls.map strV)) ∧ ls.length = i ∧ (∀ (j : Nat) (l : List Nat), ls[j]? = some l → l.head? = some (97 + ((f + 11 * (j : Int)) % 26).toNat)) ∧ (∀ l ∈ ls, NameC l) ∧ Bx H' b t' ∧ t3 ≤ t' ∧ t' ≤ t3 + 10 * i ∧ SameE (Eb b) H H')
        ⟨_, _, _, [], t3, rfl, n4.at', rfl, fun j l h => (by simp at h), fun l h => (by cases h), B3.same n4.sm, by trivial, by trivial, s03.trans n4.sm.toE⟩ ?_ ?_⟩
      case refine_2 =>
        rintro σ H' ⟨v4, v5, v7, ls, t', rfl, e1, e2, e3, e4, B', h0, h1, s'⟩
        exact ⟨_, rfl, k D ls t' H' hDn s' e1 e2 (heads_nodup (by trivial) e3) e4 B' (by trivial) (by trivial)⟩
      rintro i σ H' hi ⟨v4, v5, v7, ls, t', rfl, e1, e2, e3, e4, B', h0, h1, s'⟩
      refine ⟨rfl, _, rfl, (by show 3 ≤ 10000; decide), fun l3 J1 m1 => ⟨_, rfl, b, 3, t', rfl, B'.same m1.sm, by decide, by decide, by trivial, by trivial, fun r5 t5 J2 r50 r51 _ _ j2 C2 => ?_⟩⟩
      have nl3 : ¬ l3 = b := fun z => B'.ne m1.fr z.symm
      obtain ⟨m, em, hm0, hm8⟩ : ∃ m : Int, atI [V.int 1, V.int 3, V.int 8] r5 = some (V.int m) ∧ 0 < m ∧ m ≤ 8 := by
        obtain rfl | rfl | rfl : r5 = 0 ∨ r5 = 1 ∨ r5 = 2 := by trivial
        · exact ⟨1, rfl, by decide, by decide⟩
        · exact ⟨3, rfl, by decide, by decide⟩
        · exact ⟨8, rfl, by decide, by decide⟩
      refine ⟨l3, _, _, _, rfl, rfl, SqL.of (j2.old l3 _ nl3 m1.at'), em, b, m, t5, rfl, C2, hm0, log2_small hm0 (by trivial), by trivial, by trivial, fun r6 t6 J3 r60 r61 _ _ j3 C3 => ⟨_, rfl, by trivial, by trivial, fun D2 hD2 => comp_each (n := r6.toNat) (fun i H' ys => Ex2 fun (cs : List Nat) (t' : Int) => ys = cs.map (fun c => strV [c]) ∧ H' D2 = some (.lst ys) ∧ cs.length = i ∧ (∀ c ∈ cs, 97 ≤ c ∧ c ≤ 122) ∧ Bx H' b t' ∧ t6 ≤ t' ∧ t' ≤ t6 + i ∧ SameE (Eb b) J3 H') ?_ ?_ ?_ ?_ ?_ ?_ ?_⟩⟩
      · rw [sizeLine_eq]; trivial
      · exact ⟨[], t6, rfl, upd_same, rfl, fun c h => (by cases h), C3.same (Same.new hD2), by trivial, by trivial, (Same.new hD2).toE⟩
      · rintro i' H'' ys ⟨cs, t7, rfl, e, rfl, _⟩
        exact ⟨e, by simp⟩
      · intro i' H'' ys hi' _
        exact hi'
      · intro H'' ys _
        exact Nat.le_refl _
      · have nD2 : ¬ D2 = b := fun z => C3.ne hD2 z.symm
        rintro i' Ha ys x Hb hi' ⟨cs, t7, rfl, g1, g2, g3, g4, g5, g6, g7⟩ ⟨rfl, rfl⟩
        refine ⟨back1, _, rfl, _, rfl, b, 26, t7, rfl, g4, by decide, by decide, by trivial, by trivial, fun r8 t8 Hc r80 r81 _ _ jc Cc => ⟨_, _, _, rfl, rfl, hz, letter_at (by trivial) (by trivial), ?_⟩⟩
        have eD := jc.old D2 _ nD2 g1
        refine ⟨eD, cs ++ [97 + (r8 % 26).toNat], t8, by rw [List.map_append]; rfl, upd_same, by rw [List.length_append, g2]; rfl, fun c hc => ?_, ?_, by trivial, by trivial, (g7.trans jc).up hD2⟩
        · rcases List.mem_append.mp hc with h | h
          · exact g3 c h
          · rw [List.mem_singleton.mp h]; trivial
        · have c' : Ch Hc D2 (cs.map (fun c => strV [c]) ++ [strV [97 + (r8 % 26).toNat]]) _ := Ch.mk'
          exact Cc.ch c' (Ne.symm nD2)
      rintro J4 ys ⟨cs, t7, rfl, g1, g2, g3, C4, g5, g6, j4⟩
      refine ⟨D2, cs.map (fun c => [c]), ?_, rfl, SqL.of (by rw [g1, List.map_map]; rfl), ?_, ?_⟩
      · rw [show (Str.ofString "") = S [] from empty_eq]
      · rw [List.map_map]
        have : (cs.map ((fun l : List Nat => l.length) ∘ fun c => [c])).sum = cs.length := by
          clear g1 g2 g3 j4
          induction cs with
          | nil => rfl
          | cons c r ih => simp at ih ⊢; trivial
        rw [this]; trivial
      have fl : (cs.map (fun c => [c])).flatten = cs := by
        clear g1 g2 g3 j4
        induction cs with
        | nil => rfl
        | cons c r ih => rw [List.map_cons, List.flatten_cons, ih]; rfl
      rw [fl]
      have e14 : J4 D = some (.lst (ls.map strV)) := j4.old D _ nDb (j3.old D _ nDb (j2.old D _ nDb (m1.sm _ _ e1)))
      refine ⟨_, rfl, .inl ⟨rfl, _, SqL.of e14⟩, _, rfl, _, rfl, _, rfl, _, _, rfl, rfl, .inl ⟨by decide, by decide⟩, _, _, rfl, rfl, _, _, rfl, rfl, (by show (0 : Int) < 26; decide), _, _, _, rfl, rfl, hz, letter_at (by trivial) (by trivial), _, rfl, [97 + (((f + 11 * (0 + (i : Int))) % 26) % 26).toNat], cs, rfl, rfl, ?_, ?_⟩
      · simp; trivial
      refine ⟨D, _, _, rfl, rfl, e14, ?_, fun J5 c5 => ?_⟩
      · rw [List.length_map]; trivial
      have hs5 : SameE (Eb b) H J5 := ((((s'.trans m1.sm.toE).trans j2).trans j3).trans j4).ch c5 hDn
      refine ⟨_, _, _, ls ++ [[97 + (((f + 11 * (0 + (i : Int))) % 26) % 26).toNat] ++ cs], t7, rfl, ?_, ?_, ?_, ?_, C4.ch c5 (Ne.symm nDb), by trivial, by trivial, hs5⟩
      · rw [c5.at', List.map_append]; rfl
      · rw [List.length_append, e2]; rfl
      · intro j l hl
        by_cases hj : j < ls.length
        · rw [List.getElem?_append_left hj] at hl
          exact e3 j l hl
        · rw [List.getElem?_append_right (by trivial)] at hl
          have ej : j - ls.length = 0 := by
            cases hq : j - ls.length with
            | zero => rfl
            | succ n => rw [hq] at hl; simp at hl
          rw [ej] at hl
          simp at hl
          subst hl
          have : j = i := by trivial
          subst this
          simp
      · intro l hl
        rcases List.mem_append.mp hl with h | h
        · exact e4 l h
        · rw [List.mem_singleton.mp h]
          refine ⟨by simp, by simp; trivial, fun c hc => ?_⟩
          rcases List.mem_append.mp hc with h | h
          · rw [List.mem_singleton.mp h]; trivial
          · exact g3 c h
end
end K09
namespace K09
open PySem L2
section
variable {P : Program} {w : World} {K : PySem.W.Frag} {mg : Str → Option Value} {base : Heap}
theorem ok_gain_by (T : Txt K mg) : FnOk P w K mg base CX0 2 T.f_l_gain_by T.d_l_gain_by ["_law_box"] (spFrB 6 1) := by
  have G_l_take := ok_take (P := P) (w := w) (base := base) T
  have G_l_lowest := ok_lowestA (P := P) (w := w) (base := base) T
  refine T.F_l_gain_by.ok sc_l_gain_by (fun vs H Q E h => ?_) (fun cdv A outer s H vs Q E hr h => ?_)
  · obtain ⟨b, t, rfl, _⟩ := h
    rfl
  · obtain ⟨b, t, rfl, B, ht0, ht1, k⟩ := h
    refine ⟨_, (@pss_cons _ _ _ _ _ (@ps_set _ _ (1) _ _ _ _ sc_l_gain_by.nd rfl (Or.inl k_l_gain_by_l_way) (@pe_call _ _ _ _ _ _ _ _ _ _ _ _ _ _ _ _ G_l_take (hr.mono (by decide)) k_l_gain_by_l_take T.m_l_take T.F_l_take.kp T.B_l_take .nil (@pass0 _) (@pa_c _ _ _ _ _ (@pw _ 0 _ _ (Or.inl k_l_gain_by_l_box) (by rfl) (by decide) (by decide)) (@pa_c _ _ _ _ _ (@pe_int _ _ _ _) (@pa_nil _) rfl) rfl) (by decide) (by rfl) (by rfl)) (by rfl) (by first | exact .inl rfl | exact .inr rfl | assumption)) (@pss_cons _ _ _ _ _ (@ps_if _ _ _ _ _ _ _ _ (@pt_cmpR _ _ _ _ _ _ _ _ (@op_lt _) (@pw _ 1 _ _ (Or.inl k_l_gain_by_l_way) (by rfl) (by decide) (by decide)) (@pe_int _ _ _ _) (@nomark _ _ (by decide) (by decide))) (@pss_one _ _ _ (@ps_ret _ _ _ _ (@pe_tupA _ _ _ _ _ (@pa_c _ _ _ _ _ (@pe_int _ _ _ _) (@pa_c _ _ _ _ _ (@pe_int _ _ _ _) (@pa_nil _) rfl) rfl)))) (@pss_nil _)) (@pss_cons _ _ _ _ _ (@ps_set _ _ (2) _ _ _ _ sc_l_gain_by.nd rfl (Or.inl k_l_gain_by_l_wide) (@pe_ifExp _ _ _ _ _ _ _ _ (@pt_cmpR _ _ _ _ _ _ _ _ (@op_eq _) (@pw _ 1 _ _ (Or.inl k_l_gain_by_l_way) (by rfl) (by decide) (by decide)) (@pe_int _ _ _ _) (@nomark _ _ (by decide) (by decide))) (@pe_int _ _ _ _) (@pe_int _ _ _ _)) (by rfl) (by first | exact .inl rfl | exact .inr rfl | assumption)) (@pss_one _ _ _ (@ps_ret _ _ _ _ (@pe_call _ _ _ _ _ _ _ _ _ _ _ _ _ _ _ _ G_l_lowest (hr.mono (by decide)) k_l_gain_by_l_lowest T.m_l_lowest T.F_l_lowest.kp T.B_l_lowest .nil (@pass0 _) (@pa_c _ _ _ _ _ (@pe_op _ _ _ _ _ _ _ _ (@op_add _) (@pe_int _ _ _ _) (@pe_call _ _ _ _ _ _ _ _ _ _ _ _ _ _ _ _ G_l_take (hr.mono (by decide)) k_l_gain_by_l_take T.m_l_take T.F_l_take.kp T.B_l_take .nil (@pass0 _) (@pa_c _ _ _ _ _ (@pw _ 0 _ _ (Or.inl k_l_gain_by_l_box) (by rfl) (by decide) (by decide)) (@pa_c _ _ _ _ _ (@pw _ 2 _ _ (Or.inl k_l_gain_by_l_wide) (by rfl) (by decide) (by decide)) (@pa_nil _) rfl) rfl) (by decide) (by rfl) (by rfl))) (@pa_c _ _ _ _ _ (@pe_op _ _ _ _ _ _ _ _ (@op_add _) (@pe_int _ _ _ _) (@pe_call _ _ _ _ _ _ _ _ _ _ _ _ _ _ _ _ G_l_take (hr.mono (by decide)) k_l_gain_by_l_take T.m_l_take T.F_l_take.kp T.B_l_take .nil (@pass0 _) (@pa_c _ _ _ _ _ (@pw _ 0 _ _ (Or.inl k_l_gain_by_l_box) (by rfl) (by decide) (by decide)) (@pa_c _ _ _ _ _ (@pw _ 2 _ _ (Or.inl k_l_gain_by_l_wide) (by rfl) (by decide) (by decide)) (@pa_nil _) rfl) rfl) (by decide) (by rfl) (by rfl))) (@pa_nil _) rfl) rfl) (by decide) (by rfl) (by rfl))))))), ?_⟩
    refine ⟨_, rfl, b, 8, t, rfl, B, by decide, by decide, ht0, by trivial, fun wy t1 H1 w0 w1 h1a h1b s1 B1 => ?_⟩
    refine ⟨_, rfl, _, _, rfl, rfl, _, rfl, ite2 (fun c => ?_) (fun c => ?_)⟩
    · exact ⟨(by show 2 ≤ 10000; decide), fun o H2 n2 => k o _ _ t1 H2 (s1.trans n2.sm.toE) n2.at' (Fb.small (by decide) (by decide) (by decide) (by decide)) (by decide) (B1.same n2.sm) (by trivial) (by trivial)⟩
    refine ⟨_, rfl, rfl, _, rfl, ifC ?_⟩
    have hw : 0 < (if decide (V.int wy = V.int 7) = true then (60 : Int) else 12) ∧ (if decide (V.int wy = V.int 7) = true then (60 : Int) else 12) ≤ 60 := by split <;> decide
    refine ⟨_, rfl, _, rfl, b, _, t1, rfl, B1, hw.1, log9 hw.1 (by trivial), by trivial, by trivial, fun r2 t2 H2 a20 a21 _ _ s2 B2 => ⟨_, _, rfl, rfl, _, rfl, _, rfl, b, _, t2, rfl, B2, hw.1, log9 hw.1 (by trivial), by trivial, by trivial, fun r3 t3 H3 a30 a31 _ _ s3 B3 => ⟨_, _, rfl, rfl, ?_⟩⟩⟩
    have f := low_fb6 (n := 1 + r2) (d := 1 + r3) (by trivial) (by trivial) (by trivial) (by trivial)
    exact ⟨_, _, rfl, by trivial, Sz.mono (m := 40) (by show (1 + r3).natAbs < 1099511627776; trivial) (by decide), fun o H4 n4 => k o _ _ t3 H4 (((s1.trans s2).trans s3).trans n4.sm.toE) n4.at' f.1 f.2 (B3.same n4.sm) (by trivial) (by trivial)⟩
theorem ok_most_by (T : Txt K mg) : FnOk P w K mg base CX0 2 T.f_l_most_by T.d_l_most_by ["_law_box"] (spFrB 24 0) := by
  have G_l_take := ok_take (P := P) (w := w) (base := base) T
  have G_l_lowest := ok_lowestA (P := P) (w := w) (base := base) T
  refine T.F_l_most_by.ok sc_l_most_by (fun vs H Q E h => ?_) (fun cdv A outer s H vs Q E hr h => ?_)
  · obtain ⟨b, t, rfl, _⟩ := h
    rfl
  · obtain ⟨b, t, rfl, B, ht0, ht1, k⟩ := h
    refine ⟨_, (@pss_cons _ _ _ _ _ (@ps_set _ _ (1) _ _ _ _ sc_l_most_by.nd rfl (Or.inl k_l_most_by_l_way) (@pe_call _ _ _ _ _ _ _ _ _ _ _ _ _ _ _ _ G_l_take (hr.mono (by decide)) k_l_most_by_l_take T.m_l_take T.F_l_take.kp T.B_l_take .nil (@pass0 _) (@pa_c _ _ _ _ _ (@pw _ 0 _ _ (Or.inl k_l_most_by_l_box) (by rfl) (by decide) (by decide)) (@pa_c _ _ _ _ _ (@pe_int _ _ _ _) (@pa_nil _) rfl) rfl) (by decide) (by rfl) (by rfl)) (by rfl) (by first | exact .inl rfl | exact .inr rfl | assumption)) (@pss_cons _ _ _ _ _ (@ps_if _ _ _ _ _ _ _ _ (@pt_cmpR _ _ _ _ _ _ _ _ (@op_eq _) (@pw _ 1 _ _ (Or.inl k_l_most_by_l_way) (by rfl) (by decide) (by decide)) (@pe_int _ _ _ _) (@nomark _ _ (by decide) (by decide))) (@pss_one _ _ _ (@ps_ret _ _ _ _ (@pe_tupA _ _ _ _ _ (@pa_c _ _ _ _ _ (@pe_int _ _ _ _) (@pa_c _ _ _ _ _ (@pe_int _ _ _ _) (@pa_nil _) rfl) rfl)))) (@pss_nil _)) (@pss_cons _ _ _ _ _ (@ps_if _ _ _ _ _ _ _ _ (@pt_cmpR _ _ _ _ _ _ _ _ (@op_lt _) (@pw _ 1 _ _ (Or.inl k_l_most_by_l_way) (by rfl) (by decide) (by decide)) (@pe_int _ _ _ _) (@nomark _ _ (by decide) (by decide))) (@pss_one _ _ _ (@ps_ret _ _ _ _ (@pe_tupA _ _ _ _ _ (@pa_c _ _ _ _ _ (@pe_op _ _ _ _ _ _ _ _ (@op_add _) (@pe_int _ _ _ _) (@pe_call _ _ _ _ _ _ _ _ _ _ _ _ _ _ _ _ G_l_take (hr.mono (by decide)) k_l_most_by_l_take T.m_l_take T.F_l_take.kp T.B_l_take .nil (@pass0 _) (@pa_c _ _ _ _ _ (@pw _ 0 _ _ (Or.inl k_l_most_by_l_box) (by rfl) (by decide) (by decide)) (@pa_c _ _ _ _ _ (@pe_int _ _ _ _) (@pa_nil _) rfl) rfl) (by decide) (by rfl) (by rfl))) (@pa_c _ _ _ _ _ (@pe_int _ _ _ _) (@pa_nil _) rfl) rfl)))) (@pss_nil _)) (@pss_cons _ _ _ _ _ (@ps_if _ _ _ _ _ _ _ _ (@pt_cmpR _ _ _ _ _ _ _ _ (@op_lt _) (@pw _ 1 _ _ (Or.inl k_l_most_by_l_way) (by rfl) (by decide) (by decide)) (@pe_int _ _ _ _) (@nomark _ _ (by decide) (by decide))) (@pss_one _ _ _ (@ps_ret _ _ _ _ (@pe_call _ _ _ _ _ _ _ _ _ _ _ _ _ _ _ _ G_l_lowest (hr.mono (by decide)) k_l_most_by_l_lowest T.m_l_lowest T.F_l_lowest.kp T.B_l_lowest .nil (@pass0 _) (@pa_c _ _ _ _ _ (@pe_op _ _ _ _ _ _ _ _ (@op_add _) (@pe_int _ _ _ _) (@pe_call _ _ _ _ _ _ _ _ _ _ _ _ _ _ _ _ G_l_take (hr.mono (by decide)) k_l_most_by_l_take T.m_l_take T.F_l_take.kp T.B_l_take .nil (@pass0 _) (@pa_c _ _ _ _ _ (@pw _ 0 _ _ (Or.inl k_l_most_by_l_box) (by rfl) (by decide) (by decide)) (@pa_c _ _ _ _ _ (@pe_int _ _ _ _) (@pa_nil _) rfl) rfl) (by decide) (by rfl) (by rfl))) (@pa_c _ _ _ _ _ (@pe_op _ _ _ _ _ _ _ _ (@op_add _) (@pe_int _ _ _ _) (@pe_call _ _ _ _ _ _ _ _ _ _ _ _ _ _ _ _ G_l_take (hr.mono (by decide)) k_l_most_by_l_take T.m_l_take T.F_l_take.kp T.B_l_take .nil (@pass0 _) (@pa_c _ _ _ _ _ (@pw _ 0 _ _ (Or.inl k_l_most_by_l_box) (by rfl) (by decide) (by decide)) (@pa_c _ _ _ _ _ (@pe_int _ _ _ _) (@pa_nil _) rfl) rfl) (by decide) (by rfl) (by rfl))) (@pa_nil _) rfl) rfl) (by decide) (by rfl) (by rfl)))) (@pss_nil _)) (@pss_one _ _ _ (@ps_ret _ _ _ _ (@pe_tupA _ _ _ _ _ (@pa_c _ _ _ _ _ (@pe_op _ _ _ _ _ _ _ _ (@op_add _) (@pe_int _ _ _ _) (@pe_call _ _ _ _ _ _ _ _ _ _ _ _ _ _ _ _ G_l_take (hr.mono (by decide)) k_l_most_by_l_take T.m_l_take T.F_l_take.kp T.B_l_take .nil (@pass0 _) (@pa_c _ _ _ _ _ (@pw _ 0 _ _ (Or.inl k_l_most_by_l_box) (by rfl) (by decide) (by decide)) (@pa_c _ _ _ _ _ (@pe_op _ _ _ _ _ _ _ _ (@op_pow _) (@pe_int _ _ _ _) (@pe_int _ _ _ _)) (@pa_nil _) rfl) rfl) (by decide) (by rfl) (by rfl))) (@pa_c _ _ _ _ _ (@pe_int _ _ _ _) (@pa_nil _) rfl) rfl)))))))), ?_⟩
    refine ⟨_, rfl, b, 8, t, rfl, B, by decide, by decide, ht0, by trivial, fun wy t1 H1 w0 w1 h1a h1b s1 B1 => ?_⟩
    refine ⟨_, rfl, rfl, _, rfl, ite2 (fun c => ?_) (fun c => ?_)⟩
    · exact ⟨(by show 2 ≤ 10000; decide), fun o H2 n2 => k o _ _ t1 H2 (s1.trans n2.sm.toE) n2.at' (fb_one24 (by decide) (by decide)) (by decide) (B1.same n2.sm) (by trivial) (by trivial)⟩
    refine ⟨_, rfl, _, _, rfl, rfl, _, rfl, ite2 (fun c => ?_) (fun c => ?_)⟩
    · exact ⟨_, rfl, b, 9, t1, rfl, B1, by decide, by decide, by trivial, by trivial, fun r2 t2 H2 a20 a21 _ _ s2 B2 => ⟨_, _, rfl, rfl, (by show 2 ≤ 10000; decide), fun o H3 n3 => k o _ _ t2 H3 ((s1.trans s2).trans n3.sm.toE) n3.at' (fb_one24 (by trivial) (by trivial)) (by trivial) (B2.same n3.sm) (by trivial) (by trivial)⟩⟩
    refine ⟨_, rfl, _, _, rfl, rfl, _, rfl, ite2 (fun c => ?_) (fun c => ?_)⟩
    · refine ⟨_, rfl, b, 60, t1, rfl, B1, by decide, by decide, by trivial, by trivial, fun r2 t2 H2 a20 a21 _ _ s2 B2 => ⟨_, _, rfl, rfl, _, rfl, b, 12, t2, rfl, B2, by decide, by decide, by trivial, by trivial, fun r3 t3 H3 a30 a31 _ _ s3 B3 => ⟨_, _, rfl, rfl, ?_⟩⟩⟩
      have f := low_fb24 (n := 1 + r2) (d := 1 + r3) (by trivial) (by trivial) (by trivial) (by trivial)
      exact ⟨_, _, rfl, by trivial, Sz.mono (m := 40) (by show (1 + r3).natAbs < 1099511627776; trivial) (by decide), fun o H4 n4 => k o _ _ t3 H4 (((s1.trans s2).trans s3).trans n4.sm.toE) n4.at' f.1 (by have := f.2; trivial) (B3.same n4.sm) (by trivial) (by trivial)⟩
    · have q6 : (10 : Int) ^ (6 : Int).toNat = 1000000 := by decide
      refine ⟨_, rfl, _, _, rfl, rfl, ⟨by decide, by decide, by decide⟩, b, _, t1, rfl, B1, by rw [q6]; decide, by rw [q6]; decide, by trivial, by trivial, fun r2 t2 H2 a20 a21 _ _ s2 B2 => ⟨_, _, rfl, rfl, (by show 2 ≤ 10000; decide), fun o H3 n3 => k o _ _ t2 H3 ((s1.trans s2).trans n3.sm.toE) n3.at' (fb_one24 (by trivial) ?_) (by trivial) (B2.same n3.sm) (by trivial) (by trivial)⟩⟩
      rw [q6] at a21
      trivial
end
end K09
namespace K09
open PySem L2
section
variable {P : Program} {w : World} {K : PySem.W.Frag} {mg : Str → Option Value} {base : Heap}
theorem ok_box_of (T : Txt K mg) : FnOk P w K mg base CX0 1 T.f_l_box_of T.d_l_box_of ["_law_script", "_law_k"] (spBox K) := by
  refine T.F_l_box_of.ok sc_l_box_of (fun vs H Q E h => ?_) (fun cdv A outer s H vs Q E hr h => ?_)
  · obtain ⟨a, ms, k, rfl, _⟩ := h
    rfl
  · obtain ⟨a, ms, k, rfl, hS, hk0, hk1, kk⟩ := h
    refine ⟨_, (pss_cons (ps_set (i := 2) sc_l_box_of.nd rfl (Or.inl rfl) pe_int)
      (pss_cons (ps_if (pt_cmpR op_lt (pv 1) (pe_callB call_len_seq (by rfl) T.b_len boot_b_len (pa_cons (pv 0) pa_nil)) (nomark _)) (pss_one (ps_set (i := 2) sc_l_box_of.nd rfl (Or.inl rfl) (pe_ix ix_seq (pv 0) (pv 1) (fun _ _ => rfl)))) pss_nil)
      (pss_one (ps_ret (pe_lst (pa_cons (pe_op op_mul (pe_callB call_abs (by rfl) T.b_abs boot_b_abs (pa_cons (pv 2) pa_nil)) (pe_callTy call_int1 (by rfl) T.b_int boot_ty_int (pa_cons (pe_cmpR op_ge (pe_callB call_abs (by rfl) T.b_abs boot_b_abs (pa_cons (pv 2) pa_nil)) (pe_op op_pow pe_int pe_int) (nomark _)) pa_nil))) (pa_cons (pe_op op_mod (pe_op op_add (pv 2) (pe_op op_mul (pe_op op_mul pe_int (pv 1)) (pv 1))) pe_int) (pa_cons pe_int pa_nil)))))))), ?_⟩
    refine ⟨_, rfl, _, rfl, a, _, rfl, .inl hS, _, _, rfl, rfl, _, rfl, ?_⟩
    refine ite2 (fun h => ?_) (fun h => ?_)
    case' refine_1 =>
      have hlt : k.toNat < ms.length := by
        have h' := of_decide_eq_true h
        rw [List.length_map] at h'
        trivial
      refine ⟨_, rfl, _, rfl, .inl ⟨a, _, _, V.int ms[k.toNat], rfl, rfl, hS, ?_, ?_⟩⟩
      · exact atI_int hk0 hlt
    all_goals
      refine ⟨_, rfl, _, rfl, _, rfl, _, rfl, _, _, rfl, rfl, ⟨by decide, by decide, by decide⟩, _, _, rfl, rfl, .inr ⟨_, rfl, _, _, rfl, rfl, .inr ?_, _, rfl, _, rfl, _, _, rfl, rfl, .inr ⟨by trivial, by trivial⟩, _, rfl, _, _, rfl, rfl, .inr ⟨by trivial, by trivial⟩, _, _, rfl, rfl, _, _, rfl, rfl, ?_, ?_, fun p hp => kk p _ hp (Same.new hp) ⟨_, _, upd_same, ?_, ?_, ?_⟩⟩⟩
      · exact b01 _
      · show (0 : Int) < 2147483647; decide
      · show 3 ≤ sizeLine; decide
      · exact mul01 _ (abs_nn _)
      · exact Int.emod_nonneg _ (by decide)
      · exact Int.emod_lt_of_pos _ (by decide)
end
end K09
namespace K09
open PySem L2
section
variable {P : Program} {w : World} {K : PySem.W.Frag} {mg : Str → Option Value} {base : Heap}
theorem ok_folded (T : Txt K mg) : FnOk P w K mg base CX0 1 T.f_l_folded T.d_l_folded ["_law_script", "_law_many"] (spFold K) := by
  refine T.F_l_folded.ok sc_l_folded (fun vs H Q E h => ?_) (fun cdv A outer s H vs Q E hr h => ?_)
  · obtain ⟨a, ns, many, rfl, _⟩ := h
    rfl
  · obtain ⟨a, ns, many, rfl, hS, hn, hm0, hm1, kk⟩ := h
    refine ⟨_, (pss_cons (ps_set (i := 2) sc_l_folded.nd rfl (Or.inl rfl) (pe_callTy call_list_of (by rfl) T.b_list boot_ty_list (pa_cons (pe_slice sl_list (pv 0) po_none (po_some (pv 1))) pa_nil)))
      (pss_cons (ps_for PassesOwn.never rfl (pi_enum rfl T.b_enumerate (pa_cons (pe_slice sl_list (pv 0) (po_some (pv 1)) (po_some pe_int)) pa_nil)) (pg_tup rfl (pgs_cons (pg_name (i := 3) sc_l_folded.nd rfl (Or.inl rfl)) (pgs_cons (pg_name (i := 4) sc_l_folded.nd rfl (Or.inl rfl)) pgs_nil))) (pss_one (ps_asg (pe_op op_add (pe_ix ix_seq (pv 2) (pe_op op_mod (pv 3) (pv 1)) (fun _ _ => rfl)) (pe_op op_mul (pv 4) (pe_op op_add (pv 3) pe_int))) (pg_sub (pv 2) (pe_op op_mod (pv 3) (pv 1)) set_list))))
      (pss_one (ps_ret (pe_op op_cat (pv 2) (pe_op op_rep (pe_lst (pa_cons pe_int pa_nil)) (pe_op op_sub pe_int (pe_callB call_len_seq (by rfl) T.b_len boot_b_len (pa_cons (pv 2) pa_nil))))))))), ?_⟩
    have cutE : ∀ (lo hi : Option Int), ∃ cs : List Int, cutV (ns.map V.int) lo hi = cs.map V.int ∧ cs.length ≤ ns.length ∧ cs = (ns.drop (HT.sIx ns.length 0 lo)).take (HT.sIx ns.length ns.length hi - HT.sIx ns.length 0 lo) := fun lo hi => by
      refine ⟨(ns.drop (HT.sIx ns.length 0 lo)).take (HT.sIx ns.length ns.length hi - HT.sIx ns.length 0 lo), ?_, ?_, rfl⟩
      · unfold cutV
        rw [List.length_map, List.map_take, List.map_drop]
      · rw [List.length_take, List.length_drop]; trivial
    obtain ⟨c1, e1, l1, q1⟩ := cutE none (some many)
    obtain ⟨c2, e2, l2, q2⟩ := cutE (some many) (some 63)
    have em : many = ((many.toNat : Nat) : Int) := by trivial
    have l1m : c1.length = min many.toNat ns.length := by
      rw [q1, em, HT.sIx_nat, HT.sIx_none, List.length_take, List.length_drop]
      simp only [Int.toNat_natCast]
      trivial
    have l2m : c2.length ≤ ns.length - many.toNat := by
      rw [q2, em, HT.sIx_nat, List.length_take, List.length_drop]
      simp only [Int.toNat_natCast]
      trivial
    refine ⟨_, rfl, _, rfl, _, rfl, a, _, rfl, hS, fun p1 hp1 => ⟨p1, _, rfl, .inl (SqL.of upd_same), fun p2 hp2 => ?_⟩⟩
    rw [e1] at hp2 ⊢
    have n12 : p2 ≠ p1 := fun z => by rw [z, upd_same] at hp2; cases hp2
    have s2 : Same H (upd (upd H p1 (.lst (c1.map V.int))) p2 (.lst (c1.map V.int))) := (Same.new hp1).trans (Same.new hp2)
    refine ⟨_, rfl, _, rfl, _, rfl, _, rfl, a, _, rfl, s2.seq hS, fun p3 hp3 => ⟨p3, rfl, ⟨_, SqL.of upd_same⟩, ?_⟩⟩
    rw [e2]
    have s3 := s2.trans (Same.new (o := .lst (c2.map V.int)) hp3)
    have n23 : p2 ≠ p3 := fun z => by rw [← z, upd_same] at hp3; cases hp3
    refine ⟨fun i m σ H' => m = c2.length - i ∧ i ≤ c2.length ∧ Ex3 fun (ms : List Int) (v3 v4 : Option V) => σ = [some (.ref a), some (.int many), some (.ref p2), v3, v4] ∧ ms.length = c1.length ∧ H' p2 = some (.lst (ms.map V.int)) ∧ H' p3 = some (.lst (c2.map V.int)) ∧ (∀ b o, b ≠ p2 → H b = some o → H' b = some o) , ⟨_, rfl, Nat.zero_le _, c1, none, none, rfl, rfl, ?_, upd_same, fun b o _ h => s3 b o h⟩, ?_⟩
    · rw [upd_ne n23]; exact upd_same
    rintro i m σ H' ⟨rfl, hi, ms, v3, v4, rfl, hms, h2, h3, hk⟩
    by_cases hlt : i < c2.length
    · refine .inr ⟨⟨c2.map V.int, V.int c2[i], SqL.of h3, by rw [List.getElem?_map]; simp [hlt]⟩, _, fun σ' H'' z => z, ?_⟩
      rintro x H'' ⟨t, y, ht, rfl, rfl, hy⟩
      have hy' := hy _ (SqL.of h3)
      rw [List.getElem?_map, List.getElem?_eq_getElem hlt] at hy'
      obtain rfl : V.int c2[i] = y := Option.some.inj hy'
      have nt2 : p2 ≠ t := ne_of_none h2 ht
      have nt3 : p3 ≠ t := ne_of_none h3 ht
      have hlen : many.toNat < ns.length := by trivial
      have hmod0 : 0 ≤ (i : Int) % many := Int.emod_nonneg _ (by trivial)
      have hmod1 : (i : Int) % many < many := Int.emod_lt_of_pos _ (by trivial)
      have hixlt : ((i : Int) % many).toNat < ms.length := by trivial
      refine ⟨t, _, rfl, SqT.of upd_same, rfl, _, _, rfl, _, _, rfl, rfl, _, rfl, _, rfl, _, rfl, _, _, rfl, rfl, (by show (0 : Int) < many; trivial), .inl ⟨p2, ms.map V.int, _, V.int ms[((i : Int) % many).toNat], rfl, rfl, SqL.of (by rw [upd_ne nt2]; exact h2), atI_int hmod0 hixlt, _, rfl, _, rfl, _, _, rfl, rfl, _, _, rfl, rfl, .inr ⟨?_, ?_⟩, _, _, rfl, rfl, _, rfl, _, rfl, _, rfl, _, _, rfl, rfl, (by show (0 : Int) < many; trivial), p2, ms.map V.int, _, ((i : Int) % many).toNat, rfl, rfl, (by rw [upd_ne nt2]; exact h2), ?_, ?_⟩⟩
      · trivial
      · trivial
      · unfold ixN
        rw [if_pos hmod0, List.length_map, if_pos (by trivial)]
      · refine ⟨c2.length - (i + 1), by trivial, rfl, hlt, ms.set ((i : Int) % many).toNat (ms[((i : Int) % many).toNat] + c2[i] * ((i : Int) + 2)), _, _, rfl, by rw [List.length_set]; exact hms, ?_, ?_, fun b o hb h => ?_⟩
        · rw [upd_same, List.map_set]
        · rw [upd_ne (Ne.symm n23), upd_ne nt3]; exact h3
        · have := hk b o hb h
          rw [upd_ne hb, upd_ne (ne_of_none this ht)]
          exact this
    · refine .inl ⟨⟨_, SqL.of h3, by rw [List.length_map]; trivial⟩, ?_⟩
      refine ⟨_, rfl, (by show 1 ≤ sizeLine; decide), fun p4 hp4 => ⟨_, rfl, p2, _, rfl, .inl (SqL.of (by rw [upd_ne (ne_of_none h2 hp4)]; exact h2)), _, _, rfl, rfl, p4, _, _, rfl, rfl, upd_same, ?_, ?_, ?_, fun p5 hp5 => ⟨p2, p5, ms.map V.int, _, rfl, rfl, ?_, upd_same, ?_, fun p6 hp6 => ?_⟩⟩⟩
      · rw [List.length_map]; trivial
      · rw [List.length_map]; trivial
      · rw [List.length_map]
        show 1 * _ ≤ sizeLine
        rw [sizeLine_eq]; trivial
      · have q := h2
        rw [← upd_ne (H := H') (o := .lst [.int 0]) (ne_of_none h2 hp4)] at q
        rw [upd_ne (ne_of_none q hp5)]; exact q
      · rw [len_rep, List.length_map, sizeLine_eq]
        simp only [List.length_cons, List.length_nil]
        trivial
      · have hp2' : H p2 = none := by
          rw [upd_ne n12] at hp2
          exact hp2
        have sH : Same H H' := fun b o h => hk b o (ne_of_none h hp2') h
        have s45 : ∀ o5, Same H (upd (upd H' p4 (.lst [.int 0])) p5 o5) := fun o5 => (sH.trans (Same.new (o := .lst [.int 0]) hp4)).trans (Same.new hp5)
        have er : (List.replicate ((2 : Int) - ((ms.map V.int).length : Nat)).toNat [V.int 0]).flatten = (List.replicate (2 - ms.length) (0 : Int)).map V.int := by
          have ek : ((2 : Int) - ((ms.map V.int).length : Nat)).toNat = 2 - ms.length := by rw [List.length_map]; trivial
          rw [ek]
          generalize 2 - ms.length = q
          induction q with
          | zero => rfl
          | succ q ih => rw [List.replicate_succ, List.flatten_cons, ih, List.replicate_succ, List.map_cons]; rfl
        refine kk p6 (ms ++ List.replicate (2 - ms.length) 0) _ ((s45 _).free hp6) ((s45 _).trans (Same.new hp6)) ?_ ?_ ?_
        · rw [upd_same, er, List.map_append]
        · rw [List.length_append, List.length_replicate]; trivial
        · rw [List.length_append, List.length_replicate]; trivial
end
end K09
namespace K09
open PySem L2
section
variable {P : Program} {w : World} {K : PySem.W.Frag} {mg : Str → Option Value} {base : Heap}
theorem ok_like (T : Txt K mg) : ∀ n, FnOk P w K mg base CX0 (n + 1) T.f_l_like T.d_l_like ["_law_found", "_law_due"] (spLike n) := by
  intro n
  induction n with
  | zero =>
    refine T.F_l_like.ok sc_l_like (fun vs H Q E h => ?_) (fun cdv A outer s H vs Q E hr h => ?_)
    · obtain ⟨_, _, _, _, _, _, _, z, _⟩ := h
      exact z.elim
    · obtain ⟨_, _, _, _, _, _, _, z, _⟩ := h
      exact z.elim
  | succ n G_l_like =>
  refine T.F_l_like.ok sc_l_like (fun vs H Q E h => ?_) (fun cdv A outer s H vs Q E hr h => ?_)
  · obtain ⟨x, y, d, E, rfl, _⟩ := h
    rfl
  · obtain ⟨x, y, d, E', rfl, hx, hy, hd, k⟩ := h
    refine ⟨_, (@pss_cons _ _ _ _ _ (@ps_if _ _ _ _ _ _ _ _ (@pt_val _ _ _ (@pe_callB _ _ _ _ _ _ _ _ _ (@isinstT_k _ (K) (by rfl)) k_l_like_isinstance T.b_isinstance (@boot_b_isinstance) (@pa_c _ _ _ _ _ (@pw _ 1 _ _ (Or.inl k_l_like_l_due) (by rfl) (by decide) (by decide)) (@pa_c _ _ _ _ _ (@pe_tupA _ _ _ _ _ (@pa_c _ _ _ _ _ (@pe_ty _ _ _ _ k_l_like_list T.b_list (@boot_ty_list) (by decide) (by decide)) (@pa_c _ _ _ _ _ (@pe_ty _ _ _ _ k_l_like_tuple T.b_tuple (@boot_ty_tuple) (by decide) (by decide)) (@pa_nil _) rfl) rfl)) (@pa_nil _) rfl) rfl) (by decide) (by decide) (by rfl) (by rfl)) (by intro _; rfl)) (@pss_cons _ _ _ _ _ (@ps_if _ _ _ _ _ _ _ _ (@PW.pt _ _ _ (@pw_or _ _ _ _ _ _ _ (@pt_cmpR _ _ _ _ _ _ _ _ (@op_ne _) (@pe_callB _ _ _ _ _ _ _ _ _ (@isinst_k _ (K) (by rfl)) k_l_like_isinstance T.b_isinstance (@boot_b_isinstance) (@pa_c _ _ _ _ _ (@pw _ 0 _ _ (Or.inl k_l_like_l_found) (by rfl) (by decide) (by decide)) (@pa_c _ _ _ _ _ (@pe_ty _ _ _ _ k_l_like_list T.b_list (@boot_ty_list) (by decide) (by decide)) (@pa_nil _) rfl) rfl) (by decide) (by decide) (by rfl) (by rfl)) (@pe_callB _ _ _ _ _ _ _ _ _ (@isinst_k _ (K) (by rfl)) k_l_like_isinstance T.b_isinstance (@boot_b_isinstance) (@pa_c _ _ _ _ _ (@pw _ 1 _ _ (Or.inl k_l_like_l_due) (by rfl) (by decide) (by decide)) (@pa_c _ _ _ _ _ (@pe_ty _ _ _ _ k_l_like_list T.b_list (@boot_ty_list) (by decide) (by decide)) (@pa_nil _) rfl) rfl) (by decide) (by decide) (by rfl) (by rfl)) (@nomark _ _ (by decide) (by decide))) (@pw_or1 _ _ _ _ (@pt_cmpR _ _ _ _ _ _ _ _ (@op_ne _) (@pe_callB _ _ _ _ _ _ _ _ _ (@isinst_k _ (K) (by rfl)) k_l_like_isinstance T.b_isinstance (@boot_b_isinstance) (@pa_c _ _ _ _ _ (@pw _ 0 _ _ (Or.inl k_l_like_l_found) (by rfl) (by decide) (by decide)) (@pa_c _ _ _ _ _ (@pe_ty _ _ _ _ k_l_like_tuple T.b_tuple (@boot_ty_tuple) (by decide) (by decide)) (@pa_nil _) rfl) rfl) (by decide) (by decide) (by rfl) (by rfl)) (@pe_callB _ _ _ _ _ _ _ _ _ (@isinst_k _ (K) (by rfl)) k_l_like_isinstance T.b_isinstance (@boot_b_isinstance) (@pa_c _ _ _ _ _ (@pw _ 1 _ _ (Or.inl k_l_like_l_due) (by rfl) (by decide) (by decide)) (@pa_c _ _ _ _ _ (@pe_ty _ _ _ _ k_l_like_tuple T.b_tuple (@boot_ty_tuple) (by decide) (by decide)) (@pa_nil _) rfl) rfl) (by decide) (by decide) (by rfl) (by rfl)) (@nomark _ _ (by decide) (by decide)))))) (@pss_one _ _ _ (@ps_ret _ _ _ _ (@pe_bl _ _ _ _))) (@pss_nil _)) (@pss_one _ _ _ (@ps_ret _ _ _ _ (@pe_and _ _ _ _ _ _ _ (@pe_cmpR _ _ _ _ _ _ _ _ (@op_eq _) (@pe_callB _ _ _ _ _ _ _ _ _ (@len_k _ (K) (by rfl)) k_l_like_len T.b_len (@boot_b_len) (@pa_c _ _ _ _ _ (@pw _ 0 _ _ (Or.inl k_l_like_l_found) (by rfl) (by decide) (by decide)) (@pa_nil _) rfl) (by decide) (by decide) (by rfl) (by rfl)) (@pe_callB _ _ _ _ _ _ _ _ _ (@len_k _ (K) (by rfl)) k_l_like_len T.b_len (@boot_b_len) (@pa_c _ _ _ _ _ (@pw _ 1 _ _ (Or.inl k_l_like_l_due) (by rfl) (by decide) (by decide)) (@pa_nil _) rfl) (by decide) (by decide) (by rfl) (by rfl)) (@nomark _ _ (by decide) (by decide))) (@pe_one _ _ _ _ _ (@pe_callB _ _ _ _ _ _ _ _ _ (@all_k _ (K) rfl (by rfl)) k_l_like_all T.b_all (@boot_b_all) (@pa_c _ _ _ _ _ (@pe_comp _ _ _ _ _ _ _ (["_law_one", "_law_other"]) (2) ([]) _ _ _ _ rfl (by kernel_rfl) (@pi_zip_k _ (K) _ _ _ _ _ _ _ _ k_l_like_zip T.b_zip (@pa_c _ _ _ _ _ (@pw _ 0 _ _ (Or.inl k_l_like_l_found) (by rfl) (by decide) (by decide)) (@pa_c _ _ _ _ _ (@pw _ 1 _ _ (Or.inl k_l_like_l_due) (by rfl) (by decide) (by decide)) (@pa_nil _) rfl) rfl) (by rfl) (by rfl) (by rfl)) (fun _ _ _ _ _ _ => (@pg_tup_k _ (K) _ _ _ _ (2) rfl (@pgs_cons _ _ _ _ _ (@pg_name _ _ (0) _ (@nodupS _ (by kernel_rfl)) rfl (Or.inl (by kernel_rfl)) (by first | exact .inl rfl | exact .inr rfl | assumption)) (@pgs_cons _ _ _ _ _ (@pg_name _ _ (1) _ (@nodupS _ (by kernel_rfl)) rfl (Or.inl (by kernel_rfl)) (by first | exact .inl rfl | exact .inr rfl | assumption)) (@pgs_nil _) (by rfl)) (by rfl)) (by rfl) (by rfl) (by rfl))) (fun _ _ _ _ _ _ => @pifs_nil _) (fun _ _ _ _ _ _ => (@pe_call _ _ _ _ _ _ _ _ _ _ _ _ _ _ _ _ G_l_like (hr.mono (by trivial)) (by show _ = _; kernel_rfl) T.m_l_like T.F_l_like.kp T.B_l_like .nil (@pass0 _) (@pa_c _ _ _ _ _ (@pw _ 0 _ _ (Or.inl (by kernel_rfl)) (by rfl) (by decide) (by decide)) (@pa_c _ _ _ _ _ (@pw _ 1 _ _ (Or.inl (by kernel_rfl)) (by rfl) (by decide) (by decide)) (@pa_nil _) rfl) rfl) (by decide) (by rfl) (by rfl))) (by intro _; rfl)) (@pa_nil _) rfl) (by decide) (by decide) (by rfl) (by rfl))))))) (@pss_nil _)) (@pss_cons _ _ _ _ _ (@ps_if _ _ _ _ _ _ _ _ (@PW.pt _ _ _ (@pw_or _ _ _ _ _ _ _ (@pt_cmpR _ _ _ _ _ _ _ _ (@op_isN _) (@pw _ 1 _ _ (Or.inl k_l_like_l_due) (by rfl) (by decide) (by decide)) (@pe_non _ _ _) (@nomark _ _ (by decide) (by decide))) (@pw_or1 _ _ _ _ (@pt_val _ _ _ (@pe_callB _ _ _ _ _ _ _ _ _ (@isinst_k _ (K) (by rfl)) k_l_like_isinstance T.b_isinstance (@boot_b_isinstance) (@pa_c _ _ _ _ _ (@pw _ 1 _ _ (Or.inl k_l_like_l_due) (by rfl) (by decide) (by decide)) (@pa_c _ _ _ _ _ (@pe_ty _ _ _ _ k_l_like_str T.b_str (@boot_ty_str) (by decide) (by decide)) (@pa_nil _) rfl) rfl) (by decide) (by decide) (by rfl) (by rfl)) (by intro _; rfl))))) (@pss_one _ _ _ (@ps_ret _ _ _ _ (@pe_and _ _ _ _ _ _ _ (@pe_cmpR _ _ _ _ _ _ _ _ (@op_eq _) (@pw _ 0 _ _ (Or.inl k_l_like_l_found) (by rfl) (by decide) (by decide)) (@pw _ 1 _ _ (Or.inl k_l_like_l_due) (by rfl) (by decide) (by decide)) (@nomark _ _ (by decide) (by decide))) (@pe_one _ _ _ _ _ (@pe_cmpR _ _ _ _ _ _ _ _ (@op_eq _) (@pe_callB _ _ _ _ _ _ _ _ _ (@isinst_k _ (K) (by rfl)) k_l_like_isinstance T.b_isinstance (@boot_b_isinstance) (@pa_c _ _ _ _ _ (@pw _ 0 _ _ (Or.inl k_l_like_l_found) (by rfl) (by decide) (by decide)) (@pa_c _ _ _ _ _ (@pe_ty _ _ _ _ k_l_like_str T.b_str (@boot_ty_str) (by decide) (by decide)) (@pa_nil _) rfl) rfl) (by decide) (by decide) (by rfl) (by rfl)) (@pe_callB _ _ _ _ _ _ _ _ _ (@isinst_k _ (K) (by rfl)) k_l_like_isinstance T.b_isinstance (@boot_b_isinstance) (@pa_c _ _ _ _ _ (@pw _ 1 _ _ (Or.inl k_l_like_l_due) (by rfl) (by decide) (by decide)) (@pa_c _ _ _ _ _ (@pe_ty _ _ _ _ k_l_like_str T.b_str (@boot_ty_str) (by decide) (by decide)) (@pa_nil _) rfl) rfl) (by decide) (by decide) (by rfl) (by rfl)) (@nomark _ _ (by decide) (by decide))))))) (@pss_nil _)) (@pss_cons _ _ _ _ _ (@ps_if _ _ _ _ _ _ _ _ (@pt_val _ _ _ (@pe_callB _ _ _ _ _ _ _ _ _ (@isinst_k _ (K) (by rfl)) k_l_like_isinstance T.b_isinstance (@boot_b_isinstance) (@pa_c _ _ _ _ _ (@pw _ 1 _ _ (Or.inl k_l_like_l_due) (by rfl) (by decide) (by decide)) (@pa_c _ _ _ _ _ (@pe_ty _ _ _ _ k_l_like_bool T.b_bool (@boot_ty_bool) (by decide) (by decide)) (@pa_nil _) rfl) rfl) (by decide) (by decide) (by rfl) (by rfl)) (by intro _; rfl)) (@pss_one _ _ _ (@ps_ret _ _ _ _ (@pe_and _ _ _ _ _ _ _ (@pe_callB _ _ _ _ _ _ _ _ _ (@isinst_k _ (K) (by rfl)) k_l_like_isinstance T.b_isinstance (@boot_b_isinstance) (@pa_c _ _ _ _ _ (@pw _ 0 _ _ (Or.inl k_l_like_l_found) (by rfl) (by decide) (by decide)) (@pa_c _ _ _ _ _ (@pe_ty _ _ _ _ k_l_like_bool T.b_bool (@boot_ty_bool) (by decide) (by decide)) (@pa_nil _) rfl) rfl) (by decide) (by decide) (by rfl) (by rfl)) (@pe_one _ _ _ _ _ (@pe_cmpR _ _ _ _ _ _ _ _ (@op_eq _) (@pw _ 0 _ _ (Or.inl k_l_like_l_found) (by rfl) (by decide) (by decide)) (@pw _ 1 _ _ (Or.inl k_l_like_l_due) (by rfl) (by decide) (by decide)) (@nomark _ _ (by decide) (by decide))))))) (@pss_nil _)) (@pss_one _ _ _ (@ps_ret _ _ _ _ (@pe_and _ _ _ _ _ _ _ (@pe_callB _ _ _ _ _ _ _ _ _ (@isinst_k _ (K) (by rfl)) k_l_like_isinstance T.b_isinstance (@boot_b_isinstance) (@pa_c _ _ _ _ _ (@pw _ 0 _ _ (Or.inl k_l_like_l_found) (by rfl) (by decide) (by decide)) (@pa_c _ _ _ _ _ (@pe_ty _ _ _ _ k_l_like_int T.b_int (@boot_ty_int) (by decide) (by decide)) (@pa_nil _) rfl) rfl) (by decide) (by decide) (by rfl) (by rfl)) (@pe_and _ _ _ _ _ _ _ (@pe_not _ _ _ _ (@pe_callB _ _ _ _ _ _ _ _ _ (@isinst_k _ (K) (by rfl)) k_l_like_isinstance T.b_isinstance (@boot_b_isinstance) (@pa_c _ _ _ _ _ (@pw _ 0 _ _ (Or.inl k_l_like_l_found) (by rfl) (by decide) (by decide)) (@pa_c _ _ _ _ _ (@pe_ty _ _ _ _ k_l_like_bool T.b_bool (@boot_ty_bool) (by decide) (by decide)) (@pa_nil _) rfl) rfl) (by decide) (by decide) (by rfl) (by rfl))) (@pe_one _ _ _ _ _ (@pe_cmpR _ _ _ _ _ _ _ _ (@op_eq _) (@pw _ 0 _ _ (Or.inl k_l_like_l_found) (by rfl) (by decide) (by decide)) (@pw _ 1 _ _ (Or.inl k_l_like_l_due) (by rfl) (by decide) (by decide)) (@nomark _ _ (by decide) (by decide))))))))))), ?_⟩
    refine ⟨_, rfl, (by show 2 ≤ 10000; decide), fun p H1 n1 => ⟨y, p, d, E', rfl, hy.mono n1.sm.toE, SqT.of n1.at', _, rfl, ?_⟩⟩
    have s1 := n1.sm
    have hx1 := hx.mono s1.toE
    have hy1 := hy.mono s1.toE
    have k1 := k H1 s1
    have hx2 := hx1
    have hy2 := hy1
    cases hx1 with
    | non =>
      cases hy1
      refine iteF ⟨_, rfl, rfl, _, rfl, iteT (iteT ?_)⟩
      exact ⟨_, rfl, _, rfl, rfl, _, rfl, iteEq ⟨_, rfl, _, _, _, _, rfl, hx2.ty, kit_str _, _, rfl, _, _, _, _, rfl, hy2.ty, kit_str _, rfl, ok_same k1⟩⟩
    | str z =>
      cases hy1
      refine iteF ⟨_, rfl, rfl, _, rfl, iteF ⟨_, rfl, _, _, _, _, rfl, hy2.ty, kit_str _, _, rfl, iteT ?_⟩⟩
      exact ⟨_, rfl, _, rfl, rfl, _, rfl, iteEq ⟨_, rfl, _, _, _, _, rfl, hx2.ty, kit_str _, _, rfl, _, _, _, _, rfl, hy2.ty, kit_str _, rfl, ok_same k1⟩⟩
    | bl b =>
      cases hy1
      refine iteF ⟨_, rfl, rfl, _, rfl, iteF ⟨_, rfl, _, _, _, _, rfl, hy2.ty, kit_str _, _, rfl, iteF ⟨_, rfl, _, _, _, _, rfl, hy2.ty, kit_bool _, _, rfl, iteT ?_⟩⟩⟩
      exact ⟨_, rfl, _, _, _, _, rfl, hx2.ty, kit_bool _, _, rfl, iteT ⟨_, rfl, _, rfl, rfl, ok_same k1⟩⟩
    | int i =>
      cases hy1
      refine iteF ⟨_, rfl, rfl, _, rfl, iteF ⟨_, rfl, _, _, _, _, rfl, hy2.ty, kit_str _, _, rfl, iteF ⟨_, rfl, _, _, _, _, rfl, hy2.ty, kit_bool _, _, rfl, iteF ?_⟩⟩⟩
      exact ⟨_, rfl, _, _, _, _, rfl, hx2.ty, kit_int _, _, rfl, iteT ⟨_, rfl, _, _, _, _, rfl, hx2.ty, kit_bool _, _, rfl, _, rfl, iteT ⟨_, rfl, _, rfl, rfl, ok_same k1⟩⟩⟩
    | @lst a1 xs ds h1 ne1 r1 =>
      cases hy1 with
      | @lst a2 ys _ h2 ne2 r2 =>
      refine iteT ⟨_, rfl, _, _, _, _, rfl, hx2.ty, kit_list _, _, rfl, _, _, _, _, rfl, hy2.ty, kit_list _, rfl, _, rfl, iteSame ⟨_, rfl, _, _, _, _, rfl, hx2.ty, kit_tuple _, _, rfl, _, _, _, _, rfl, hy2.ty, kit_tuple _, rfl, _, rfl, iteSame ?_⟩⟩
      have el : xs.length = ys.length := r1.length.trans r2.length.symm
      have ed := r2.length
      refine ⟨_, rfl, a1, xs, rfl, .inl (SqL.of h1), _, rfl, a2, ys, rfl, .inl (SqL.of h2), rfl, _, rfl, ?_⟩
      rw [el]
      refine iteEq ⟨_, rfl, _, rfl, a1, a2, true, true, rfl, ⟨xs, SqL.of h1⟩, ⟨ys, SqL.of h2⟩, fun D hD => comp_each (n := ys.length) (LikeP H1 D) ?_ ⟨rfl, upd_same, same_lst hD (Same.refl _)⟩ ?_ ?_ ?_ ?_ ?_⟩
      · rw [sizeLine_eq]
        have := hd.1
        trivial
      · rintro i H' zs ⟨rfl, q1, _⟩
        exact ⟨q1, by rw [List.length_map, List.length_replicate]; exact Nat.le_refl _⟩
      · rintro i H' zs hi ⟨_, _, q⟩
        exact ⟨xs, ys, xs[i], ys[i], SqL.of (q _ _ h1), SqL.of (q _ _ h2), by simp [el, hi], by simp [hi]⟩
      · rintro H' zs ⟨_, _, q⟩
        exact ⟨xs, ys, SqL.of (q _ _ h1), SqL.of (q _ _ h2), .inl el⟩
      · rintro i H' zs x H'' hi ⟨rfl, q1, q⟩ ⟨t, u, v, ht, rfl, rfl, e1, e2⟩
        have e1' := e1 xs (SqL.of (q _ _ h1))
        have e2' := e2 ys (SqL.of (q _ _ h2))
        obtain ⟨du, f1, g1⟩ := r1.get e1'
        obtain ⟨dv, f2, g2⟩ := r2.get e2'
        rw [f1] at f2
        cases f2
        have st := q.trans (Same.new (o := .tup [u, v]) ht)
        refine ⟨t, _, rfl, SqT.of upd_same, rfl, _, _, rfl, _, _, rfl, rfl, back2, _, rfl, _, rfl, u, v, du, E', rfl, g1.mono st.toE, g2.mono st.toE, hd.2 du (List.mem_of_getElem? f1), fun H3 s3 => ?_⟩
        have qD : H3 D = some (.lst ((List.replicate i true).map V.bl)) := s3 _ _ (Same.new (o := .tup [u, v]) ht _ _ q1)
        exact ⟨qD, rep_snoc i, upd_same, same_lst hD (st.trans s3)⟩
      · rintro H' zs ⟨rfl, q1, q⟩
        refine ⟨D, List.replicate ys.length true, rfl, SqL.of q1, ?_⟩
        rw [all_rep]
        exact k H' (s1.trans q)
    | @tup a1 xs ds h1 r1 =>
      cases hy1 with
      | @tup a2 ys _ h2 r2 =>
      refine iteT ⟨_, rfl, _, _, _, _, rfl, hx2.ty, kit_list _, _, rfl, _, _, _, _, rfl, hy2.ty, kit_list _, rfl, _, rfl, iteSame ⟨_, rfl, _, _, _, _, rfl, hx2.ty, kit_tuple _, _, rfl, _, _, _, _, rfl, hy2.ty, kit_tuple _, rfl, _, rfl, iteSame ?_⟩⟩
      have el : xs.length = ys.length := r1.length.trans r2.length.symm
      have ed := r2.length
      refine ⟨_, rfl, a1, xs, rfl, .inr (SqT.of h1), _, rfl, a2, ys, rfl, .inr (SqT.of h2), rfl, _, rfl, ?_⟩
      rw [el]
      refine iteEq ⟨_, rfl, _, rfl, a1, a2, false, false, rfl, ⟨xs, SqT.of h1⟩, ⟨ys, SqT.of h2⟩, fun D hD => comp_each (n := ys.length) (LikeP H1 D) ?_ ⟨rfl, upd_same, same_lst hD (Same.refl _)⟩ ?_ ?_ ?_ ?_ ?_⟩
      · rw [sizeLine_eq]
        have := hd.1
        trivial
      · rintro i H' zs ⟨rfl, q1, _⟩
        exact ⟨q1, by rw [List.length_map, List.length_replicate]; exact Nat.le_refl _⟩
      · rintro i H' zs hi ⟨_, _, q⟩
        exact ⟨xs, ys, xs[i], ys[i], SqT.of (q _ _ h1), SqT.of (q _ _ h2), by simp [el, hi], by simp [hi]⟩
      · rintro H' zs ⟨_, _, q⟩
        exact ⟨xs, ys, SqT.of (q _ _ h1), SqT.of (q _ _ h2), .inl el⟩
      · rintro i H' zs x H'' hi ⟨rfl, q1, q⟩ ⟨t, u, v, ht, rfl, rfl, e1, e2⟩
        have e1' := e1 xs (SqT.of (q _ _ h1))
        have e2' := e2 ys (SqT.of (q _ _ h2))
        obtain ⟨du, f1, g1⟩ := r1.get e1'
        obtain ⟨dv, f2, g2⟩ := r2.get e2'
        rw [f1] at f2
        cases f2
        have st := q.trans (Same.new (o := .tup [u, v]) ht)
        refine ⟨t, _, rfl, SqT.of upd_same, rfl, _, _, rfl, _, _, rfl, rfl, back2, _, rfl, _, rfl, u, v, du, E', rfl, g1.mono st.toE, g2.mono st.toE, hd.2 du (List.mem_of_getElem? f1), fun H3 s3 => ?_⟩
        have qD : H3 D = some (.lst ((List.replicate i true).map V.bl)) := s3 _ _ (Same.new (o := .tup [u, v]) ht _ _ q1)
        exact ⟨qD, rep_snoc i, upd_same, same_lst hD (st.trans s3)⟩
      · rintro H' zs ⟨rfl, q1, q⟩
        refine ⟨D, List.replicate ys.length true, rfl, SqL.of q1, ?_⟩
        rw [all_rep]
        exact k H' (s1.trans q)
end
end K09
namespace K09
open PySem L2
def okN (n : Nat) : PyData → Bool
  | .int i => decide (0 ≤ i) && decide (i < (n : Int))
  | _ => false
def numOf : PyData → Nat
  | .int i => i.toNat
  | _ => 0
abbrev nums (ds : List PyData) : List Nat := ds.map numOf
abbrev intD (i : Nat) : PyData := .int (i : Int)
theorem okN_inv {n : Nat} {d : PyData} (h : okN n d = true) : d = intD (numOf d) ∧ numOf d < n := by
  cases d with
  | int i =>
    have h' : (decide (0 ≤ i) && decide (i < (n : Int))) = true := h
    rw [Bool.and_eq_true, decide_eq_true_iff, decide_eq_true_iff] at h'
    refine ⟨?_, ?_⟩
    · show PyData.int i = PyData.int ((i.toNat : Nat) : Int)
      rw [Int.toNat_of_nonneg h'.1]
    · show i.toNat < n
      trivial
  | _ => cases h
theorem okN_all {n : Nat} : ∀ {ds : List PyData}, ds.all (okN n) = true → ds = (nums ds).map intD ∧ ∀ i ∈ nums ds, i < n
  | [], _ => ⟨rfl, fun i h => by cases h⟩
  | d :: r, h => by
    rw [List.all_cons, Bool.and_eq_true] at h
    obtain ⟨a, b⟩ := okN_inv h.1
    obtain ⟨c, e⟩ := okN_all (ds := r) h.2
    refine ⟨?_, fun i hi => ?_⟩
    · show d :: r = intD (numOf d) :: (nums r).map intD
      rw [← a, ← c]
    · rcases List.mem_cons.mp hi with z | z
      · rw [z]; exact b
      · exact e i z
theorem isAll_ints {E : Addr → Prop} {H : Hp} : ∀ {ns : List Nat} {xs : List V}, IsAll E H xs (ns.map intD) → xs = nts ns
  | [], _, .nil => rfl
  | n :: r, _, .cons h t => by
    cases h
    rw [isAll_ints t]; rfl
def tiesB (n : Nat) : PyData → Bool
  | .list ds => ds.all (okN n) && decide (nums ds).Nodup
  | _ => false
def linkB (ts : List TieD) (i j : Nat) : Bool := decide (ts[i]?.map TieD.en = ts[j]?.map TieD.bg)
def chainB (ts : List TieD) (ns : List Nat) : Bool := ((List.range (min ns.length (ns.drop 1).length)).map fun i => linkB ts ((ns[i]?).getD 0) (((ns.drop 1)[i]?).getD 0)).all id
def wayB (ts : List TieD) (d : PyData) : Bool := match d with
  | .list ds => tiesB ts.length (.list ds) && chainB ts (nums ds)
  | _ => false
def begN (ts : List TieD) (i : Nat) : List Nat := ((ts[i]?).map TieD.bg).getD []
def endN (ts : List TieD) (i : Nat) : List Nat := ((ts[i]?).map TieD.en).getD []
def ringB (ts : List TieD) (ns : List Nat) : Bool := decide (endN ts ((ns[ns.length - 1]?).getD 0) = begN ts ((ns[0]?).getD 0)) && decide ((ns.map (begN ts)).Nodup)
def roundB (ts : List TieD) (d : PyData) : Bool := match d with
  | .list ds => wayB ts (.list ds) && !decide (ds.length < 2) && ringB ts (nums ds)
  | _ => false
theorem keys_int (ns : List Nat) : nts ns = (ns.map fun i : Nat => (Sum.inl (i : Int) : Key)).map keyV := by
  rw [List.map_map]; rfl
theorem nodup_map_iff {α β : Type} {f : α → β} (hf : ∀ a b, f a = f b → a = b) : ∀ {l : List α}, (l.map f).Nodup ↔ l.Nodup
  | [] => by simp
  | a :: r => by
    rw [List.map_cons, List.nodup_cons, List.nodup_cons, nodup_map_iff hf]
    constructor
    · rintro ⟨h1, h2⟩; exact ⟨fun z => h1 (List.mem_map.mpr ⟨a, z, rfl⟩), h2⟩
    · rintro ⟨h1, h2⟩
      refine ⟨fun z => ?_, h2⟩
      obtain ⟨b, hb, e⟩ := List.mem_map.mp z
      exact h1 (hf b a e ▸ hb)
theorem keys_nodup (ns : List Nat) : (ns.map fun i : Nat => (Sum.inl (i : Int) : Key)).Nodup ↔ ns.Nodup := nodup_map_iff fun a b h => by
  injection h with h; trivial
theorem strs_key (ls : List (List Nat)) : ls.map strV = (ls.map fun l => (Sum.inr (S l) : Key)).map keyV := by
  rw [List.map_map]; rfl
theorem strs_nodup (ls : List (List Nat)) : (ls.map fun l => (Sum.inr (S l) : Key)).Nodup ↔ ls.Nodup := nodup_map_iff fun a b h => by
  injection h with h; exact S_inj h
theorem dec_once (ks : List Key) : decide (V.int ((once ks).length : Nat) = V.int (ks.length : Nat)) = decide ks.Nodup := by
  by_cases h : ks.Nodup
  · rw [(once_nodup ks).mpr h, decide_eq_true rfl, decide_eq_true h]
  · rw [decide_eq_false h, decide_eq_false]
    intro z
    injection z with z
    exact h ((once_nodup ks).mp (by trivial))
theorem dec_congr {p q : Prop} [Decidable p] [Decidable q] (h : p ↔ q) : decide p = decide q := by
  by_cases hp : p
  · rw [decide_eq_true hp, decide_eq_true (h.mp hp)]
  · rw [decide_eq_false hp, decide_eq_false fun z => hp (h.mpr z)]
section
variable {P : Program} {w : World} {K : PySem.W.Frag} {mg : Str → Option Value} {base : Heap}
inductive spTiesB_ (vs : List V) (H : Hp) (Q : VK) : Prop
  | mk (v x : V) (ls : List (List Nat)) (ts : List TieD) (d : PyData) (E : Addr → Prop) (h0 : vs = [v, x]) (h1 : IsD ED H v (netD ls ts)) (h2 : IsD E H x d) (h3 : (∀ ds, d = .list ds → ds.length ≤ 100)) (h4 : ∀ H', Same H H' → Q (.bl (tiesB ts.length d)) H')
def spTiesB : Sp := fun vs H Q _ => spTiesB_  vs H Q
theorem ok_are_ties (T : Txt K mg) : FnOk P w K mg base CX0 2 T.f_are_ties T.d_are_ties ["net", "thing"] spTiesB := by
  have G_is_number := ok_is_number (P := P) (w := w) (base := base) T
  refine T.F_are_ties.ok sc_are_ties (fun vs H Q E h => ?_) (fun cdv A outer s H vs Q E hr h => ?_)
  · obtain ⟨v, x, ls, ts, d, E', rfl, _⟩ := h
    rfl
  · obtain ⟨v, x, ls, ts, d, E', rfl, hv, hx, h100, k⟩ := h
    obtain ⟨a, p, q, ys, rfl, ha, hp, hq, iq⟩ := net_inv2 hv
    have ly := iq.length
    rw [List.length_map] at ly
    refine ⟨_, (@pss_cons _ _ _ _ _ (@ps_if _ _ _ _ _ _ _ _ (@pt_not _ _ _ _ (@pt_val _ _ _ (@pe_callB _ _ _ _ _ _ _ _ _ (@isinst_k _ (K) (by rfl)) k_are_ties_isinstance T.b_isinstance (@boot_b_isinstance) (@pa_c _ _ _ _ _ (@pw _ 1 _ _ (Or.inl k_are_ties_thing) (by rfl) (by decide) (by decide)) (@pa_c _ _ _ _ _ (@pe_ty _ _ _ _ k_are_ties_list T.b_list (@boot_ty_list) (by decide) (by decide)) (@pa_nil _) rfl) rfl) (by decide) (by decide) (by rfl) (by rfl)) (by intro _; rfl))) (@pss_one _ _ _ (@ps_ret _ _ _ _ (@pe_bl _ _ _ _))) (@pss_nil _)) (@pss_cons _ _ _ _ _ (@ps_if _ _ _ _ _ _ _ _ (@pt_not _ _ _ _ (@pt_val _ _ _ (@pe_callB _ _ _ _ _ _ _ _ _ (@all_k _ (K) rfl (by rfl)) k_are_ties_all T.b_all (@boot_b_all) (@pa_c _ _ _ _ _ (@pe_comp _ _ _ _ _ _ _ (["number", "net"]) (1) ([0]) _ _ _ _ rfl (by kernel_rfl) (@pi_list_k _ (K) _ _ _ (@pw _ 1 _ _ (Or.inl k_are_ties_thing) (by rfl) (by decide) (by decide)) (by rfl)) (fun _ _ _ _ _ _ => (@pg_name _ _ (0) _ (@nodupS _ (by kernel_rfl)) rfl (Or.inl (by kernel_rfl)) (by first | exact .inl rfl | exact .inr rfl | assumption))) (fun _ _ _ _ _ _ => @pifs_nil _) (fun _ _ _ _ _ _ => (@pe_and _ _ _ _ _ _ _ (@pe_call _ _ _ _ _ _ _ _ _ _ _ _ _ _ _ _ G_is_number (hr.mono (by decide)) (by show _ = _; kernel_rfl) T.m_is_number T.F_is_number.kp T.B_is_number .nil (@pass0 _) (@pa_c _ _ _ _ _ (@pw _ 0 _ _ (Or.inl (by kernel_rfl)) (by rfl) (by decide) (by decide)) (@pa_nil _) rfl) (by decide) (by rfl) (by rfl)) (@pe_one _ _ _ _ _ (@pe_chain _ _ _ _ _ _ _ _ _ _ _ _ (@op_le _) (@op_lt _) (@pe_int _ _ _ _) (@pw _ 0 _ _ (Or.inl (by kernel_rfl)) (by rfl) (by decide) (by decide)) (@pe_callB _ _ _ _ _ _ _ _ _ (@len_k _ (K) (by rfl)) (by show _ = _; kernel_rfl) T.b_len (@boot_b_len) (@pa_c _ _ _ _ _ (@pe_ix _ _ _ _ _ _ _ (@ixT_k _ (K) (by rfl)) (@pw _ 1 _ _ (Or.inr (Or.inl (by kernel_rfl))) (by rfl) (by decide) (by decide)) (@pe_int _ _ _ _) (fun _ _ => rfl)) (@pa_nil _) rfl) (by decide) (by decide) (by rfl) (by rfl)) (by with_unfolding_all rfl))))) (by intro _; rfl)) (@pa_nil _) rfl) (by decide) (by decide) (by rfl) (by rfl)) (by intro _; rfl))) (@pss_one _ _ _ (@ps_ret _ _ _ _ (@pe_bl _ _ _ _))) (@pss_nil _)) (@pss_one _ _ _ (@ps_ret _ _ _ _ (@pe_cmpR _ _ _ _ _ _ _ _ (@op_eq _) (@pe_setLen _ (K) _ _ _ _ _ _ (@pw _ 1 _ _ (Or.inl k_are_ties_thing) (by rfl) (by decide) (by decide)) rfl k_are_ties_len T.b_len k_are_ties_set T.b_set (by rfl) (by rfl)) (@pe_callB _ _ _ _ _ _ _ _ _ (@len_k _ (K) (by rfl)) k_are_ties_len T.b_len (@boot_b_len) (@pa_c _ _ _ _ _ (@pw _ 1 _ _ (Or.inl k_are_ties_thing) (by rfl) (by decide) (by decide)) (@pa_nil _) rfl) (by decide) (by decide) (by rfl) (by rfl)) (@nomark _ _ (by decide) (by decide))))))), ?_⟩
    refine ⟨_, rfl, _, _, _, _, rfl, hx.ty, kit_list d, _, rfl, ?_⟩
    have k0 := k H (Same.refl _)
    cases hx with
    | non => exact iteT k0
    | bl b => exact iteT k0
    | int i => exact iteT k0
    | str y => exact iteT k0
    | tup h r => exact iteT k0
    | @lst o xs ds h ne r =>
      have lx := r.length
      have l100 := h100 ds rfl
      refine iteF ?_
      refine ⟨_, rfl, o, rfl, ⟨_, SqL.of h⟩, fun D hD => comp_mapL (xs := xs) (fun i => .bl (okN ts.length ((ds[i]?).getD .none))) (by trivial) hD h ?_ ?_⟩
      · intro i x H' R hxi sm kk
        obtain ⟨dx, e1, g1⟩ := r.get hxi
        rw [e1] at kk
        refine ⟨back1, _, rfl, x, dx, E', rfl, g1.mono sm.toE, _, rfl, ?_⟩
        cases g1 with
        | non => exact iteF (kk H' (Same.refl _))
        | bl b => exact iteF (kk H' (Same.refl _))
        | str y => exact iteF (kk H' (Same.refl _))
        | lst _ _ _ => exact iteF (kk H' (Same.refl _))
        | tup _ _ => exact iteF (kk H' (Same.refl _))
        | int j =>
          refine iteT ⟨_, rfl, _, _, rfl, rfl, _, rfl, ?_⟩
          have e2 : okN ts.length (.int j) = (decide (0 ≤ j) && decide (j < (ts.length : Int))) := rfl
          have kk' := kk H' (Same.refl _)
          simp only [Option.getD_some] at kk'
          rw [e2] at kk'
          by_cases h0 : 0 ≤ j
          · rw [decide_eq_true h0, Bool.true_and] at kk'
            rw [decide_eq_true h0]
            refine iteT ⟨_, rfl, a, _, _, _, rfl, rfl, SqT.of (sm _ _ ha), rfl, q, ys, rfl, .inr (SqT.of (sm _ _ hq)), _, _, rfl, rfl, ?_⟩
            rw [ly]
            exact kk'
          · rw [decide_eq_false h0, Bool.false_and] at kk'
            rw [decide_eq_false h0]
            exact iteF kk'
      · intro H1 s1 hD1
        have e3 : (List.range xs.length).map (fun i => V.bl (okN ts.length ((ds[i]?).getD .none))) = (ds.map (okN ts.length)).map V.bl := by
          rw [lx, map_range_get (fun i => V.bl (okN ts.length ((ds[i]?).getD .none))) (fun d => V.bl (okN ts.length d)) ds (fun i x e => by rw [e]; rfl), List.map_map]
          rfl
        rw [e3] at hD1
        refine ⟨D, _, rfl, SqL.of hD1, _, rfl, ?_⟩
        have e4 : (ds.map (okN ts.length)).all id = ds.all (okN ts.length) := by rw [List.all_map]; rfl
        rw [e4]
        have k1 := k H1 s1
        have e5 : tiesB ts.length (.list ds) = (ds.all (okN ts.length) && decide (nums ds).Nodup) := rfl
        cases hb : ds.all (okN ts.length) with
        | false =>
          rw [e5, hb, Bool.false_and] at k1
          exact iteT k1
        | true =>
          rw [e5, hb, Bool.true_and] at k1
          obtain ⟨ed, _⟩ := okN_all hb
          rw [ed] at r
          have ex := isAll_ints r
          refine iteF ?_
          have h1 := s1 _ _ h
          refine ⟨_, rfl, o, (nums ds).map fun i : Nat => (Sum.inl (i : Int) : Key), rfl, .inl (SqL.of (by rw [← keys_int, ← ex]; exact h1)), by simp; trivial, _, rfl, o, xs, rfl, .inl (SqL.of h1), rfl, ?_⟩
          have e6 := dec_once ((nums ds).map fun i : Nat => (Sum.inl (i : Int) : Key))
          rw [dec_congr (keys_nodup (nums ds))] at e6
          have e7 : (xs.length : Int) = (((nums ds).map fun i : Nat => (Sum.inl (i : Int) : Key)).length : Nat) := by simp; trivial
          rw [e7, e6]
          exact k1
end
end K09
namespace K09
open PySem L2
theorem at_last {α : Type} {xs : List α} {x : α} (h : xs[xs.length - 1]? = some x) : atI xs (-1) = some x := by
  have hj : xs.length - 1 < xs.length := (List.getElem?_eq_some_iff.mp h).1
  unfold atI ixN
  rw [if_neg (by decide), if_pos (by trivial)]
  show xs[(-1 + (xs.length : Int)).toNat]? = some x
  rw [show (-1 + (xs.length : Int)).toNat = xs.length - 1 by trivial]
  exact h
theorem num_get {ns : List Nat} {i : Nat} {x : V} (h : (nts ns)[i]? = some x) : ∃ n, ns[i]? = some n ∧ x = .int (n : Int) := by
  rw [List.getElem?_map] at h
  obtain ⟨n, e, rfl⟩ := Option.map_eq_some_iff.mp h
  exact ⟨n, e, rfl⟩
theorem tie_at {E : Addr → Prop} {H : Hp} {ys : List V} {ts : List TieD} (iq : IsAll E H ys (ts.map tieD)) {n : Nat} (hn : n < ts.length) : Ex4 fun a2 om og op => atI ys (n : Int) = some (.ref a2) ∧ H a2 = some (.tup [.str (S (begN ts n)), .str (S (endN ts n)), .ref om, .ref og, .ref op]) := by
  have ly := iq.length
  rw [List.length_map] at ly
  obtain ⟨dv, g1, g2⟩ := iq.get (List.getElem?_eq_getElem (show n < ys.length by trivial))
  rw [List.getElem?_map] at g1
  obtain ⟨tt, g3, rfl⟩ := Option.map_eq_some_iff.mp g1
  obtain ⟨a2, om, og, op, e, h, _⟩ := tie_inv2 g2
  refine ⟨a2, om, og, op, ?_, ?_⟩
  · rw [← e]; exact atI_nat (List.getElem?_eq_getElem (show n < ys.length by trivial))
  · unfold begN endN
    rw [g3]; exact h
theorem link_eq {ts : List TieD} {i j : Nat} (hi : i < ts.length) (hj : j < ts.length) : linkB ts i j = decide (endN ts i = begN ts j) := by
  unfold linkB endN begN
  rw [List.getElem?_eq_getElem hi, List.getElem?_eq_getElem hj]
  exact dec_congr ⟨fun h => by injection h, fun h => congrArg some h⟩
theorem tiesB_inv {n : Nat} {ds : List PyData} (h : tiesB n (.list ds) = true) : ds = (nums ds).map intD ∧ (∀ i ∈ nums ds, i < n) ∧ (nums ds).Nodup := by
  have h' : (ds.all (okN n) && decide (nums ds).Nodup) = true := h
  rw [Bool.and_eq_true, decide_eq_true_iff] at h'
  exact ⟨(okN_all h'.1).1, (okN_all h'.1).2, h'.2⟩
theorem cut1 {ns : List Nat} : cutV (nts ns) (some 1) none = nts (ns.drop 1) := by
  rw [cutV_drop1]
  exact List.map_drop.symm
theorem wayB_false {ts : List TieD} {d : PyData} (h : tiesB ts.length d = false) : wayB ts d = false ∧ roundB ts d = false := by
  have a : wayB ts d = false := by
    unfold wayB
    split
    · rw [h]; rfl
    · rfl
  refine ⟨a, ?_⟩
  unfold roundB
  split
  · rw [a]; rfl
  · rfl
theorem chain_map (ts : List TieD) (ns : List Nat) : (List.range (min (nts ns).length (nts (ns.drop 1)).length)).map (fun i => V.bl (linkB ts ((ns[i]?).getD 0) (((ns.drop 1)[i]?).getD 0))) = ((List.range (min ns.length (ns.drop 1).length)).map fun i => linkB ts ((ns[i]?).getD 0) (((ns.drop 1)[i]?).getD 0)).map V.bl := by
  rw [List.length_map, List.length_map, List.map_map]
  rfl
section
variable {P : Program} {w : World} {K : PySem.W.Frag} {mg : Str → Option Value} {base : Heap}
inductive spWayB_ (f : List TieD → PyData → Bool) (vs : List V) (H : Hp) (Q : VK) : Prop
  | mk (v x : V) (ls : List (List Nat)) (ts : List TieD) (d : PyData) (E : Addr → Prop) (wn wk : Nat) (h0 : vs = [v, x]) (h1 : IsD ED H v (netD ls ts)) (h2 : IsD E H x d) (h3 : Wt d wn wk) (h4 : wk ≤ 50) (h5 : (∀ ds, d = .list ds → ds.length ≤ 100)) (h6 : ts.length ≤ 40) (h7 : ∀ H', Same H H' → Q (.bl (f ts d)) H')
def spWayB (f : List TieD → PyData → Bool) : Sp := fun vs H Q _ => spWayB_ f vs H Q
theorem ok_is_way (T : Txt K mg) : FnOk P w K mg base CX0 3 T.f_is_way T.d_is_way ["net", "thing"] (spWayB wayB) := by
  have G_are_ties := ok_are_ties (P := P) (w := w) (base := base) T
  refine T.F_is_way.ok sc_is_way (fun vs H Q E h => ?_) (fun cdv A outer s H vs Q E hr h => ?_)
  · obtain ⟨v, x, ls, ts, d, E', wn, wk, rfl, _⟩ := h
    rfl
  · obtain ⟨v, x, ls, ts, d, E', wn, wk, rfl, hv, hx, wd, hwk, h100, h40, k⟩ := h
    refine ⟨_, (@pss_cons _ _ _ _ _ (@ps_if _ _ _ _ _ _ _ _ (@pt_not _ _ _ _ (@pt_val _ _ _ (@pe_call _ _ _ _ _ _ _ _ _ _ _ _ _ _ _ _ G_are_ties (hr.mono (by decide)) k_is_way_are_ties T.m_are_ties T.F_are_ties.kp T.B_are_ties .nil (@pass0 _) (@pa_c _ _ _ _ _ (@pw _ 0 _ _ (Or.inr (Or.inl k_is_way_net)) (by rfl) (by decide) (by decide)) (@pa_c _ _ _ _ _ (@pw _ 1 _ _ (Or.inl k_is_way_thing) (by rfl) (by decide) (by decide)) (@pa_nil _) rfl) rfl) (by decide) (by rfl) (by rfl)) (by intro _; rfl))) (@pss_one _ _ _ (@ps_ret _ _ _ _ (@pe_bl _ _ _ _))) (@pss_nil _)) (@pss_one _ _ _ (@ps_ret _ _ _ _ (@pe_callB _ _ _ _ _ _ _ _ _ (@all_k _ (K) rfl (by rfl)) k_is_way_all T.b_all (@boot_b_all) (@pa_c _ _ _ _ _ (@pe_comp _ _ _ _ _ _ _ (["ahead", "behind", "net"]) (2) ([0]) _ _ _ _ rfl (by kernel_rfl) (@pi_zip_k _ (K) _ _ _ _ _ _ _ _ k_is_way_zip T.b_zip (@pa_c _ _ _ _ _ (@pw _ 1 _ _ (Or.inl k_is_way_thing) (by rfl) (by decide) (by decide)) (@pa_c _ _ _ _ _ (@pe_slice _ _ _ _ _ _ _ _ _ _ (@sl_listA _ (K) (by rfl)) (@pw _ 1 _ _ (Or.inl k_is_way_thing) (by rfl) (by decide) (by decide)) (@po_some _ _ _ (@pe_int _ _ _ _)) (@po_none _)) (@pa_nil _) rfl) rfl) (by rfl) (by rfl) (by rfl)) (fun _ _ _ _ _ _ => (@pg_tup_k _ (K) _ _ _ _ (2) rfl (@pgs_cons _ _ _ _ _ (@pg_name _ _ (0) _ (@nodupS _ (by kernel_rfl)) rfl (Or.inl (by kernel_rfl)) (by first | exact .inl rfl | exact .inr rfl | assumption)) (@pgs_cons _ _ _ _ _ (@pg_name _ _ (1) _ (@nodupS _ (by kernel_rfl)) rfl (Or.inl (by kernel_rfl)) (by first | exact .inl rfl | exact .inr rfl | assumption)) (@pgs_nil _) (by rfl)) (by rfl)) (by rfl) (by rfl) (by rfl))) (fun _ _ _ _ _ _ => @pifs_nil _) (fun _ _ _ _ _ _ => (@pe_cmpR _ _ _ _ _ _ _ _ (@op_eq _) (@pe_ix _ _ _ _ _ _ _ (@ixT_k _ (K) (by rfl)) (@pe_ix _ _ _ _ _ _ _ (@ixT_k _ (K) (by rfl)) (@pe_ix _ _ _ _ _ _ _ (@ixT_k _ (K) (by rfl)) (@pw _ 2 _ _ (Or.inr (Or.inl (by kernel_rfl))) (by rfl) (by decide) (by decide)) (@pe_int _ _ _ _) (fun _ _ => rfl)) (@pw _ 0 _ _ (Or.inl (by kernel_rfl)) (by rfl) (by decide) (by decide)) (fun _ _ => rfl)) (@pe_int _ _ _ _) (fun _ _ => rfl)) (@pe_ix _ _ _ _ _ _ _ (@ixT_k _ (K) (by rfl)) (@pe_ix _ _ _ _ _ _ _ (@ixT_k _ (K) (by rfl)) (@pe_ix _ _ _ _ _ _ _ (@ixT_k _ (K) (by rfl)) (@pw _ 2 _ _ (Or.inr (Or.inl (by kernel_rfl))) (by rfl) (by decide) (by decide)) (@pe_int _ _ _ _) (fun _ _ => rfl)) (@pw _ 1 _ _ (Or.inl (by kernel_rfl)) (by rfl) (by decide) (by decide)) (fun _ _ => rfl)) (@pe_int _ _ _ _) (fun _ _ => rfl)) (@nomark _ _ (by decide) (by decide)))) (by intro _; rfl)) (@pa_nil _) rfl) (by decide) (by decide) (by rfl) (by rfl))))), ?_⟩
    refine ⟨_, rfl, _, rfl, v, x, ls, ts, d, E', rfl, hv, hx, h100, fun H1 s1 => ⟨_, rfl, ?_⟩⟩
    have k1 := k H1 s1
    cases hb : tiesB ts.length d with
    | false =>
      rw [(wayB_false hb).1] at k1
      exact iteT k1
    | true =>
      refine iteF ?_
      cases hx with
      | non => cases hb
      | bl b => cases hb
      | int i => cases hb
      | str y => cases hb
      | tup h r => cases hb
      | @lst o xs ds h ne r =>
        obtain ⟨ed, hlt, _⟩ := tiesB_inv hb
        have l100 := h100 ds rfl
        generalize hns : nums ds = ns at ed hlt
        have ln : ns.length = ds.length := by rw [← hns]; simp
        rw [ed] at r
        obtain rfl := isAll_ints r
        have ew : wayB ts (.list ds) = chainB ts ns := by
          show (tiesB ts.length (.list ds) && chainB ts (nums ds)) = _
          rw [hb, Bool.true_and, hns]
        obtain ⟨a, p, q, ys, rfl, ha, hp, hq, iq⟩ := net_inv2 (hv.sm s1)
        refine ⟨_, rfl, _, rfl, _, rfl, o, _, rfl, SqL.of (s1 _ _ h), fun u2 H2 n2 => ?_⟩
        have s2 := s1.trans n2.sm
        have hu : H2 u2 = some (.lst (nts (ns.drop 1))) := by rw [n2.at', cut1]
        refine ⟨o, u2, true, true, rfl, ⟨_, SqL.of (s2 _ _ h)⟩, ⟨_, SqL.of hu⟩, fun D hD => comp_mapZ (xs := nts ns) (ys := nts (ns.drop 1)) (fun i => .bl (linkB ts ((ns[i]?).getD 0) (((ns.drop 1)[i]?).getD 0))) ?_ hD (fun H' sm => SqL.of (sm _ _ (s2 _ _ h))) (fun H' sm => SqL.of (sm _ _ hu)) ?_ ?_⟩
        · simp; trivial
        · intro i x y H' R hx hy sm kk
          obtain ⟨n1, e1, rfl⟩ := num_get hx
          obtain ⟨n3, e3, rfl⟩ := num_get hy
          have l1 := hlt n1 (List.mem_of_getElem? e1)
          have l3 := hlt n3 (List.mem_of_mem_drop (List.mem_of_getElem? e3))
          have sn := n2.sm.trans sm
          obtain ⟨a2, om, og, op, at2, h2⟩ := tie_at (iq.mono sn.toE) l1
          obtain ⟨a4, om4, og4, op4, at4, h4⟩ := tie_at (iq.mono sn.toE) l3
          refine ⟨back2, ?_⟩
          refine ⟨_, rfl, a, _, _, _, rfl, rfl, SqT.of (sn _ _ ha), rfl, _, rfl, q, _, _, _, rfl, rfl, SqT.of (sn _ _ hq), at2, a2, _, _, _, rfl, rfl, SqT.of h2, rfl, _, rfl, a, _, _, _, rfl, rfl, SqT.of (sn _ _ ha), rfl, _, rfl, q, _, _, _, rfl, rfl, SqT.of (sn _ _ hq), at4, a4, _, _, _, rfl, rfl, SqT.of h4, rfl, rfl, ?_⟩
          have := kk H' (Same.refl _)
          rw [e1, e3] at this
          simp only [Option.getD_some] at this
          rw [link_eq l1 l3] at this
          rw [dec_str]
          exact this
        · intro H3 s3 hD3
          rw [chain_map] at hD3
          refine ⟨D, _, rfl, SqL.of hD3, ?_⟩
          have k3 := k H3 (s2.trans s3)
          rw [ew] at k3
          exact k3
theorem ok_is_round (T : Txt K mg) : FnOk P w K mg base CX0 4 T.f_is_round T.d_is_round ["net", "thing"] (spWayB roundB) := by
  have G_is_way := ok_is_way (P := P) (w := w) (base := base) T
  refine T.F_is_round.ok sc_is_round (fun vs H Q E h => ?_) (fun cdv A outer s H vs Q E hr h => ?_)
  · obtain ⟨v, x, ls, ts, d, E', wn, wk, rfl, _⟩ := h
    rfl
  · obtain ⟨v, x, ls, ts, d, E', wn, wk, rfl, hv, hx, wd, hwk, h100, h40, k⟩ := h
    refine ⟨_, (@pss_cons _ _ _ _ _ (@ps_if _ _ _ _ _ _ _ _ (@PW.pt _ _ _ (@pw_or _ _ _ _ _ _ _ (@pt_not _ _ _ _ (@pt_val _ _ _ (@pe_call _ _ _ _ _ _ _ _ _ _ _ _ _ _ _ _ G_is_way (hr.mono (by decide)) k_is_round_is_way T.m_is_way T.F_is_way.kp T.B_is_way .nil (@pass0 _) (@pa_c _ _ _ _ _ (@pw _ 0 _ _ (Or.inr (Or.inl k_is_round_net)) (by rfl) (by decide) (by decide)) (@pa_c _ _ _ _ _ (@pw _ 1 _ _ (Or.inl k_is_round_thing) (by rfl) (by decide) (by decide)) (@pa_nil _) rfl) rfl) (by decide) (by rfl) (by rfl)) (by intro _; rfl))) (@pw_or1 _ _ _ _ (@pt_cmpR _ _ _ _ _ _ _ _ (@op_lt _) (@pe_callB _ _ _ _ _ _ _ _ _ (@len_k _ (K) (by rfl)) k_is_round_len T.b_len (@boot_b_len) (@pa_c _ _ _ _ _ (@pw _ 1 _ _ (Or.inl k_is_round_thing) (by rfl) (by decide) (by decide)) (@pa_nil _) rfl) (by decide) (by decide) (by rfl) (by rfl)) (@pe_int _ _ _ _) (@nomark _ _ (by decide) (by decide)))))) (@pss_one _ _ _ (@ps_ret _ _ _ _ (@pe_bl _ _ _ _))) (@pss_nil _)) (@pss_cons _ _ _ _ _ (@ps_setComp _ _ _ _ _ _ _ (["number", "net"]) (1) ([0]) _ _ _ _ (2) _ _ _ sc_is_round.nd rfl k_is_round_begins (by kernel_rfl) rfl (by kernel_rfl) (@pi_list_k _ (K) _ _ _ (@pw _ 1 _ _ (Or.inl k_is_round_thing) (by rfl) (by decide) (by decide)) (by rfl)) (fun _ _ _ _ _ _ => (@pg_name _ _ (0) _ (@nodupS _ (by kernel_rfl)) rfl (Or.inl (by kernel_rfl)) (by first | exact .inl rfl | exact .inr rfl | assumption))) (fun _ _ _ _ _ _ => @pifs_nil _) (fun _ _ _ _ _ _ => (@pe_ix _ _ _ _ _ _ _ (@ixT_k _ (K) (by rfl)) (@pe_ix _ _ _ _ _ _ _ (@ixT_k _ (K) (by rfl)) (@pe_ix _ _ _ _ _ _ _ (@ixT_k _ (K) (by rfl)) (@pw _ 1 _ _ (Or.inr (Or.inl (by kernel_rfl))) (by rfl) (by decide) (by decide)) (@pe_int _ _ _ _) (fun _ _ => rfl)) (@pw _ 0 _ _ (Or.inl (by kernel_rfl)) (by rfl) (by decide) (by decide)) (fun _ _ => rfl)) (@pe_int _ _ _ _) (fun _ _ => rfl))) (by intro _; rfl)) (@pss_one _ _ _ (@ps_ret _ _ _ _ (@pe_and _ _ _ _ _ _ _ (@pe_cmpR _ _ _ _ _ _ _ _ (@op_eq _) (@pe_ix _ _ _ _ _ _ _ (@ixT_k _ (K) (by rfl)) (@pe_ix _ _ _ _ _ _ _ (@ixT_k _ (K) (by rfl)) (@pe_ix _ _ _ _ _ _ _ (@ixT_k _ (K) (by rfl)) (@pw _ 0 _ _ (Or.inr (Or.inl k_is_round_net)) (by rfl) (by decide) (by decide)) (@pe_int _ _ _ _) (fun _ _ => rfl)) (@pe_ix _ _ _ _ _ _ _ (@ixL_k _ (K) (by rfl)) (@pw _ 1 _ _ (Or.inl k_is_round_thing) (by rfl) (by decide) (by decide)) (@pe_un _ _ _ _ _ _ (@un_neg _) (@pe_int _ _ _ _)) (fun _ _ => rfl)) (fun _ _ => rfl)) (@pe_int _ _ _ _) (fun _ _ => rfl)) (@pe_ix _ _ _ _ _ _ _ (@ixL_k _ (K) (by rfl)) (@pw _ 2 _ _ (Or.inl k_is_round_begins) (by rfl) (by decide) (by decide)) (@pe_int _ _ _ _) (fun _ _ => rfl)) (@nomark _ _ (by decide) (by decide))) (@pe_one _ _ _ _ _ (@pe_cmpR _ _ _ _ _ _ _ _ (@op_eq _) (@pe_setLen _ (K) _ _ _ _ _ _ (@pw _ 2 _ _ (Or.inl k_is_round_begins) (by rfl) (by decide) (by decide)) rfl k_is_round_len T.b_len k_is_round_set T.b_set (by rfl) (by rfl)) (@pe_callB _ _ _ _ _ _ _ _ _ (@len_k _ (K) (by rfl)) k_is_round_len T.b_len (@boot_b_len) (@pa_c _ _ _ _ _ (@pw _ 2 _ _ (Or.inl k_is_round_begins) (by rfl) (by decide) (by decide)) (@pa_nil _) rfl) (by decide) (by decide) (by rfl) (by rfl)) (@nomark _ _ (by decide) (by decide))))))))), ?_⟩
    refine ⟨_, rfl, _, rfl, v, x, ls, ts, d, E', wn, wk, rfl, hv, hx, wd, hwk, h100, h40, fun H1 s1 => ⟨_, rfl, ?_⟩⟩
    have k1 := k H1 s1
    cases hb : wayB ts d with
    | false =>
      have e0 : roundB ts d = false := by
        unfold roundB
        split
        · rw [hb]; rfl
        · rfl
      rw [e0] at k1
      exact iteT (iteT k1)
    | true =>
      refine iteF ?_
      cases hx with
      | non => cases hb
      | bl b => cases hb
      | int i => cases hb
      | str y => cases hb
      | tup h r => cases hb
      | @lst o xs ds h ne r =>
        have hb' : (tiesB ts.length (.list ds) && chainB ts (nums ds)) = true := hb
        rw [Bool.and_eq_true] at hb'
        obtain ⟨ed, hlt, _⟩ := tiesB_inv hb'.1
        have l100 := h100 ds rfl
        have lx := r.length
        generalize hns : nums ds = ns at ed hlt
        have ln : ns.length = ds.length := by rw [← hns]; simp
        have er : roundB ts (.list ds) = (!decide (ds.length < 2) && ringB ts ns) := by
          show (wayB ts (.list ds) && !decide (ds.length < 2) && ringB ts (nums ds)) = _
          rw [hb, Bool.true_and, hns]
        rw [er] at k1
        refine ⟨_, rfl, o, xs, rfl, .inl (SqL.of (s1 _ _ h)), _, _, rfl, rfl, _, rfl, ?_⟩
        by_cases h2 : ds.length < 2
        · rw [decide_eq_true h2] at k1
          have c1 : decide ((xs.length : Int) < 2) = true := decide_eq_true (by trivial)
          rw [c1]
          exact iteT k1
        · rw [decide_eq_false h2] at er
          have c1 : decide ((xs.length : Int) < 2) = false := decide_eq_false (by trivial)
          rw [c1]
          refine iteF ?_
          rw [ed] at r
          obtain rfl := isAll_ints r
          obtain ⟨a, p, q, ys, rfl, ha, hp, hq, iq⟩ := net_inv2 (hv.sm s1)
          have h1 := s1 _ _ h
          refine ⟨_, rfl, o, rfl, ⟨_, SqL.of h1⟩, fun D hD => comp_mapL (xs := nts ns) (fun i => strV (begN ts ((ns[i]?).getD 0))) ?_ hD h1 ?_ ?_⟩
          · simp; trivial
          · intro i x H' R hx sm kk
            obtain ⟨n1, e1, rfl⟩ := num_get hx
            obtain ⟨a2, om, og, op, at2, h2⟩ := tie_at (iq.mono sm.toE) (hlt n1 (List.mem_of_getElem? e1))
            rw [e1] at kk
            exact ⟨back1, _, rfl, a, _, _, _, rfl, rfl, SqT.of (sm _ _ ha), rfl, _, rfl, q, _, _, _, rfl, rfl, SqT.of (sm _ _ hq), at2, a2, _, _, _, rfl, rfl, SqT.of h2, rfl, kk H' (Same.refl _)⟩
          · intro H2 s2 hD2
            have e3 : (List.range (nts ns).length).map (fun i => strV (begN ts ((ns[i]?).getD 0))) = (ns.map (begN ts)).map strV := by
              rw [List.length_map, map_range_get (fun i => strV (begN ts ((ns[i]?).getD 0))) (fun n => strV (begN ts n)) ns (fun i x e => by rw [e]; rfl), List.map_map]
              rfl
            rw [e3] at hD2
            obtain ⟨nl, hnl⟩ : ∃ n, ns[ns.length - 1]? = some n := ⟨_, List.getElem?_eq_getElem (show ns.length - 1 < ns.length by trivial)⟩
            obtain ⟨n0, hn0⟩ : ∃ n, ns[0]? = some n := ⟨_, List.getElem?_eq_getElem (show 0 < ns.length by trivial)⟩
            obtain ⟨a2, om, og, op, at2, h2⟩ := tie_at (iq.mono s2.toE) (hlt nl (List.mem_of_getElem? hnl))
            have atl : atI (nts ns) (-1) = some (V.int (nl : Int)) := at_last (by rw [List.length_map, List.getElem?_map, hnl]; rfl)
            have at0 : atI ((ns.map (begN ts)).map strV) 0 = some (strV (begN ts n0)) := atI_nat (j := 0) (by rw [List.getElem?_map, List.getElem?_map, hn0]; rfl)
            refine ⟨_, rfl, a, _, _, _, rfl, rfl, SqT.of (s2 _ _ ha), rfl, _, rfl, _, rfl, o, _, _, _, rfl, rfl, SqL.of (s2 _ _ h1), atl, q, _, _, _, rfl, rfl, SqT.of (s2 _ _ hq), at2, a2, _, _, _, rfl, rfl, SqT.of h2, rfl, _, rfl, D, _, _, _, rfl, rfl, SqL.of hD2, at0, rfl, _, rfl, ?_⟩
            have k2 := k H2 (s1.trans s2)
            rw [er] at k2
            have eg : ringB ts ns = (decide (endN ts nl = begN ts n0) && decide ((ns.map (begN ts)).Nodup)) := by
              unfold ringB
              rw [hnl, hn0]; rfl
            rw [eg] at k2
            rw [dec_str]
            by_cases hc : endN ts nl = begN ts n0
            · rw [decide_eq_true hc] at k2
              rw [decide_eq_true hc]
              refine iteT ⟨_, rfl, D, (ns.map (begN ts)).map fun l => (Sum.inr (S l) : Key), rfl, .inl (SqL.of (by rw [← strs_key]; exact hD2)), by simp; trivial, _, rfl, D, _, rfl, .inl (SqL.of hD2), rfl, ?_⟩
              have e6 := dec_once ((ns.map (begN ts)).map fun l => (Sum.inr (S l) : Key))
              rw [dec_congr (strs_nodup _)] at e6
              have e7 : (((ns.map (begN ts)).map strV).length : Int) = (((ns.map (begN ts)).map fun l => (Sum.inr (S l) : Key)).length : Nat) := by simp
              rw [e7, e6]
              exact k2
            · rw [decide_eq_false hc] at k2
              rw [decide_eq_false hc]
              exact iteF k2
end
end K09
namespace K09
open PySem L2
theorem fbTim {b c e : Nat} {n1 d1 n2 d2 : Int} (h1 : Fb b n1 d1) (h2 : Fb c n2 d2) (hc : b + c ≤ e) : Fb e (KM.low (n1 * n2) (d1 * d2)).1 (KM.low (n1 * n2) (d1 * d2)).2 :=
  .low ((h1.sn.mul h2.sn).mono hc) ((h1.sd.mul h2.sd).mono hc) (Int.mul_ne_zero (by have := h1.pos; trivial) (by have := h2.pos; trivial))
def gn (ts : List TieD) (i : Nat) : KM.Fra := ((ts[i]?).map TieD.gain).getD (1, 1)
def mo (ts : List TieD) (i : Nat) : KM.Fra := ((ts[i]?).map TieD.most).getD (0, 1)
def along (ts : List TieD) (m : KM.Fra) (is : List Nat) : KM.Fra := is.foldl (fun g i => KM.lTim g (gn ts i)) m
def alongs (ts : List TieD) (m : KM.Fra) (is : List Nat) (k : Nat) : List KM.Fra := (List.range k).map fun j => along ts m (is.take j)
structure TieG (t : TieD) : Prop where
  fm : Fb 24 t.most.1 t.most.2
  fg : Fb 6 t.gain.1 t.gain.2
  m0 : 0 ≤ t.most.1
  g1 : 1 ≤ t.gain.1
  pr : t.price = (0, 1)
section
variable {ts : List TieD} {m : KM.Fra} {is : List Nat} {i b k : Nat}
theorem along_snoc : along ts m (is ++ [i]) = KM.lTim (along ts m is) (gn ts i) := by
  unfold along
  rw [List.foldl_append]; rfl
theorem take_snoc {α : Type} {xs : List α} {x : α} (h : xs[i]? = some x) : xs.take (i + 1) = xs.take i ++ [x] := by
  rw [List.take_add_one, h]; rfl
theorem along_at (h : is[k]? = some i) : along ts m (is.take (k + 1)) = KM.lTim (along ts m (is.take k)) (gn ts i) := by
  rw [take_snoc h, along_snoc]
theorem alongs_succ : alongs ts m is (k + 1) = alongs ts m is k ++ [along ts m (is.take k)] := by
  unfold alongs
  rw [List.range_succ, List.map_append]; rfl
theorem gn_ok (h : ∀ t ∈ ts, TieG t) (hi : i < ts.length) : Fb 6 (gn ts i).1 (gn ts i).2 ∧ 1 ≤ (gn ts i).1 := by
  have e : ts[i]? = some ts[i] := List.getElem?_eq_getElem hi
  have c := h _ (List.getElem_mem hi)
  unfold gn
  rw [e]
  exact ⟨c.fg, c.g1⟩
theorem mo_ok (h : ∀ t ∈ ts, TieG t) (hi : i < ts.length) : Fb 24 (mo ts i).1 (mo ts i).2 ∧ 0 ≤ (mo ts i).1 := by
  have e : ts[i]? = some ts[i] := List.getElem?_eq_getElem hi
  have c := h _ (List.getElem_mem hi)
  unfold mo
  rw [e]
  exact ⟨c.fm, c.m0⟩
theorem along_fb (h : ∀ t ∈ ts, TieG t) (hm : Fb b m.1 m.2) : ∀ (is : List Nat), (∀ i ∈ is, i < ts.length) → Fb (b + 7 * is.length) (along ts m is).1 (along ts m is).2 := by
  intro is
  induction is generalizing m b with
  | nil => intro _; exact hm
  | cons i r ih =>
    intro hi
    have := ih (m := KM.lTim m (gn ts i)) (b := b + 7) (fbTim hm (gn_ok h (hi i List.mem_cons_self)).1 (by trivial)) (fun j hj => hi j (List.mem_cons_of_mem _ hj))
    exact this.mono (by rw [List.length_cons]; trivial)
theorem along_fbk {k : Nat} (h : ∀ t ∈ ts, TieG t) (hm : Fb b m.1 m.2) (hi : ∀ i ∈ is, i < ts.length) (hl : is.length ≤ 10) : Fb (b + 70) (along ts m (is.take k)).1 (along ts m (is.take k)).2 :=
  (along_fb h hm (is.take k) fun i hi' => hi i (List.mem_of_mem_take hi')).mono (by rw [List.length_take]; trivial)
theorem tie_full {E : Addr → Prop} {H : Hp} {ys : List V} (iq : IsAll E H ys (ts.map tieD)) (hn : i < ts.length) : Ex6 fun a2 x0 x1 om og op => atI ys (i : Int) = some (.ref a2) ∧ H a2 = some (.tup [x0, x1, .ref om, .ref og, .ref op]) ∧ H om = some (fr (mo ts i)) ∧ H og = some (fr (gn ts i)) := by
  have hl := iq.length
  rw [List.length_map] at hl
  have hv : ys[i]? = some ys[i] := List.getElem?_eq_getElem (by trivial)
  have e : ts[i]? = some ts[i] := List.getElem?_eq_getElem hn
  have hd : (ts.map tieD)[i]? = some (tieD ts[i]) := by rw [List.getElem?_map, e]; rfl
  obtain ⟨a, om, og, op, ea, h1, h2, h3, _⟩ := tie_inv2 (iq.nth i hv hd)
  refine ⟨a, _, _, om, og, op, ?_, h1, ?_, ?_⟩
  · rw [atI_nat hv, ea]
  · unfold mo; rw [e]; exact h2
  · unfold gn; rw [e]; exact h3
end
section
variable {P : Program} {w : World} {K : PySem.W.Frag} {mg : Str → Option Value} {base : Heap}
inductive spGainOf_ (vs : List V) (H : Hp) (Q : VK) : Prop
  | mk (v : V) (wa : Addr) (ls : List (List Nat)) (ts : List TieD) (is : List Nat) (h0 : vs = [v, .ref wa]) (h1 : IsD ED H v (netD ls ts)) (h2 : H wa = some (.lst (nts is))) (h3 : is.length ≤ 10) (h4 : (∀ i ∈ is, i < ts.length)) (h5 : (∀ t ∈ ts, TieG t)) (h6 : ∀ o H', Same H H' → H' o = some (fr (along ts (1, 1) is)) → Q (.ref o) H')
def spGainOf : Sp := fun vs H Q _ => spGainOf_  vs H Q
theorem fb11 : Fb 1 (1 : Int) (1 : Int) := Fb.small (by decide) (by decide) (by decide) (by decide)
theorem ok_gain_of (T : Txt K mg) : FnOk P w K mg base CX0 4 T.f_gain_of T.d_gain_of ["net", "way"] spGainOf := by
  have G_times := ok_times (P := P) (w := w) (base := base) T
  refine T.F_gain_of.ok sc_gain_of (fun vs H Q E h => ?_) (fun cdv A outer s H vs Q E hr h => ?_)
  · obtain ⟨v, wa, ls, ts, is, rfl, _⟩ := h
    rfl
  · obtain ⟨v, wa, ls, ts, is, rfl, hv, hw, hl, hi, ht, k⟩ := h
    obtain ⟨na, p, q, ys, rfl, hna, hp, hq, iq⟩ := net_inv2 hv
    refine ⟨_, (@pss_cons _ _ _ _ _ (@ps_set _ _ (2) _ _ _ _ sc_gain_of.nd rfl (Or.inl k_gain_of_gain) (@pe_tupA _ _ _ _ _ (@pa_c _ _ _ _ _ (@pe_int _ _ _ _) (@pa_c _ _ _ _ _ (@pe_int _ _ _ _) (@pa_nil _) rfl) rfl)) (by rfl) (by first | exact .inl rfl | exact .inr rfl | assumption)) (@pss_cons _ _ _ _ _ (@ps_for _ _ _ _ _ _ _ _ PassesOwn.never rfl (@pi_list_k _ (K) _ _ _ (@pw _ 1 _ _ (Or.inl k_gain_of_way) (by rfl) (by decide) (by decide)) (by rfl)) (@pg_name _ _ (3) _ sc_gain_of.nd rfl (Or.inl k_gain_of_number) (by first | exact .inl rfl | exact .inr rfl | assumption)) (@pss_one _ _ _ (@ps_set _ _ (2) _ _ _ _ sc_gain_of.nd rfl (Or.inl k_gain_of_gain) (@pe_call _ _ _ _ _ _ _ _ _ _ _ _ _ _ _ _ G_times (hr.mono (by decide)) k_gain_of_times T.m_times T.F_times.kp T.B_times .nil (@pass0 _) (@pa_c _ _ _ _ _ (@pw _ 2 _ _ (Or.inl k_gain_of_gain) (by rfl) (by decide) (by decide)) (@pa_c _ _ _ _ _ (@pe_ix _ _ _ _ _ _ _ (@ixT_k _ (K) (by rfl)) (@pe_ix _ _ _ _ _ _ _ (@ixT_k _ (K) (by rfl)) (@pe_ix _ _ _ _ _ _ _ (@ixT_k _ (K) (by rfl)) (@pw _ 0 _ _ (Or.inl k_gain_of_net) (by rfl) (by decide) (by decide)) (@pe_int _ _ _ _) (fun _ _ => rfl)) (@pw _ 3 _ _ (Or.inl k_gain_of_number) (by rfl) (by decide) (by decide)) (fun _ _ => rfl)) (@pe_int _ _ _ _) (fun _ _ => rfl)) (@pa_nil _) rfl) rfl) (by decide) (by rfl) (by rfl)) (by rfl) (by first | exact .inl rfl | exact .inr rfl | assumption))) (by intro _; rfl)) (@pss_one _ _ _ (@ps_ret _ _ _ _ (@pw _ 2 _ _ (Or.inl k_gain_of_gain) (by rfl) (by decide) (by decide)))))), ?_⟩
    refine ⟨(by show 2 ≤ 10000; decide), fun o0 H1 n1 => ?_⟩
    refine ⟨_, rfl, wa, rfl, ⟨_, SqL.of (n1.sm _ _ hw)⟩, for_list (xs := nts is) (fun j σ H' => Ex2 fun (o : Addr) (v3 : Option V) => σ = [some (.ref na), some (.ref wa), some (.ref o), v3] ∧ Same H H' ∧ H' o = some (fr (along ts (1, 1) (is.take j)))) ⟨o0, _, rfl, n1.sm, n1.at'⟩ ?_ ?_ ?_⟩
    · rintro j σ H' _ ⟨_, _, _, s, _⟩
      exact SqL.of (s _ _ hw)
    · rintro j x σ H' hx ⟨o, v3, rfl, s, ho⟩
      rw [List.getElem?_map] at hx
      obtain ⟨i, ei, rfl⟩ := Option.map_eq_some_iff.mp hx
      have hi' := hi i (List.mem_of_getElem? ei)
      obtain ⟨a2, x0, x1, om, og, op, ea, ha2, hom, hog⟩ := tie_full iq hi'
      have fa := along_fbk (m := (1, 1)) (k := j) ht fb11 hi hl
      refine ⟨_, rfl, _, rfl, na, _, _, _, rfl, rfl, SqT.of (s _ _ hna), rfl, _, rfl, q, _, _, _, rfl, rfl, SqT.of (s _ _ hq), ea, a2, _, _, _, rfl, rfl, SqT.of (s _ _ ha2), rfl, o, og, _, _, _, _, rfl, ho, s _ _ hog, s4' fa (gn_ok ht hi').1 (by decide) (by decide), fun o2 H2 n2 => ⟨o2, _, rfl, s.trans n2.sm, ?_⟩⟩
      rw [along_at ei]
      exact n2.at'
    · rintro σ H' ⟨o, v3, rfl, s, ho⟩
      have e : is.take (nts is).length = is := by rw [List.length_map, List.take_length]
      rw [e] at ho
      exact ⟨_, rfl, k o H' s ho⟩
inductive spGoesOn_ (vs : List V) (H : Hp) (Q : VK) : Prop
  | mk (v : V) (wa mu : Addr) (ls : List (List Nat)) (ts : List TieD) (is : List Nat) (m : KM.Fra) (h0 : vs = [v, .ref wa, .ref mu]) (h1 : IsD ED H v (netD ls ts)) (h2 : H wa = some (.lst (nts is))) (h3 : H mu = some (fr m)) (h4 : Fb 200 m.1 m.2) (h5 : is.length ≤ 10) (h6 : (∀ i ∈ is, i < ts.length)) (h7 : (∀ t ∈ ts, TieG t)) (h8 : ∀ D xs H', Same H H' → H D = none → H' D = some (.lst xs) → FL 403 H' xs (alongs ts m is is.length) → Q (.ref D) H')
def spGoesOn : Sp := fun vs H Q _ => spGoesOn_  vs H Q
theorem ok_goes_on (T : Txt K mg) : FnOk P w K mg base CX0 4 T.f_goes_on T.d_goes_on ["net", "way", "much"] spGoesOn := by
  have G_times := ok_times (P := P) (w := w) (base := base) T
  refine T.F_goes_on.ok sc_goes_on (fun vs H Q E h => ?_) (fun cdv A outer s H vs Q E hr h => ?_)
  · obtain ⟨v, wa, mu, ls, ts, is, m, rfl, _⟩ := h
    rfl
  · obtain ⟨v, wa, mu, ls, ts, is, m, rfl, hv, hw, hmu, fm, hl, hi, ht, k⟩ := h
    obtain ⟨na, p, q, ys, rfl, hna, hp, hq, iq⟩ := net_inv2 hv
    refine ⟨_, (@pss_cons _ _ _ _ _ (@ps_set _ _ (3) _ _ _ _ sc_goes_on.nd rfl (Or.inl k_goes_on_goes) (@pe_lstA _ _ _ _ (@pa_nil _)) (by rfl) (by first | exact .inl rfl | exact .inr rfl | assumption)) (@pss_cons _ _ _ _ _ (@ps_for _ _ _ _ _ _ _ _ PassesOwn.never rfl (@pi_list_k _ (K) _ _ _ (@pw _ 1 _ _ (Or.inl k_goes_on_way) (by rfl) (by decide) (by decide)) (by rfl)) (@pg_name _ _ (4) _ sc_goes_on.nd rfl (Or.inl k_goes_on_number) (by first | exact .inl rfl | exact .inr rfl | assumption)) (@pss_cons _ _ _ _ _ (@ps_expr _ _ _ _ (@pe_bm_k _ (K) _ _ _ _ _ _ _ _ _ _ _ PySem.F.plainAttrs_list PySem.F.slot_list_append PySem.F.type_list_append (@mt_appendA _) (@pw _ 3 _ _ (Or.inl k_goes_on_goes) (by rfl) (by decide) (by decide)) (@pa_c _ _ _ _ _ (@pw _ 2 _ _ (Or.inl k_goes_on_much) (by rfl) (by decide) (by decide)) (@pa_nil _) rfl) (by rfl) (by rfl) (by rfl) (by rfl) (by rfl) (by rfl)) (by rfl)) (@pss_one _ _ _ (@ps_set _ _ (2) _ _ _ _ sc_goes_on.nd rfl (Or.inl k_goes_on_much) (@pe_call _ _ _ _ _ _ _ _ _ _ _ _ _ _ _ _ G_times (hr.mono (by decide)) k_goes_on_times T.m_times T.F_times.kp T.B_times .nil (@pass0 _) (@pa_c _ _ _ _ _ (@pw _ 2 _ _ (Or.inl k_goes_on_much) (by rfl) (by decide) (by decide)) (@pa_c _ _ _ _ _ (@pe_ix _ _ _ _ _ _ _ (@ixT_k _ (K) (by rfl)) (@pe_ix _ _ _ _ _ _ _ (@ixT_k _ (K) (by rfl)) (@pe_ix _ _ _ _ _ _ _ (@ixT_k _ (K) (by rfl)) (@pw _ 0 _ _ (Or.inl k_goes_on_net) (by rfl) (by decide) (by decide)) (@pe_int _ _ _ _) (fun _ _ => rfl)) (@pw _ 4 _ _ (Or.inl k_goes_on_number) (by rfl) (by decide) (by decide)) (fun _ _ => rfl)) (@pe_int _ _ _ _) (fun _ _ => rfl)) (@pa_nil _) rfl) rfl) (by decide) (by rfl) (by rfl)) (by rfl) (by first | exact .inl rfl | exact .inr rfl | assumption)))) (by intro _; rfl)) (@pss_one _ _ _ (@ps_ret _ _ _ _ (@pw _ 3 _ _ (Or.inl k_goes_on_goes) (by rfl) (by decide) (by decide)))))), ?_⟩
    refine ⟨(by show 0 ≤ 10000; decide), fun D H1 n1 => ?_⟩
    refine ⟨_, rfl, wa, rfl, ⟨_, SqL.of (n1.sm _ _ hw)⟩, for_list (xs := nts is) (fun j σ H' => Ex3 fun (o : Addr) (xs : List V) (v3 : Option V) => σ = [some (.ref na), some (.ref wa), some (.ref o), some (.ref D), v3] ∧ Same H H' ∧ H' o = some (fr (along ts m (is.take j))) ∧ H' D = some (.lst xs) ∧ xs.length = j ∧ FL 403 H' xs (alongs ts m is j)) ⟨mu, [], _, rfl, n1.sm, n1.sm _ _ hmu, n1.at', rfl, ?_⟩ ?_ ?_ ?_⟩
    · exact .nil
    · rintro j σ H' _ ⟨_, _, _, _, s, _⟩
      exact SqL.of (s _ _ hw)
    · rintro j x σ H' hx ⟨o, xs, v3, rfl, s, ho, hD, lx, fl⟩
      rw [List.getElem?_map] at hx
      obtain ⟨i, ei, rfl⟩ := Option.map_eq_some_iff.mp hx
      have hi' := hi i (List.mem_of_getElem? ei)
      have hj : j < is.length := (List.getElem?_eq_some_iff.mp ei).1
      obtain ⟨a2, x0, x1, om, og, op, ea, ha2, hom, hog⟩ := tie_full iq hi'
      have fa := along_fbk (k := j) ht fm hi hl
      refine ⟨_, rfl, .inl ⟨rfl, _, SqL.of hD⟩, _, rfl, D, xs, _, rfl, rfl, hD, by trivial, fun H2 c2 => ?_⟩
      have keep : ∀ a o', H a = some o' → H2 a = some o' := fun a o' e => c2.ol a o' (ne_of_none e n1.fr) (s _ _ e)
      have nDo : o ≠ D := fun z => by rw [z, hD] at ho; cases ho
      refine ⟨_, rfl, _, rfl, na, _, _, _, rfl, rfl, SqT.of (keep _ _ hna), rfl, _, rfl, q, _, _, _, rfl, rfl, SqT.of (keep _ _ hq), ea, a2, _, _, _, rfl, rfl, SqT.of (keep _ _ ha2), rfl, o, og, _, _, _, _, rfl, c2.ol o _ nDo ho, keep _ _ hog, s4' fa (gn_ok ht hi').1 (by decide) (by decide), fun o2 H3 n3 => ⟨o2, _, _, rfl, fun a o' e => n3.sm _ _ (keep a o' e), ?_, n3.sm _ _ c2.at', by rw [List.length_append, lx]; rfl, ?_⟩⟩
      · rw [along_at ei]
        exact n3.at'
      · rw [alongs_succ]
        have tp : ∀ a us, H' a = some (.tup us) → H3 a = some (.tup us) := fun a us e => n3.sm _ _ (c2.tup e hD)
        exact (fl.tup tp).append (.cons (tp _ _ ho) (fa.mono (by decide)) .nil)
    · rintro σ H' ⟨o, xs, v3, rfl, s, ho, hD, lx, fl⟩
      rw [List.length_map] at lx fl
      exact ⟨_, rfl, k D xs H' s n1.fr hD fl⟩
end
end K09
namespace K09
open PySem L2
section
variable {P : Program} {w : World} {K : PySem.W.Frag} {mg : Str → Option Value} {base : Heap}
inductive spLeast_ (K : PySem.W.Frag) (vs : List V) (H : Hp) (Q : VK) : Prop
  | mk (a : Addr) (xs : List V) (ps : List KM.Fra) (h0 : vs = [.ref a]) (h1 : SqL K H a xs) (h2 : FL 403 H xs ps) (h3 : xs.length ≤ 100) (h4 : (gPick false ps).isSome = true) (h5 : ∀ o z H', gPick false ps = some z → Same H H' → H' o = some (fr z) → Q (.ref o) H')
def spLeast (K : PySem.W.Frag) : Sp := fun vs H Q _ => spLeast_ K vs H Q
theorem ok_least (T : Txt K mg) : FnOk P w K mg base CX0 2 T.f_least T.d_least ["parts"] (spLeast K) := by
  have G_compared := ok_compared (P := P) (w := w) (base := base) T
  refine T.F_least.ok sc_least (fun vs H Q E h => ?_) (fun cdv A outer s H vs Q E hr h => ?_)
  · obtain ⟨a, xs, ps, rfl, _⟩ := h
    rfl
  · obtain ⟨a, xs, ps, rfl, hS, hF, hl, hg, k⟩ := h
    refine ⟨_, (@pss_cons _ _ _ _ _ (@ps_set _ _ (1) _ _ _ _ sc_least.nd rfl (Or.inl k_least_best) (@pe_ix _ _ _ _ _ _ _ (@ixL_k _ (K) (by rfl)) (@pw _ 0 _ _ (Or.inl k_least_parts) (by rfl) (by decide) (by decide)) (@pe_int _ _ _ _) (fun _ _ => rfl)) (by rfl) (by first | exact .inl rfl | exact .inr rfl | assumption)) (@pss_cons _ _ _ _ _ (@ps_for _ _ _ _ _ _ _ _ PassesOwn.never rfl (@pi_list_k _ (K) _ _ _ (@pw _ 0 _ _ (Or.inl k_least_parts) (by rfl) (by decide) (by decide)) (by rfl)) (@pg_name _ _ (2) _ sc_least.nd rfl (Or.inl k_least_part) (by first | exact .inl rfl | exact .inr rfl | assumption)) (@pss_one _ _ _ (@ps_if _ _ _ _ _ _ _ _ (@pt_cmpR _ _ _ _ _ _ _ _ (@op_lt _) (@pe_call _ _ _ _ _ _ _ _ _ _ _ _ _ _ _ _ G_compared (hr.mono (by decide)) k_least_compared T.m_compared T.F_compared.kp T.B_compared .nil (@pass0 _) (@pa_c _ _ _ _ _ (@pw _ 2 _ _ (Or.inl k_least_part) (by rfl) (by decide) (by decide)) (@pa_c _ _ _ _ _ (@pw _ 1 _ _ (Or.inl k_least_best) (by rfl) (by decide) (by decide)) (@pa_nil _) rfl) rfl) (by decide) (by rfl) (by rfl)) (@pe_int _ _ _ _) (@nomark _ _ (by decide) (by decide))) (@pss_one _ _ _ (@ps_set _ _ (1) _ _ _ _ sc_least.nd rfl (Or.inl k_least_best) (@pw _ 2 _ _ (Or.inl k_least_part) (by rfl) (by decide) (by decide)) (by rfl) (by first | exact .inl rfl | exact .inr rfl | assumption))) (@pss_nil _))) (by intro _; rfl)) (@pss_one _ _ _ (@ps_ret _ _ _ _ (@pw _ 1 _ _ (Or.inl k_least_best) (by rfl) (by decide) (by decide)))))), ?_⟩
    obtain ⟨p0, e0⟩ : ∃ p0, ps[0]? = some p0 := by
      unfold gPick at hg
      cases h0 : ps[0]? with
      | none => rw [h0] at hg; cases hg
      | some p => exact ⟨p, rfl⟩
    have x0 : ∃ v, xs[0]? = some v := by
      have h1 := hF.length
      have h2 := (List.getElem?_eq_some_iff.mp e0).1
      exact ⟨_, List.getElem?_eq_getElem (show 0 < xs.length by trivial)⟩
    obtain ⟨v0, hv0⟩ := x0
    obtain ⟨o0, p0', rfl, e0', h0, f0⟩ := hF.get hv0
    rw [e0] at e0'
    cases e0'
    refine ⟨_, rfl, a, _, _, _, rfl, rfl, hS, atI_nat (j := 0) hv0, ?_⟩
    refine ⟨_, rfl, a, rfl, ⟨_, hS⟩, for_list (xs := xs) (fun i σ H' => Ex2 fun (o : Addr) (v2 : Option V) => σ = [some (.ref a), some (.ref o), v2] ∧ H' = H ∧ H o = some (fr (KM.pick false p0 (ps.take i)))) ⟨o0, _, rfl, rfl, h0⟩ ?_ ?_ ?_⟩
    · rintro i σ H' _ ⟨_, _, _, rfl, _⟩
      exact hS
    · rintro i x σ H' hx ⟨o, v2, rfl, rfl, ho⟩
      obtain ⟨ox, p, rfl, hp, hpx, fp⟩ := hF.get hx
      have fb := pick_Fb (s := false) f0 (ps.take i) (fun p hp => hF.all p (List.mem_of_mem_take hp))
      obtain ⟨z1, z2, z3, z4, _⟩ := s4' fp fb (by decide) (by decide)
      refine ⟨_, rfl, _, rfl, ox, o, _, _, _, _, rfl, hpx, ho, z1, z2, z3, z4, _, _, rfl, rfl, _, rfl, ?_⟩
      have key : decide (cmpI (p.1 * (KM.pick false p0 (ps.take i)).2) ((KM.pick false p0 (ps.take i)).1 * p.2) < 0) = KM.bt false p (KM.pick false p0 (ps.take i)) := by
        rw [cmp_neg]; rfl
      rw [key]
      have sn := pick_snoc false p0 p (ps.take i)
      cases hbt : KM.bt false p (KM.pick false p0 (ps.take i)) with
      | true =>
        rw [hbt, if_pos rfl] at sn
        exact iteT ⟨_, rfl, ox, _, rfl, rfl, by rw [ptake hp, sn]; exact hpx⟩
      | false =>
        rw [hbt, if_neg (by decide)] at sn
        exact iteF ⟨o, _, rfl, rfl, by rw [ptake hp, sn]; exact ho⟩
    · rintro σ H' ⟨o, v2, rfl, rfl, ho⟩
      rw [hF.length, List.take_length] at ho
      exact ⟨_, rfl, k o _ _ (by unfold gPick; rw [e0]; rfl) (Same.refl _) ho⟩
end
end K09
namespace K09
open PySem L2
section
variable {K : PySem.W.Frag} {a a1 a2 D : Addr} {H1 : Hp} {σc : St} {g : TG} {te : TE} {tt : TT} {Q : VK} {xs ys : List V}
theorem comp_frJ {J : It} {n c : Nat} (F : Nat → KM.Fra) (hz : n ≤ 10000) (hD : H1 D = none) (hgo : ∀ i H', i < n → Same H1 H' → J.go i H') (hst : ∀ H', Same H1 H' → J.stop n H')
    (hs : ∀ i x H' H'' (R : VK), i < n → Same H1 H' → J.yld i H' x H'' → (∀ o H4, Same H' H4 → H4 o = some (fr (F i)) → R (.ref o) H4) → g x σc H'' fun σ2 H2 => Back σc σ2 ∧ te σ2 H2 R)
    (hf : ∀ i, i < n → Fb c (F i).1 (F i).2)
    (hd : ∀ zs H', Same H1 H' → H' D = some (.lst zs) → FL c H' zs ((List.range n).map F) → Q (.ref D) H') : CompW J σc g tT te D H1 Q := by
  refine comp_each (n := n) (fun i H' zs => H' D = some (.lst zs) ∧ FL c H' zs ((List.range i).map F) ∧ Same H1 H') (sz_of hz) ⟨upd_same, .nil, same_lst hD (Same.refl _)⟩ ?_ ?_ ?_ ?_ ?_
  · rintro i H' zs ⟨q, fl, _⟩
    exact ⟨q, by rw [fl.length]; simp⟩
  · rintro i H' zs hi ⟨_, _, sm⟩
    exact hgo i H' hi sm
  · rintro H' zs ⟨_, _, sm⟩
    exact hst H' sm
  · rintro i H' zs x H'' hi ⟨q, fl, sm⟩ y
    refine hs i x H' H'' _ hi sm y fun o H4 s4 ho => ⟨s4 _ _ q, upd_same, ?_, same_lst hD (sm.trans s4)⟩
    have tp : ∀ a us, H4 a = some (.tup us) → upd H4 D (.lst (zs ++ [.ref o])) a = some (.tup us) := fun a us e => by
      rw [upd_ne (ne_of e (s4 _ _ q) (by intro z; cases z))]; exact e
    rw [← map_range_snoc F i]
    exact ((fl.sm s4).tup tp).append (.cons (tp _ _ ho) (hf i hi) .nil)
  · rintro H' zs ⟨q, fl, sm⟩
    exact hd zs H' sm q fl
theorem comp_frZ {c1 c2 : Bool} {j1 j2 c : Nat} (F : Nat → KM.Fra) (hz : min xs.length ys.length ≤ 10000) (hD : H1 D = none) (h1 : ∀ H', Same H1 H' → SqC K H' a1 xs c1) (h2 : ∀ H', Same H1 H' → SqC K H' a2 ys c2)
    (hs : ∀ i x y H' (R : VK), xs[i]? = some x → ys[i]? = some y → Same H1 H' → (∀ o H4, Same H' H4 → H4 o = some (fr (F i)) → R (.ref o) H4) → (fun σ2 H2 => Back σc σ2 ∧ te σ2 H2 R) ((σc.set j1 (some x)).set j2 (some y)) H')
    (hf : ∀ i, i < min xs.length ys.length → Fb c (F i).1 (F i).2)
    (hd : ∀ zs H', Same H1 H' → H' D = some (.lst zs) → FL c H' zs ((List.range (min xs.length ys.length)).map F) → Q (.ref D) H') : CompW (Itz K a1 a2 c1 c2) σc (gTup K 2 (gCons (gName j1) (gCons (gName j2) gNil))) tT te D H1 Q := by
  refine comp_frJ (n := min xs.length ys.length) F hz hD (fun i H' hi sm => ⟨xs, ys, xs[i]'(by trivial), ys[i]'(by trivial), h1 H' sm, h2 H' sm, by rw [List.getElem?_eq_getElem (by trivial)], by rw [List.getElem?_eq_getElem (by trivial)]⟩) (fun H' sm => ⟨xs, ys, h1 H' sm, h2 H' sm, by trivial⟩) ?_ hf hd
  rintro i v H' H'' R hi sm ⟨T, x, y, hT, rfl, rfl, e1, e2⟩ k
  have st := Same.new (o := .tup [x, y]) hT
  exact ⟨T, _, rfl, SqT.of upd_same, rfl, _, _, rfl, _, _, rfl, rfl, hs i x y _ R (e1 _ (h1 H' sm)) (e2 _ (h2 H' sm)) (sm.trans st) fun o H4 s4 => k o H4 (st.trans s4)⟩
end
def lOvr (p q : KM.Fra) : KM.Fra := KM.low (p.1 * q.2) (p.2 * q.1)
def roomAt (ts : List TieD) (is : List Nat) (j : Nat) : KM.Fra := lOvr (mo ts ((is[j]?).getD 0)) (along ts (1, 1) (is.take j))
def rooms (ts : List TieD) (is : List Nat) : List KM.Fra := (List.range is.length).map (roomAt ts is)
theorem le_vl {p m : KM.Fra} (hp : KM.Rd p) (hm : KM.Rd m) : p.1 * m.2 ≤ m.1 * p.2 ↔ KM.vl p ≤ KM.vl m := by
  rw [Rat.le_iff_sub_nonneg]
  unfold KM.vl
  rw [Rat.divInt_sub_divInt _ _ hm.nz hp.nz, Rat.divInt_nonneg_iff_of_pos_right (Int.mul_pos (by have := hm.1; trivial) (by have := hp.1; trivial))]
  trivial
theorem vl_le0 {p : KM.Fra} (hp : KM.Rd p) : KM.vl p ≤ 0 ↔ p.1 ≤ 0 := by
  rw [← KM.vl_zero, ← le_vl hp KM.Rd.zero]
  simp
theorem vl_pos {p : KM.Fra} (hp : KM.Rd p) : 0 < KM.vl p ↔ 1 ≤ p.1 := by
  rw [← Rat.not_le, vl_le0 hp]
  trivial
theorem vl_nn9 {p : KM.Fra} (hp : KM.Rd p) : 0 ≤ KM.vl p ↔ 0 ≤ p.1 := Rat.divInt_nonneg_iff_of_pos_right (by have := hp.1; trivial)
theorem rd_one : KM.Rd (1, 1) := ⟨by decide, by decide⟩
theorem vl_one : KM.vl (1, 1) = 1 := by
  unfold KM.vl
  exact Rat.divInt_self' (by decide)
theorem vl_ovr {p q : KM.Fra} (hp : KM.Rd p) (hq : KM.Rd q) (h : 1 ≤ q.1) : KM.Rd (lOvr p q) ∧ KM.vl (lOvr p q) * KM.vl q = KM.vl p := by
  have n1 : p.2 * q.1 ≠ 0 := KM.mul_nz hp.nz (by trivial)
  refine ⟨KM.Rd.low n1, ?_⟩
  unfold lOvr
  rw [KM.vl_low n1]
  unfold KM.vl
  rw [Rat.divInt_mul_divInt]
  refine (Rat.divInt_eq_divInt_iff (KM.mul_nz n1 hq.nz) hp.nz).mpr ?_
  ac_rfl
section
variable {ts : List TieD} (h : ∀ t ∈ ts, TieG t)
include h
theorem gn_rd {i : Nat} (hi : i < ts.length) : KM.Rd (gn ts i) ∧ 0 < KM.vl (gn ts i) := by
  have g := gn_ok h hi
  have r : KM.Rd (gn ts i) := ⟨g.1.pos, g.1.co⟩
  exact ⟨r, (vl_pos r).mpr g.2⟩
theorem along_vl : ∀ (is : List Nat) {m : KM.Fra}, KM.Rd m → (∀ i ∈ is, i < ts.length) → KM.Rd (along ts m is) ∧ KM.vl (along ts m is) = KM.vl m * KM.vl (along ts (1, 1) is) ∧ 0 < KM.vl (along ts (1, 1) is) := by
  intro is
  induction is with
  | nil =>
    intro m hm _
    refine ⟨hm, ?_, ?_⟩
    · show KM.vl m = KM.vl m * KM.vl (1, 1)
      rw [vl_one]; grind
    · show 0 < KM.vl (1, 1)
      rw [vl_one]; decide
  | cons i r ih =>
    intro m hm hi
    have g := gn_rd h (hi i List.mem_cons_self)
    have hr : ∀ j ∈ r, j < ts.length := fun j hj => hi j (List.mem_cons_of_mem _ hj)
    obtain ⟨a1, a2, a3⟩ := ih (KM.Rd.tim hm g.1) hr
    obtain ⟨_, b2, _⟩ := ih (KM.Rd.tim rd_one g.1) hr
    rw [KM.vl_tim hm.nz g.1.nz] at a2
    rw [KM.vl_tim rd_one.nz g.1.nz, vl_one] at b2
    have b2' : KM.vl (along ts (1, 1) (i :: r)) = 1 * KM.vl (gn ts i) * KM.vl (along ts (1, 1) r) := b2
    refine ⟨a1, ?_, ?_⟩
    · rw [b2']
      show KM.vl (along ts (KM.lTim m (gn ts i)) r) = _
      rw [a2]; grind
    · rw [b2']
      have := Rat.mul_pos g.2 a3
      grind
end
def fitsB (ts : List TieD) (m : KM.Fra) (is : List Nat) (k : Nat) : Bool := (List.range k).all fun j => decide ((along ts m (is.take j)).1 * (mo ts ((is[j]?).getD 0)).2 ≤ (mo ts ((is[j]?).getD 0)).1 * (along ts m (is.take j)).2)
section
variable {ts : List TieD} {is : List Nat} {z : KM.Fra}
theorem room_facts (h : ∀ t ∈ ts, TieG t) (hi : ∀ i ∈ is, i < ts.length) (hz : gPick false (rooms ts is) = some z) :
    KM.Rd z ∧ 0 ≤ z.1 ∧ fitsB ts z is is.length = true ∧ (∃ j, j < is.length ∧ along ts z (is.take j) = mo ts ((is[j]?).getD 0)) ∧ ∀ e : KM.Fra, KM.Rd e → 1 ≤ e.1 → fitsB ts (KM.ladd z e) is is.length = false := by
  have at' : ∀ j, j < is.length → ∃ i, is[j]? = some i ∧ i < ts.length := fun j hj => ⟨_, List.getElem?_eq_getElem hj, hi _ (List.getElem_mem hj)⟩
  have sub : ∀ j, ∀ i ∈ is.take j, i < ts.length := fun j i hm => hi i (List.mem_of_mem_take hm)
  have rmo : ∀ j, j < is.length → KM.Rd (mo ts ((is[j]?).getD 0)) ∧ 0 ≤ KM.vl (mo ts ((is[j]?).getD 0)) := fun j hj => by
    obtain ⟨i, e, hlt⟩ := at' j hj
    rw [e]
    have g := mo_ok h hlt
    have r : KM.Rd (mo ts i) := ⟨g.1.pos, g.1.co⟩
    exact ⟨r, (vl_nn9 r).mpr g.2⟩
  have ral : ∀ j, KM.Rd (along ts (1, 1) (is.take j)) ∧ 0 < KM.vl (along ts (1, 1) (is.take j)) := fun j => ⟨(along_vl h (is.take j) rd_one (sub j)).1, (along_vl h (is.take j) rd_one (sub j)).2.2⟩
  have rrm : ∀ j, j < is.length → KM.Rd (roomAt ts is j) ∧ KM.vl (roomAt ts is j) * KM.vl (along ts (1, 1) (is.take j)) = KM.vl (mo ts ((is[j]?).getD 0)) := fun j hj => vl_ovr (rmo j hj).1 (ral j).1 ((vl_pos (ral j).1).mp (ral j).2)
  have mem : ∀ p ∈ rooms ts is, ∃ j, j < is.length ∧ p = roomAt ts is j := fun p hp => by
    obtain ⟨j, hj, e⟩ := List.mem_map.mp hp
    exact ⟨j, List.mem_range.mp hj, e.symm⟩
  have all : ∀ p ∈ rooms ts is, KM.Rd p := fun p hp => by
    obtain ⟨j, hj, rfl⟩ := mem p hp
    exact (rrm j hj).1
  obtain ⟨zm, zl⟩ : z ∈ rooms ts is ∧ ∀ p ∈ rooms ts is, KM.wk false p z := by
    unfold gPick at hz
    obtain ⟨p0, e0, ez⟩ := Option.map_eq_some_iff.mp hz
    cases hr : rooms ts is with
    | nil => rw [hr] at e0; cases e0
    | cons q r =>
      rw [hr] at e0 ez all
      cases e0
      rw [← ez]
      exact KM.pick_all all
  obtain ⟨j0, hj0, ez⟩ := mem z zm
  have rz : KM.Rd z := all z zm
  have leq : ∀ j, j < is.length → KM.vl z ≤ KM.vl (roomAt ts is j) := fun j hj => by
    have := zl (roomAt ts is j) (List.mem_map.mpr ⟨j, List.mem_range.mpr hj, rfl⟩)
    exact (le_vl rz (rrm j hj).1).mp this
  have az : ∀ (m : KM.Fra), KM.Rd m → ∀ j, KM.Rd (along ts m (is.take j)) ∧ KM.vl (along ts m (is.take j)) = KM.vl m * KM.vl (along ts (1, 1) (is.take j)) := fun m hm j => ⟨(along_vl h (is.take j) hm (sub j)).1, (along_vl h (is.take j) hm (sub j)).2.1⟩
  have full : KM.vl (along ts z (is.take j0)) = KM.vl (mo ts ((is[j0]?).getD 0)) := by
    rw [(az z rz j0).2, ← (rrm j0 hj0).2, ez]
  refine ⟨rz, ?_, ?_, ⟨j0, hj0, KM.Rd.eq (az z rz j0).1 (rmo j0 hj0).1 full⟩, fun e re e1 => ?_⟩
  · refine (vl_nn9 rz).mp ?_
    have a := (rrm j0 hj0).2
    have b := (rmo j0 hj0).2
    have c := (ral j0).2
    rw [← ez] at a
    rw [← a] at b
    rcases (Rat.le_total (a := KM.vl z) (b := 0)) with q | q
    · have d := Rat.mul_le_mul_of_nonneg_right q (Rat.le_of_lt c)
      have : KM.vl z * KM.vl (along ts (1, 1) (is.take j0)) = 0 := by grind
      rcases Rat.mul_eq_zero.mp this with q' | q' <;> grind
    · exact q
  · unfold fitsB
    rw [List.all_eq_true]
    intro j hj
    have hj := List.mem_range.mp hj
    rw [decide_eq_true_iff, le_vl (az z rz j).1 (rmo j hj).1, (az z rz j).2, ← (rrm j hj).2]
    exact Rat.mul_le_mul_of_nonneg_right (leq j hj) (Rat.le_of_lt (ral j).2)
  · rw [Bool.eq_false_iff]
    intro hf
    unfold fitsB at hf
    rw [List.all_eq_true] at hf
    have hq := hf j0 (List.mem_range.mpr hj0)
    have rs := KM.Rd.add rz re
    rw [decide_eq_true_iff, le_vl (az _ rs j0).1 (rmo j0 hj0).1, (az _ rs j0).2, KM.vl_add rz.nz re.nz, ← full, (az z rz j0).2] at hq
    have c := (ral j0).2
    have d := Rat.mul_pos ((vl_pos re).mpr e1) c
    grind
end
end K09
namespace K09
open PySem L2
theorem room_fb {ts : List TieD} {is : List Nat} {j : Nat} (h : ∀ t ∈ ts, TieG t) (hi : ∀ i ∈ is, i < ts.length) (hl : is.length ≤ 10) (hj : j < is.length) : Fb 100 (roomAt ts is j).1 (roomAt ts is j).2 := by
  have e : is[j]? = some is[j] := List.getElem?_eq_getElem hj
  have g := (mo_ok h (hi _ (List.getElem_mem hj))).1
  have a := along_fbk (m := (1, 1)) (k := j) h fb11 hi hl
  have r := (along_vl h (is.take j) rd_one fun i hm => hi i (List.mem_of_mem_take hm))
  have p := (vl_pos r.1).mp r.2.2
  unfold roomAt lOvr
  rw [e, Option.getD_some]
  exact .low ((g.sn.mul a.sd).mono (by decide)) ((g.sd.mul a.sn).mono (by decide)) (KM.mul_nz (by have := g.pos; trivial) (by trivial))
theorem room_fbz {ts : List TieD} {is : List Nat} {z : KM.Fra} (h : ∀ t ∈ ts, TieG t) (hi : ∀ i ∈ is, i < ts.length) (hl : is.length ≤ 10) (hz : gPick false (rooms ts is) = some z) : Fb 100 z.1 z.2 := by
  obtain ⟨_, _, _, ⟨j, hj, _⟩, _⟩ := room_facts h hi hz
  have all : ∀ p ∈ rooms ts is, Fb 100 p.1 p.2 := fun p hp => by
    obtain ⟨j, hj, rfl⟩ := List.mem_map.mp hp
    exact room_fb h hi hl (List.mem_range.mp hj)
  unfold gPick at hz
  obtain ⟨p0, e0, ez⟩ := Option.map_eq_some_iff.mp hz
  rw [← ez]
  exact pick_Fb (all p0 (List.mem_of_getElem? e0)) _ all
section
variable {P : Program} {w : World} {K : PySem.W.Frag} {mg : Str → Option Value} {base : Heap}
inductive spRoom_ (vs : List V) (H : Hp) (Q : VK) : Prop
  | mk (v : V) (wa : Addr) (ls : List (List Nat)) (ts : List TieD) (is : List Nat) (h0 : vs = [v, .ref wa]) (h1 : IsD ED H v (netD ls ts)) (h2 : H wa = some (.lst (nts is))) (h3 : 1 ≤ is.length) (h4 : is.length ≤ 10) (h5 : (∀ i ∈ is, i < ts.length)) (h6 : (∀ t ∈ ts, TieG t)) (h7 : ∀ o z H', gPick false (rooms ts is) = some z → Same H H' → H' o = some (fr z) → Q (.ref o) H')
def spRoom : Sp := fun vs H Q _ => spRoom_  vs H Q
theorem ok_room_of (T : Txt K mg) : FnOk P w K mg base CX0 6 T.f_room_of T.d_room_of ["net", "way"] spRoom := by
  have G_goes_on := ok_goes_on (P := P) (w := w) (base := base) T
  have G_least := ok_least (P := P) (w := w) (base := base) T
  have G_over := ok_over (P := P) (w := w) (base := base) T
  refine T.F_room_of.ok sc_room_of (fun vs H Q E h => ?_) (fun cdv A outer s H vs Q E hr h => ?_)
  · obtain ⟨v, wa, ls, ts, is, rfl, _⟩ := h
    rfl
  · obtain ⟨v, wa, ls, ts, is, rfl, hv, hw, hl1, hl, hi, ht, k⟩ := h
    obtain ⟨na, p, q, ys, rfl, hna, hp, hq, iq⟩ := net_inv2 hv
    refine ⟨_, (@pss_cons _ _ _ _ _ (@ps_set _ _ (2) _ _ _ _ sc_room_of.nd rfl (Or.inl k_room_of_shares) (@pe_call _ _ _ _ _ _ _ _ _ _ _ _ _ _ _ _ G_goes_on (hr.mono (by decide)) k_room_of_goes_on T.m_goes_on T.F_goes_on.kp T.B_goes_on .nil (@pass0 _) (@pa_c _ _ _ _ _ (@pw _ 0 _ _ (Or.inr (Or.inl k_room_of_net)) (by rfl) (by decide) (by decide)) (@pa_c _ _ _ _ _ (@pw _ 1 _ _ (Or.inl k_room_of_way) (by rfl) (by decide) (by decide)) (@pa_c _ _ _ _ _ (@pe_tupA _ _ _ _ _ (@pa_c _ _ _ _ _ (@pe_int _ _ _ _) (@pa_c _ _ _ _ _ (@pe_int _ _ _ _) (@pa_nil _) rfl) rfl)) (@pa_nil _) rfl) rfl) rfl) (by decide) (by rfl) (by rfl)) (by rfl) (by first | exact .inl rfl | exact .inr rfl | assumption)) (@pss_one _ _ _ (@ps_ret _ _ _ _ (@pe_call _ _ _ _ _ _ _ _ _ _ _ _ _ _ _ _ G_least (hr.mono (by decide)) k_room_of_least T.m_least T.F_least.kp T.B_least .nil (@pass0 _) (@pa_c _ _ _ _ _ (@pe_comp _ _ _ _ _ _ _ (["number", "share", "net"]) (2) ([0]) _ _ _ _ rfl (by kernel_rfl) (@pi_zip_k _ (K) _ _ _ _ _ _ _ _ k_room_of_zip T.b_zip (@pa_c _ _ _ _ _ (@pw _ 1 _ _ (Or.inl k_room_of_way) (by rfl) (by decide) (by decide)) (@pa_c _ _ _ _ _ (@pw _ 2 _ _ (Or.inl k_room_of_shares) (by rfl) (by decide) (by decide)) (@pa_nil _) rfl) rfl) (by rfl) (by rfl) (by rfl)) (fun _ _ _ _ _ _ => (@pg_tup_k _ (K) _ _ _ _ (2) rfl (@pgs_cons _ _ _ _ _ (@pg_name _ _ (0) _ (@nodupS _ (by kernel_rfl)) rfl (Or.inl (by kernel_rfl)) (by first | exact .inl rfl | exact .inr rfl | assumption)) (@pgs_cons _ _ _ _ _ (@pg_name _ _ (1) _ (@nodupS _ (by kernel_rfl)) rfl (Or.inl (by kernel_rfl)) (by first | exact .inl rfl | exact .inr rfl | assumption)) (@pgs_nil _) (by rfl)) (by rfl)) (by rfl) (by rfl) (by rfl))) (fun _ _ _ _ _ _ => @pifs_nil _) (fun _ _ _ _ _ _ => (@pe_call _ _ _ _ _ _ _ _ _ _ _ _ _ _ _ _ G_over (hr.mono (by decide)) (by show _ = _; kernel_rfl) T.m_over T.F_over.kp T.B_over .nil (@pass0 _) (@pa_c _ _ _ _ _ (@pe_ix _ _ _ _ _ _ _ (@ixT_k _ (K) (by rfl)) (@pe_ix _ _ _ _ _ _ _ (@ixT_k _ (K) (by rfl)) (@pe_ix _ _ _ _ _ _ _ (@ixT_k _ (K) (by rfl)) (@pw _ 2 _ _ (Or.inr (Or.inl (by kernel_rfl))) (by rfl) (by decide) (by decide)) (@pe_int _ _ _ _) (fun _ _ => rfl)) (@pw _ 0 _ _ (Or.inl (by kernel_rfl)) (by rfl) (by decide) (by decide)) (fun _ _ => rfl)) (@pe_int _ _ _ _) (fun _ _ => rfl)) (@pa_c _ _ _ _ _ (@pw _ 1 _ _ (Or.inl (by kernel_rfl)) (by rfl) (by decide) (by decide)) (@pa_nil _) rfl) rfl) (by decide) (by rfl) (by rfl))) (by intro _; rfl)) (@pa_nil _) rfl) (by decide) (by rfl) (by rfl))))), ?_⟩
    refine ⟨_, rfl, _, rfl, (by show 2 ≤ 10000; decide), fun o0 H1 n1 => ⟨.ref na, wa, o0, ls, ts, is, (1, 1), rfl, hv.sm n1.sm, n1.sm _ _ hw, n1.at', fb11.mono (by decide), hl, hi, ht, fun D xs H2 s2 fD hD fl => ?_⟩⟩
    have s02 := n1.sm.trans s2
    have lx : xs.length = is.length := by rw [fl.length, alongs, List.length_map, List.length_range]
    refine ⟨_, rfl, _, rfl, wa, D, true, true, rfl, ⟨_, SqL.of (s02 _ _ hw)⟩, ⟨_, SqL.of hD⟩, fun D2 hD2 => comp_frZ (xs := nts is) (ys := xs) (c := 403) (roomAt ts is) (by rw [List.length_map]; trivial) hD2 (fun H' sm => SqL.of (sm _ _ (s02 _ _ hw))) (fun H' sm => SqL.of (sm _ _ hD)) ?_ ?_ ?_⟩
    · intro j x y H' R hx hy sm kk
      rw [List.getElem?_map] at hx
      obtain ⟨i, ei, rfl⟩ := Option.map_eq_some_iff.mp hx
      have hi' := hi i (List.mem_of_getElem? ei)
      have hj : j < is.length := (List.getElem?_eq_some_iff.mp ei).1
      obtain ⟨a2, x0, x1, om, og, op, ea, ha2, hom, hog⟩ := tie_full iq hi'
      obtain ⟨os, ps, rfl, eps, hos, fos⟩ := fl.get hy
      have eps' : ps = along ts (1, 1) (is.take j) := by
        rw [alongs, List.getElem?_map, List.getElem?_range hj] at eps
        exact (Option.some.inj eps).symm
      subst eps'
      have sn := s02.trans sm
      have r := along_vl ht (is.take j) rd_one fun i hm => hi i (List.mem_of_mem_take hm)
      have pp := (vl_pos r.1).mp r.2.2
      have s4 := s4' (mo_ok ht hi').1 fos (by decide) (by decide)
      have z1 := (mo_ok ht hi').1.pos
      have nz : (mo ts i).2 * (along ts (1, 1) (is.take j)).1 ≠ 0 := KM.mul_nz (by trivial) (by trivial)
      refine ⟨back2, _, rfl, na, _, _, _, rfl, rfl, SqT.of (sn _ _ hna), rfl, _, rfl, q, _, _, _, rfl, rfl, SqT.of (sn _ _ hq), ea, a2, _, _, _, rfl, rfl, SqT.of (sn _ _ ha2), rfl, _, rfl, om, os, _, _, _, _, rfl, sn _ _ hom, sm _ _ hos, ⟨s4.1, s4.2.1, s4.2.2.1, s4.2.2.2.1, nz⟩, fun o2 H3 n3 => kk o2 H3 n3.sm ?_⟩
      have e : roomAt ts is j = lOvr (mo ts i) (along ts (1, 1) (is.take j)) := by unfold roomAt; rw [ei]; rfl
      rw [e]
      exact n3.at'
    · intro j hj
      rw [List.length_map] at hj
      exact (room_fb ht hi hl (by trivial)).mono (by decide)
    · intro zs H3 s3 hD3 fz
      have e : min (nts is).length xs.length = is.length := by rw [List.length_map]; trivial
      rw [e] at fz
      have lz : zs.length = is.length := by rw [fz.length, List.length_map, List.length_range]
      have hg : (gPick false (rooms ts is)).isSome = true := by
        unfold gPick rooms
        rw [List.getElem?_map, List.getElem?_range (by trivial)]
        rfl
      exact ⟨D2, zs, rooms ts is, rfl, SqL.of hD3, fz, by trivial, hg, fun o z H4 ez s4 ho => k o z H4 ez ((s02.trans s3).trans s4) ho⟩
theorem fits_succ {ts : List TieD} {m : KM.Fra} {is : List Nat} {k i : Nat} (e : is[k]? = some i) : fitsB ts m is (k + 1) = (fitsB ts m is k && decide ((along ts m (is.take k)).1 * (mo ts i).2 ≤ (mo ts i).1 * (along ts m (is.take k)).2)) := by
  unfold fitsB
  rw [List.range_succ, List.all_append]
  simp only [List.all_cons, List.all_nil, Bool.and_true, e, Option.getD_some]
inductive spAllIn_ (vs : List V) (H : Hp) (Q : VK) : Prop
  | mk (v : V) (wa mu : Addr) (ls : List (List Nat)) (ts : List TieD) (is : List Nat) (m : KM.Fra) (h0 : vs = [v, .ref wa, .ref mu]) (h1 : IsD ED H v (netD ls ts)) (h2 : H wa = some (.lst (nts is))) (h3 : H mu = some (fr m)) (h4 : Fb 200 m.1 m.2) (h5 : is.length ≤ 10) (h6 : (∀ i ∈ is, i < ts.length)) (h7 : (∀ t ∈ ts, TieG t)) (h8 : ∀ o D xs H', Same H H' → H' o = some (.tup [.ref D, .bl (fitsB ts m is is.length)]) → H D = none → H' D = some (.lst xs) → FL 403 H' xs (alongs ts m is is.length) → Q (.ref o) H')
def spAllIn : Sp := fun vs H Q _ => spAllIn_  vs H Q
theorem ok_all_in (T : Txt K mg) : FnOk P w K mg base CX0 4 T.f_l_all_in T.d_l_all_in ["_law_net", "_law_way", "_law_much"] spAllIn := by
  have G_l_product := ok_product (P := P) (w := w) (base := base) T
  refine T.F_l_all_in.ok sc_l_all_in (fun vs H Q E h => ?_) (fun cdv A outer s H vs Q E hr h => ?_)
  · obtain ⟨v, wa, mu, ls, ts, is, m, rfl, _⟩ := h
    rfl
  · obtain ⟨v, wa, mu, ls, ts, is, m, rfl, hv, hw, hmu, fm, hl, hi, ht, k⟩ := h
    obtain ⟨na, p, q, ys, rfl, hna, hp, hq, iq⟩ := net_inv2 hv
    refine ⟨_, (@pss_cons _ _ _ _ _ (@ps_par _ _ (3) (4) _ _ _ _ _ _ _ _ _ _ _ rfl sc_l_all_in.nd rfl rfl (by decide) k_l_all_in_l_found k_l_all_in_l_fits (@pa_c _ _ _ _ _ (@pe_lstA _ _ _ _ (@pa_nil _)) (@pa_c _ _ _ _ _ (@pe_bl _ _ _ _) (@pa_nil _) rfl) rfl) (by kernel_rfl) (by rfl)) (@pss_cons _ _ _ _ _ (@ps_for _ _ _ _ _ _ _ _ PassesOwn.never rfl (@pi_list_k _ (K) _ _ _ (@pw _ 1 _ _ (Or.inl k_l_all_in_l_way) (by rfl) (by decide) (by decide)) (by rfl)) (@pg_name _ _ (5) _ sc_l_all_in.nd rfl (Or.inl k_l_all_in_l_number) (by first | exact .inl rfl | exact .inr rfl | assumption)) (@pss_cons _ _ _ _ _ (@ps_expr _ _ _ _ (@pe_bm_k _ (K) _ _ _ _ _ _ _ _ _ _ _ PySem.F.plainAttrs_list PySem.F.slot_list_append PySem.F.type_list_append (@mt_appendA _) (@pw _ 3 _ _ (Or.inl k_l_all_in_l_found) (by rfl) (by decide) (by decide)) (@pa_c _ _ _ _ _ (@pw _ 2 _ _ (Or.inl k_l_all_in_l_much) (by rfl) (by decide) (by decide)) (@pa_nil _) rfl) (by rfl) (by rfl) (by rfl) (by rfl) (by rfl) (by rfl)) (by rfl)) (@pss_cons _ _ _ _ _ (@ps_set _ _ (6) _ _ _ _ sc_l_all_in.nd rfl (Or.inl k_l_all_in_l_top) (@pe_ix _ _ _ _ _ _ _ (@ixT_k _ (K) (by rfl)) (@pe_ix _ _ _ _ _ _ _ (@ixT_k _ (K) (by rfl)) (@pe_ix _ _ _ _ _ _ _ (@ixT_k _ (K) (by rfl)) (@pw _ 0 _ _ (Or.inl k_l_all_in_l_net) (by rfl) (by decide) (by decide)) (@pe_int _ _ _ _) (fun _ _ => rfl)) (@pw _ 5 _ _ (Or.inl k_l_all_in_l_number) (by rfl) (by decide) (by decide)) (fun _ _ => rfl)) (@pe_int _ _ _ _) (fun _ _ => rfl)) (by rfl) (by first | exact .inl rfl | exact .inr rfl | assumption)) (@pss_cons _ _ _ _ _ (@ps_set _ _ (4) _ _ _ _ sc_l_all_in.nd rfl (Or.inl k_l_all_in_l_fits) (@pe_and _ _ _ _ _ _ _ (@pw _ 4 _ _ (Or.inl k_l_all_in_l_fits) (by rfl) (by decide) (by decide)) (@pe_one _ _ _ _ _ (@pe_cmpR _ _ _ _ _ _ _ _ (@op_le _) (@pe_op _ _ _ _ _ _ _ _ (@op_mulB _) (@pe_ix _ _ _ _ _ _ _ (@ixT_k _ (K) (by rfl)) (@pw _ 2 _ _ (Or.inl k_l_all_in_l_much) (by rfl) (by decide) (by decide)) (@pe_int _ _ _ _) (fun _ _ => rfl)) (@pe_ix _ _ _ _ _ _ _ (@ixT_k _ (K) (by rfl)) (@pw _ 6 _ _ (Or.inl k_l_all_in_l_top) (by rfl) (by decide) (by decide)) (@pe_int _ _ _ _) (fun _ _ => rfl))) (@pe_op _ _ _ _ _ _ _ _ (@op_mulB _) (@pe_ix _ _ _ _ _ _ _ (@ixT_k _ (K) (by rfl)) (@pw _ 6 _ _ (Or.inl k_l_all_in_l_top) (by rfl) (by decide) (by decide)) (@pe_int _ _ _ _) (fun _ _ => rfl)) (@pe_ix _ _ _ _ _ _ _ (@ixT_k _ (K) (by rfl)) (@pw _ 2 _ _ (Or.inl k_l_all_in_l_much) (by rfl) (by decide) (by decide)) (@pe_int _ _ _ _) (fun _ _ => rfl))) (@nomark _ _ (by decide) (by decide))))) (by rfl) (by first | exact .inl rfl | exact .inr rfl | assumption)) (@pss_one _ _ _ (@ps_set _ _ (2) _ _ _ _ sc_l_all_in.nd rfl (Or.inl k_l_all_in_l_much) (@pe_call _ _ _ _ _ _ _ _ _ _ _ _ _ _ _ _ G_l_product (hr.mono (by decide)) k_l_all_in_l_product T.m_l_product T.F_l_product.kp T.B_l_product .nil (@pass0 _) (@pa_c _ _ _ _ _ (@pw _ 2 _ _ (Or.inl k_l_all_in_l_much) (by rfl) (by decide) (by decide)) (@pa_c _ _ _ _ _ (@pe_ix _ _ _ _ _ _ _ (@ixT_k _ (K) (by rfl)) (@pe_ix _ _ _ _ _ _ _ (@ixT_k _ (K) (by rfl)) (@pe_ix _ _ _ _ _ _ _ (@ixT_k _ (K) (by rfl)) (@pw _ 0 _ _ (Or.inl k_l_all_in_l_net) (by rfl) (by decide) (by decide)) (@pe_int _ _ _ _) (fun _ _ => rfl)) (@pw _ 5 _ _ (Or.inl k_l_all_in_l_number) (by rfl) (by decide) (by decide)) (fun _ _ => rfl)) (@pe_int _ _ _ _) (fun _ _ => rfl)) (@pa_nil _) rfl) rfl) (by decide) (by rfl) (by rfl)) (by rfl) (by first | exact .inl rfl | exact .inr rfl | assumption)))))) (by intro _; rfl)) (@pss_one _ _ _ (@ps_ret _ _ _ _ (@pe_tupA _ _ _ _ _ (@pa_c _ _ _ _ _ (@pw _ 3 _ _ (Or.inl k_l_all_in_l_found) (by rfl) (by decide) (by decide)) (@pa_c _ _ _ _ _ (@pw _ 4 _ _ (Or.inl k_l_all_in_l_fits) (by rfl) (by decide) (by decide)) (@pa_nil _) rfl) rfl)))))), ?_⟩
    refine ⟨(by show 0 ≤ 10000; decide), fun D H1 n1 => ⟨_, _, rfl, ?_⟩⟩
    refine ⟨_, rfl, wa, rfl, ⟨_, SqL.of (n1.sm _ _ hw)⟩, for_list (xs := nts is) (fun j σ H' => Ex4 fun (o : Addr) (xs : List V) (v5 v6 : Option V) => σ = [some (.ref na), some (.ref wa), some (.ref o), some (.ref D), some (.bl (fitsB ts m is j)), v5, v6] ∧ Same H H' ∧ H' o = some (fr (along ts m (is.take j))) ∧ H' D = some (.lst xs) ∧ xs.length = j ∧ FL 403 H' xs (alongs ts m is j)) ⟨mu, [], _, _, rfl, n1.sm, n1.sm _ _ hmu, n1.at', rfl, .nil⟩ ?_ ?_ ?_⟩
    · rintro j σ H' _ ⟨_, _, _, _, _, s, _⟩
      exact SqL.of (s _ _ hw)
    · rintro j x σ H' hx ⟨o, xs, v5, v6, rfl, s, ho, hD, lx, fl⟩
      rw [List.getElem?_map] at hx
      obtain ⟨i, ei, rfl⟩ := Option.map_eq_some_iff.mp hx
      have hi' := hi i (List.mem_of_getElem? ei)
      have hj : j < is.length := (List.getElem?_eq_some_iff.mp ei).1
      obtain ⟨a2, x0, x1, om, og, op, ea, ha2, hom, hog⟩ := tie_full iq hi'
      have fa := along_fbk (k := j) ht fm hi hl
      refine bodyH (t := tSeq _ _) fun DB nB => ?_
      refine seqH fun DI nI => ?_
      refine ⟨_, rfl, .inl ⟨rfl, _, SqL.of hD⟩, _, rfl, D, xs, _, rfl, rfl, hD, by trivial, fun H2 c2 => ?_⟩
      refine nI _ _ ?_
      have keep : ∀ a o', H a = some o' → H2 a = some o' := fun a o' e => c2.ol a o' (ne_of_none e n1.fr) (s _ _ e)
      have nDo : o ≠ D := fun z => by rw [z, hD] at ho; cases ho
      have ho2 := c2.ol o _ nDo ho
      refine seqA fun QT nT => ?_
      refine ⟨_, rfl, na, _, _, _, rfl, rfl, SqT.of (keep _ _ hna), rfl, _, rfl, q, _, _, _, rfl, rfl, SqT.of (keep _ _ hq), ea, a2, _, _, _, rfl, rfl, SqT.of (keep _ _ ha2), rfl, ?_⟩
      refine nT _ _ ?_
      refine seqA fun QA nA => ?_
      have fin : QA (.bl (fitsB ts m is (j + 1))) H2 := by
        refine nA _ _ ?_
        refine ⟨_, rfl, _, rfl, na, _, _, _, rfl, rfl, SqT.of (keep _ _ hna), rfl, _, rfl, q, _, _, _, rfl, rfl, SqT.of (keep _ _ hq), ea, a2, _, _, _, rfl, rfl, SqT.of (keep _ _ ha2), rfl, o, og, _, _, _, _, rfl, ho2, keep _ _ hog, s4' fa (gn_ok ht hi').1 (by decide) (by decide), fun o2 H3 n3 => nB _ _ ⟨o2, _, _, _, rfl, fun a o' e => n3.sm _ _ (keep a o' e), ?_, n3.sm _ _ c2.at', by rw [List.length_append, lx]; rfl, ?_⟩⟩
        · rw [along_at ei]
          exact n3.at'
        · rw [alongs_succ]
          have tp : ∀ a us, H' a = some (.tup us) → H3 a = some (.tup us) := fun a us e => n3.sm _ _ (c2.tup e hD)
          exact (fl.tup tp).append (.cons (tp _ _ ho) (fa.mono (by decide)) .nil)
      refine ⟨_, rfl, _, rfl, ?_⟩
      have s4 := s4' fa (mo_ok ht hi').1 (by decide) (by decide)
      have s5 := s4' (mo_ok ht hi').1 fa (by decide) (by decide)
      rw [fits_succ ei] at fin
      cases hf : fitsB ts m is j with
      | true =>
        rw [hf, Bool.true_and] at fin
        exact iteT ⟨_, rfl, o, _, _, _, rfl, rfl, SqT.of ho2, rfl, _, rfl, om, _, _, _, rfl, rfl, SqT.of (keep _ _ hom), rfl, _, _, rfl, rfl, mulS s4.1 s4.2.2.2.1, _, rfl, om, _, _, _, rfl, rfl, SqT.of (keep _ _ hom), rfl, _, rfl, o, _, _, _, rfl, rfl, SqT.of ho2, rfl, _, _, rfl, rfl, mulS s4.2.2.1 s4.2.1, _, _, rfl, rfl, fin⟩
      | false =>
        rw [hf, Bool.false_and] at fin
        exact iteF fin
    · rintro σ H' ⟨o, xs, v5, v6, rfl, s, ho, hD, lx, fl⟩
      rw [List.length_map] at lx fl
      have e : (nts is).length = is.length := List.length_map ..
      rw [e]
      exact ⟨_, rfl, _, rfl, (by show 2 ≤ 10000; decide), fun o2 H3 n3 => k o2 D xs H3 (s.trans n3.sm) n3.at' n1.fr (n3.sm _ _ hD) (fl.sm n3.sm)⟩
end
end K09
namespace K09
open PySem L2
theorem fl_isAll {c : Nat} {E : Addr → Prop} {H : Hp} {xs : List V} {ps : List KM.Fra} (h : FL c H xs ps) : IsAll E H xs (ps.map frD) := by
  induction h with
  | nil => exact .nil
  | cons h f r ih => exact .cons ((isF h).narrow fun _ _ => trivial) ih
theorem dp_frs {n : Nat} {ps : List KM.Fra} (hl : ps.length ≤ 1000) : Dp (n + 3) (.list (ps.map frD)) := by
  refine ⟨by rw [List.length_map]; exact hl, fun x hx => ?_⟩
  obtain ⟨p, _, rfl⟩ := List.mem_map.mp hx
  simp [Dp]
theorem eqv_fr (p : KM.Fra) : PyData.eqv (frD p) (frD p) = true := by
  simp [PyData.eqv, PyData.eqvAll]
section
variable {P : Program} {w : World} {K : PySem.W.Frag} {mg : Str → Option Value} {base : Heap}
inductive spRight9_ (vs : List V) (H : Hp) (Q : VK) : Prop
  | mk (v : V) (wa mu : Addr) (ls : List (List Nat)) (ts : List TieD) (is : List Nat) (m : KM.Fra) (h0 : vs = [v, .ref wa, .ref mu]) (h1 : IsD ED H v (netD ls ts)) (h2 : H wa = some (.lst (nts is))) (h3 : H mu = some (fr m)) (h4 : Fb 100 m.1 m.2) (h5 : 1 ≤ is.length) (h6 : is.length ≤ 10) (h7 : (∀ i ∈ is, i < ts.length)) (h8 : (∀ t ∈ ts, TieG t)) (h9 : ∀ H', Same H H' → Q (.bl true) H')
def spRight9 : Sp := fun vs H Q _ => spRight9_  vs H Q
theorem ok_right9 (T : Txt K mg) : FnOk P w K mg base CX0 10 T.f_l_right T.d_l_right ["_law_net", "_law_way", "_law_much"] spRight9 := by
  have G_l_product := ok_product (P := P) (w := w) (base := base) T
  have G_goes_on := ok_goes_on (P := P) (w := w) (base := base) T
  have G_gain_of := ok_gain_of (P := P) (w := w) (base := base) T
  have G_l_like := ok_like (P := P) (w := w) (base := base) T 4
  have G_l_all_in := ok_all_in (P := P) (w := w) (base := base) T
  have G_room_of := ok_room_of (P := P) (w := w) (base := base) T
  have G_l_sum := ok_sum (P := P) (w := w) (base := base) T
  refine T.F_l_right.ok sc_l_right (fun vs H Q E h => ?_) (fun cdv A outer s H vs Q E hr h => ?_)
  · obtain ⟨v, wa, mu, ls, ts, is, m, rfl, _⟩ := h
    rfl
  · obtain ⟨v, wa, mu, ls, ts, is, m, rfl, hv, hw, hmu, fm, hl1, hl, hi, ht, k⟩ := h
    obtain ⟨na, p, q, ys, rfl, hna, hp, hq, iq⟩ := net_inv2 hv
    refine ⟨_, (@pss_cons _ _ _ _ _ (@ps_set _ _ (3) _ _ _ _ sc_l_right.nd rfl (Or.inl k_l_right_l_product_here) (@pe_tupA _ _ _ _ _ (@pa_c _ _ _ _ _ (@pe_int _ _ _ _) (@pa_c _ _ _ _ _ (@pe_int _ _ _ _) (@pa_nil _) rfl) rfl)) (by rfl) (by first | exact .inl rfl | exact .inr rfl | assumption)) (@pss_cons _ _ _ _ _ (@ps_for _ _ _ _ _ _ _ _ PassesOwn.never rfl (@pi_list_k _ (K) _ _ _ (@pw _ 1 _ _ (Or.inl k_l_right_l_way) (by rfl) (by decide) (by decide)) (by rfl)) (@pg_name _ _ (4) _ sc_l_right.nd rfl (Or.inl k_l_right_l_number) (by first | exact .inl rfl | exact .inr rfl | assumption)) (@pss_one _ _ _ (@ps_set _ _ (3) _ _ _ _ sc_l_right.nd rfl (Or.inl k_l_right_l_product_here) (@pe_call _ _ _ _ _ _ _ _ _ _ _ _ _ _ _ _ G_l_product (hr.mono (by decide)) k_l_right_l_product T.m_l_product T.F_l_product.kp T.B_l_product .nil (@pass0 _) (@pa_c _ _ _ _ _ (@pw _ 3 _ _ (Or.inl k_l_right_l_product_here) (by rfl) (by decide) (by decide)) (@pa_c _ _ _ _ _ (@pe_ix _ _ _ _ _ _ _ (@ixT_k _ (K) (by rfl)) (@pe_ix _ _ _ _ _ _ _ (@ixT_k _ (K) (by rfl)) (@pe_ix _ _ _ _ _ _ _ (@ixT_k _ (K) (by rfl)) (@pw _ 0 _ _ (Or.inr (Or.inl k_l_right_l_net)) (by rfl) (by decide) (by decide)) (@pe_int _ _ _ _) (fun _ _ => rfl)) (@pw _ 4 _ _ (Or.inl k_l_right_l_number) (by rfl) (by decide) (by decide)) (fun _ _ => rfl)) (@pe_int _ _ _ _) (fun _ _ => rfl)) (@pa_nil _) rfl) rfl) (by decide) (by rfl) (by rfl)) (by rfl) (by first | exact .inl rfl | exact .inr rfl | assumption))) (by intro _; rfl)) (@pss_cons _ _ _ _ _ (@ps_for _ _ _ _ _ _ _ _ PassesOwn.never rfl (@pi_range1 _ _ _ _ _ _ k_l_right_range T.b_range (@pa_c _ _ _ _ _ (@pe_int _ _ _ _) (@pa_nil _) rfl) (by rfl)) (@pg_name _ _ (5) _ sc_l_right.nd rfl (Or.inl k_l_right_l_turn) (by first | exact .inl rfl | exact .inr rfl | assumption)) (@pss_cons _ _ _ _ _ (@ps_set _ _ (6) _ _ _ _ sc_l_right.nd rfl (Or.inl k_l_right_l_found) (@pe_call _ _ _ _ _ _ _ _ _ _ _ _ _ _ _ _ G_goes_on (hr.mono (by decide)) k_l_right_goes_on T.m_goes_on T.F_goes_on.kp T.B_goes_on .nil (@pass0 _) (@pa_c _ _ _ _ _ (@pw _ 0 _ _ (Or.inr (Or.inl k_l_right_l_net)) (by rfl) (by decide) (by decide)) (@pa_c _ _ _ _ _ (@pw _ 1 _ _ (Or.inl k_l_right_l_way) (by rfl) (by decide) (by decide)) (@pa_c _ _ _ _ _ (@pw _ 2 _ _ (Or.inl k_l_right_l_much) (by rfl) (by decide) (by decide)) (@pa_nil _) rfl) rfl) rfl) (by decide) (by rfl) (by rfl)) (by rfl) (by first | exact .inl rfl | exact .inr rfl | assumption)) (@pss_cons _ _ _ _ _ (@ps_if _ _ _ _ _ _ _ _ (@PW.pt _ _ _ (@pw_or _ _ _ _ _ _ _ (@pt_not _ _ _ _ (@pt_val _ _ _ (@pe_call _ _ _ _ _ _ _ _ _ _ _ _ _ _ _ _ G_l_like (hr.mono (by decide)) k_l_right_l_like T.m_l_like T.F_l_like.kp T.B_l_like .nil (@pass0 _) (@pa_c _ _ _ _ _ (@pe_call _ _ _ _ _ _ _ _ _ _ _ _ _ _ _ _ G_gain_of (hr.mono (by decide)) k_l_right_gain_of T.m_gain_of T.F_gain_of.kp T.B_gain_of .nil (@pass0 _) (@pa_c _ _ _ _ _ (@pw _ 0 _ _ (Or.inr (Or.inl k_l_right_l_net)) (by rfl) (by decide) (by decide)) (@pa_c _ _ _ _ _ (@pw _ 1 _ _ (Or.inl k_l_right_l_way) (by rfl) (by decide) (by decide)) (@pa_nil _) rfl) rfl) (by decide) (by rfl) (by rfl)) (@pa_c _ _ _ _ _ (@pw _ 3 _ _ (Or.inl k_l_right_l_product_here) (by rfl) (by decide) (by decide)) (@pa_nil _) rfl) rfl) (by decide) (by rfl) (by rfl)) (by intro _; rfl))) (@pw_or1 _ _ _ _ (@pt_not _ _ _ _ (@pt_val _ _ _ (@pe_call _ _ _ _ _ _ _ _ _ _ _ _ _ _ _ _ G_l_like (hr.mono (by decide)) k_l_right_l_like T.m_l_like T.F_l_like.kp T.B_l_like .nil (@pass0 _) (@pa_c _ _ _ _ _ (@pw _ 6 _ _ (Or.inl k_l_right_l_found) (by rfl) (by decide) (by decide)) (@pa_c _ _ _ _ _ (@pe_ix _ _ _ _ _ _ _ (@ixT_k _ (K) (by rfl)) (@pe_call _ _ _ _ _ _ _ _ _ _ _ _ _ _ _ _ G_l_all_in (hr.mono (by decide)) k_l_right_l_all_in T.m_l_all_in T.F_l_all_in.kp T.B_l_all_in .nil (@pass0 _) (@pa_c _ _ _ _ _ (@pw _ 0 _ _ (Or.inr (Or.inl k_l_right_l_net)) (by rfl) (by decide) (by decide)) (@pa_c _ _ _ _ _ (@pw _ 1 _ _ (Or.inl k_l_right_l_way) (by rfl) (by decide) (by decide)) (@pa_c _ _ _ _ _ (@pw _ 2 _ _ (Or.inl k_l_right_l_much) (by rfl) (by decide) (by decide)) (@pa_nil _) rfl) rfl) rfl) (by decide) (by rfl) (by rfl)) (@pe_int _ _ _ _) (fun _ _ => rfl)) (@pa_nil _) rfl) rfl) (by decide) (by rfl) (by rfl)) (by intro _; rfl)))))) (@pss_one _ _ _ (@ps_ret _ _ _ _ (@pe_bl _ _ _ _))) (@pss_nil _)) (@pss_one _ _ _ (@ps_expr _ _ _ _ (@pe_bm_k _ (K) _ _ _ _ _ _ _ _ _ _ _ PySem.F.plainAttrs_list PySem.F.slot_list_append PySem.F.type_list_append (@mt_appendA _) (@pw _ 6 _ _ (Or.inl k_l_right_l_found) (by rfl) (by decide) (by decide)) (@pa_c _ _ _ _ _ (@pe_tupA _ _ _ _ _ (@pa_c _ _ _ _ _ (@pe_int _ _ _ _) (@pa_c _ _ _ _ _ (@pe_int _ _ _ _) (@pa_nil _) rfl) rfl)) (@pa_nil _) rfl) (by rfl) (by rfl) (by rfl) (by rfl) (by rfl) (by rfl)) (by rfl))))) (by intro _; rfl)) (@pss_cons _ _ _ _ _ (@ps_set _ _ (7) _ _ _ _ sc_l_right.nd rfl (Or.inl k_l_right_l_room) (@pe_call _ _ _ _ _ _ _ _ _ _ _ _ _ _ _ _ G_room_of (hr.mono (by decide)) k_l_right_room_of T.m_room_of T.F_room_of.kp T.B_room_of .nil (@pass0 _) (@pa_c _ _ _ _ _ (@pw _ 0 _ _ (Or.inr (Or.inl k_l_right_l_net)) (by rfl) (by decide) (by decide)) (@pa_c _ _ _ _ _ (@pw _ 1 _ _ (Or.inl k_l_right_l_way) (by rfl) (by decide) (by decide)) (@pa_nil _) rfl) rfl) (by decide) (by rfl) (by rfl)) (by rfl) (by first | exact .inl rfl | exact .inr rfl | assumption)) (@pss_cons _ _ _ _ _ (@ps_asg _ _ _ _ _ _ (@pe_call _ _ _ _ _ _ _ _ _ _ _ _ _ _ _ _ G_l_all_in (hr.mono (by decide)) k_l_right_l_all_in T.m_l_all_in T.F_l_all_in.kp T.B_l_all_in .nil (@pass0 _) (@pa_c _ _ _ _ _ (@pw _ 0 _ _ (Or.inr (Or.inl k_l_right_l_net)) (by rfl) (by decide) (by decide)) (@pa_c _ _ _ _ _ (@pw _ 1 _ _ (Or.inl k_l_right_l_way) (by rfl) (by decide) (by decide)) (@pa_c _ _ _ _ _ (@pw _ 7 _ _ (Or.inl k_l_right_l_room) (by rfl) (by decide) (by decide)) (@pa_nil _) rfl) rfl) rfl) (by decide) (by rfl) (by rfl)) (@pg_tup_k _ (K) _ _ _ _ (2) rfl (@pgs_cons _ _ _ _ _ (@pg_name _ _ (8) _ sc_l_right.nd rfl (Or.inl k_l_right_l_on) (by first | exact .inl rfl | exact .inr rfl | assumption)) (@pgs_cons _ _ _ _ _ (@pg_name _ _ (9) _ sc_l_right.nd rfl (Or.inl k_l_right_l_fits) (by first | exact .inl rfl | exact .inr rfl | assumption)) (@pgs_nil _) (by rfl)) (by rfl)) (by rfl) (by rfl) (by rfl)) (by rfl) (by rfl) (by rfl)) (@pss_cons _ _ _ _ _ (@ps_if _ _ _ _ _ _ _ _ (@PW.pt _ _ _ (@pw_or _ _ _ _ _ _ _ (@pt_not _ _ _ _ (@pt_val _ _ _ (@pw _ 9 _ _ (Or.inl k_l_right_l_fits) (by rfl) (by decide) (by decide)) (by intro _; rfl))) (@pw_or1 _ _ _ _ (@pt_not _ _ _ _ (@pt_val _ _ _ (@pe_callB _ _ _ _ _ _ _ _ _ (@any_k _ (K) rfl (by rfl)) k_l_right_any T.b_any (@boot_b_any) (@pa_c _ _ _ _ _ (@pe_comp _ _ _ _ _ _ _ (["_law_one", "_law_number", "_law_net"]) (2) ([0]) _ _ _ _ rfl (by kernel_rfl) (@pi_zip_k _ (K) _ _ _ _ _ _ _ _ k_l_right_zip T.b_zip (@pa_c _ _ _ _ _ (@pw _ 8 _ _ (Or.inl k_l_right_l_on) (by rfl) (by decide) (by decide)) (@pa_c _ _ _ _ _ (@pw _ 1 _ _ (Or.inl k_l_right_l_way) (by rfl) (by decide) (by decide)) (@pa_nil _) rfl) rfl) (by rfl) (by rfl) (by rfl)) (fun _ _ _ _ _ _ => (@pg_tup_k _ (K) _ _ _ _ (2) rfl (@pgs_cons _ _ _ _ _ (@pg_name _ _ (0) _ (@nodupS _ (by kernel_rfl)) rfl (Or.inl (by kernel_rfl)) (by first | exact .inl rfl | exact .inr rfl | assumption)) (@pgs_cons _ _ _ _ _ (@pg_name _ _ (1) _ (@nodupS _ (by kernel_rfl)) rfl (Or.inl (by kernel_rfl)) (by first | exact .inl rfl | exact .inr rfl | assumption)) (@pgs_nil _) (by rfl)) (by rfl)) (by rfl) (by rfl) (by rfl))) (fun _ _ _ _ _ _ => @pifs_nil _) (fun _ _ _ _ _ _ => (@pe_cmpR _ _ _ _ _ _ _ _ (@op_eqD _ hr.units) (@pw _ 0 _ _ (Or.inl (by kernel_rfl)) (by rfl) (by decide) (by decide)) (@pe_ix _ _ _ _ _ _ _ (@ixT_k _ (K) (by rfl)) (@pe_ix _ _ _ _ _ _ _ (@ixT_k _ (K) (by rfl)) (@pe_ix _ _ _ _ _ _ _ (@ixT_k _ (K) (by rfl)) (@pw _ 2 _ _ (Or.inr (Or.inl (by kernel_rfl))) (by rfl) (by decide) (by decide)) (@pe_int _ _ _ _) (fun _ _ => rfl)) (@pw _ 1 _ _ (Or.inl (by kernel_rfl)) (by rfl) (by decide) (by decide)) (fun _ _ => rfl)) (@pe_int _ _ _ _) (fun _ _ => rfl)) (@nomark _ _ (by decide) (by decide)))) (by intro _; rfl)) (@pa_nil _) rfl) (by decide) (by decide) (by rfl) (by rfl)) (by intro _; rfl)))))) (@pss_one _ _ _ (@ps_ret _ _ _ _ (@pe_bl _ _ _ _))) (@pss_nil _)) (@pss_one _ _ _ (@ps_ret _ _ _ _ (@pe_and _ _ _ _ _ _ _ (@pe_cmpR _ _ _ _ _ _ _ _ (@op_ge _) (@pe_ix _ _ _ _ _ _ _ (@ixT_k _ (K) (by rfl)) (@pw _ 7 _ _ (Or.inl k_l_right_l_room) (by rfl) (by decide) (by decide)) (@pe_int _ _ _ _) (fun _ _ => rfl)) (@pe_int _ _ _ _) (@nomark _ _ (by decide) (by decide))) (@pe_one _ _ _ _ _ (@pe_not _ _ _ _ (@pe_ix _ _ _ _ _ _ _ (@ixT_k _ (K) (by rfl)) (@pe_call _ _ _ _ _ _ _ _ _ _ _ _ _ _ _ _ G_l_all_in (hr.mono (by decide)) k_l_right_l_all_in T.m_l_all_in T.F_l_all_in.kp T.B_l_all_in .nil (@pass0 _) (@pa_c _ _ _ _ _ (@pw _ 0 _ _ (Or.inr (Or.inl k_l_right_l_net)) (by rfl) (by decide) (by decide)) (@pa_c _ _ _ _ _ (@pw _ 1 _ _ (Or.inl k_l_right_l_way) (by rfl) (by decide) (by decide)) (@pa_c _ _ _ _ _ (@pe_call _ _ _ _ _ _ _ _ _ _ _ _ _ _ _ _ G_l_sum (hr.mono (by decide)) k_l_right_l_sum T.m_l_sum T.F_l_sum.kp T.B_l_sum .nil (@pass0 _) (@pa_c _ _ _ _ _ (@pw _ 7 _ _ (Or.inl k_l_right_l_room) (by rfl) (by decide) (by decide)) (@pa_c _ _ _ _ _ (@pe_tupA _ _ _ _ _ (@pa_c _ _ _ _ _ (@pe_int _ _ _ _) (@pa_c _ _ _ _ _ (@pe_op _ _ _ _ _ _ _ _ (@op_pow _) (@pe_int _ _ _ _) (@pe_int _ _ _ _)) (@pa_nil _) rfl) rfl)) (@pa_nil _) rfl) rfl) (by decide) (by rfl) (by rfl)) (@pa_nil _) rfl) rfl) rfl) (by decide) (by rfl) (by rfl)) (@pe_int _ _ _ _) (fun _ _ => rfl))))))))))))), ?_⟩
    refine seqH fun DA nA => ?_
    refine ⟨(by show 2 ≤ 10000; decide), fun o0 H1 n1 => ?_⟩
    refine nA _ _ ?_
    refine seqH fun DB nB => ?_
    refine ⟨_, rfl, wa, rfl, ⟨_, SqL.of (n1.sm _ _ hw)⟩, for_list (xs := nts is) (fun j σ H' => Ex2 fun (o : Addr) (v4 : Option V) => σ = [some (.ref na), some (.ref wa), some (.ref mu), some (.ref o), v4, none, none, none, none, none] ∧ Same H H' ∧ H' o = some (fr (along ts (1, 1) (is.take j)))) ⟨o0, _, rfl, n1.sm, n1.at'⟩ ?_ ?_ ?_⟩
    · rintro j σ H' _ ⟨_, _, _, s, _⟩
      exact SqL.of (s _ _ hw)
    · rintro j x σ H' hx ⟨o, v4, rfl, s, ho⟩
      rw [List.getElem?_map] at hx
      obtain ⟨i, ei, rfl⟩ := Option.map_eq_some_iff.mp hx
      have hi' := hi i (List.mem_of_getElem? ei)
      obtain ⟨a2, x0, x1, om, og, op, ea, ha2, hom, hog⟩ := tie_full iq hi'
      have fa := along_fbk (m := (1, 1)) (k := j) ht fb11 hi hl
      refine ⟨_, rfl, _, rfl, na, _, _, _, rfl, rfl, SqT.of (s _ _ hna), rfl, _, rfl, q, _, _, _, rfl, rfl, SqT.of (s _ _ hq), ea, a2, _, _, _, rfl, rfl, SqT.of (s _ _ ha2), rfl, o, og, _, _, _, _, rfl, ho, s _ _ hog, s4' fa (gn_ok ht hi').1 (by decide) (by decide), fun o2 H2 n2 => ⟨o2, _, rfl, s.trans n2.sm, ?_⟩⟩
      rw [along_at ei]
      exact n2.at'
    rintro σ H2 ⟨o, v4, rfl, s2, ho⟩
    have e : is.take (nts is).length = is := by rw [List.length_map, List.take_length]
    rw [e] at ho
    refine nB _ _ ?_
    clear nA nB
    refine seqH fun DC nC => ?_
    refine ⟨2, rfl, by decide, by decide, for_range (fun j σ H' => Ex2 fun v5 v6 => σ = [some (.ref na), some (.ref wa), some (.ref mu), some (.ref o), v4, v5, v6, none, none, none] ∧ Same H2 H') ⟨_, _, rfl, Same.refl _⟩ ?_ ?_⟩
    · rintro j σ H' hj ⟨v5, v6, rfl, s3⟩
      have s0 := s2.trans s3
      refine bodyH (t := tSeq _ _) fun DD nD => ?_
      refine seqA fun QA nA => ?_
      refine ⟨_, rfl, _, rfl, _, rfl, .ref na, wa, mu, ls, ts, is, m, rfl, hv.sm s0, s0 _ _ hw, s0 _ _ hmu, fm.mono (by decide), hl, hi, ht, fun D xs H4 s4 fD hD fl => ?_⟩
      refine nA _ _ ?_
      have s04 := s0.trans s4
      have lx : xs.length = is.length := by rw [fl.length, alongs, List.length_map, List.length_range]
      refine seqH fun DE nE => ?_
      refine ⟨_, rfl, _, rfl, .ref na, wa, ls, ts, is, rfl, hv.sm s04, s04 _ _ hw, hl, hi, ht, fun o5 H5 s5 ho5 => ⟨_, rfl, .ref o5, .ref o, frD (along ts (1, 1) is), fun _ => False, rfl, (isF ho5).narrow fun _ _ => trivial, (isF (((s3.trans s4).trans s5) _ _ ho)).narrow fun _ _ => trivial, by simp [Dp], fun H6 s6 => ⟨_, rfl, iteF ?_⟩⟩⟩
      have s46 := s5.trans s6
      have s06 := s04.trans s46
      refine ⟨_, rfl, _, rfl, _, rfl, _, rfl, .ref na, wa, mu, ls, ts, is, m, rfl, hv.sm s06, s06 _ _ hw, s06 _ _ hmu, fm.mono (by decide), hl, hi, ht, fun o7 D7 xs7 H7 s7 ho7 fD7 hD7 fl7 => ⟨o7, _, _, _, rfl, rfl, SqT.of ho7, rfl, .ref D, .ref D7, .list ((alongs ts m is is.length).map frD), fun _ => False, rfl, .lst ((s46.trans s7) _ _ hD) id (fl_isAll (fl.sm (s46.trans s7))), .lst hD7 id (fl_isAll fl7), dp_frs (by rw [alongs, List.length_map, List.length_range]; trivial), fun H8 s8 => ⟨_, rfl, iteF ?_⟩⟩⟩
      refine nE _ _ ?_
      have s48 := (s46.trans s7).trans s8
      have hD8 := s48 _ _ hD
      refine ⟨_, rfl, .inl ⟨rfl, _, SqL.of hD8⟩, (by show 2 ≤ 10000; decide), fun o9 H9 n9 => ⟨D, xs, _, rfl, rfl, n9.sm _ _ hD8, by trivial, fun H10 c10 => nD _ _ ⟨_, _, rfl, fun a o' e' => c10.ol a o' (ne_of_none e' (s3.free fD)) (n9.sm _ _ (s48 _ _ (s4 _ _ (s3 _ _ e'))))⟩⟩⟩
    rintro σ H3 ⟨v5, v6, rfl, s3⟩
    refine nC _ _ ?_
    clear nC
    have s03 := s2.trans s3
    refine seqA fun QR nR => ?_
    refine ⟨_, rfl, _, rfl, .ref na, wa, ls, ts, is, rfl, hv.sm s03, s03 _ _ hw, hl1, hl, hi, ht, fun oz z H4 ez s4 hoz => ?_⟩
    refine nR _ _ ?_
    clear nR
    have s04 := s03.trans s4
    obtain ⟨rz, z0, zf, ⟨j0, hj0, ej0⟩, zno⟩ := room_facts ht hi ez
    have fz := room_fbz ht hi hl ez
    refine seqH fun DS nS => ?_
    refine ⟨_, rfl, _, rfl, _, rfl, .ref na, wa, oz, ls, ts, is, z, rfl, hv.sm s04, s04 _ _ hw, hoz, fz.mono (by decide), hl, hi, ht, fun o5 D5 xs5 H5 s5 ho5 fD5 hD5 fl5 => ⟨o5, _, rfl, SqT.of ho5, rfl, _, _, rfl, _, _, rfl, rfl, ?_⟩⟩
    refine nS _ _ ?_
    clear nS
    have s05 := s04.trans s5
    have lx : xs5.length = is.length := by rw [fl5.length, alongs, List.length_map, List.length_range]
    refine seqH fun DT nT => ?_
    refine ⟨_, rfl, _, rfl, ?_⟩
    rw [zf]
    refine iteF ?_
    refine ⟨_, rfl, _, rfl, D5, wa, true, true, rfl, ⟨_, SqL.of hD5⟩, ⟨_, SqL.of (s05 _ _ hw)⟩, fun D6 hD6 => comp_mapZ (xs := xs5) (ys := nts is) (fun j => .bl (PyData.eqv (frD (along ts z (is.take j))) (frD (mo ts ((is[j]?).getD 0))))) (by rw [List.length_map]; trivial) hD6 (fun H' sm => SqL.of (sm _ _ hD5)) (fun H' sm => SqL.of (sm _ _ (s05 _ _ hw))) ?_ ?_⟩
    · intro j x y H' R hx hy sm kk
      rw [List.getElem?_map] at hy
      obtain ⟨i, ei, rfl⟩ := Option.map_eq_some_iff.mp hy
      have hi' := hi i (List.mem_of_getElem? ei)
      have hj : j < is.length := (List.getElem?_eq_some_iff.mp ei).1
      obtain ⟨a2, x0, x1, om, og, op, ea, ha2, hom, hog⟩ := tie_full iq hi'
      obtain ⟨os, pp, rfl, epp, hos, fos⟩ := fl5.get hx
      have epp' : pp = along ts z (is.take j) := by
        rw [alongs, List.getElem?_map, List.getElem?_range hj] at epp
        exact (Option.some.inj epp).symm
      subst epp'
      have sn := s05.trans sm
      have fa := along_fbk (k := j) ht fz hi hl
      refine ⟨back2, _, rfl, _, rfl, na, _, _, _, rfl, rfl, SqT.of (sn _ _ hna), rfl, _, rfl, q, _, _, _, rfl, rfl, SqT.of (sn _ _ hq), ea, a2, _, _, _, rfl, rfl, SqT.of (sn _ _ ha2), rfl, frD (along ts z (is.take j)), frD (mo ts i), ED, ED, 3, 3, 1, 1, isF (sm _ _ hos), isF (sn _ _ hom), wt_fr fa (by decide), wt_fr (mo_ok ht hi').1 (by decide), by decide, ?_⟩
      have := kk H' (Same.refl _)
      rw [ei] at this
      exact this
    intro H6 s6 hD6'
    have e : min xs5.length (nts is).length = is.length := by rw [List.length_map]; trivial
    rw [e] at hD6'
    have hany : ((List.range is.length).map fun j => PyData.eqv (frD (along ts z (is.take j))) (frD (mo ts ((is[j]?).getD 0)))).any id = true := by
      rw [List.any_eq_true]
      refine ⟨true, List.mem_map.mpr ⟨j0, List.mem_range.mpr hj0, ?_⟩, rfl⟩
      rw [ej0]
      exact eqv_fr _
    refine ⟨D6, _, rfl, SqL.of (by rw [List.map_map]; exact hD6'), _, rfl, ?_⟩
    rw [hany]
    refine iteF ?_
    refine nT _ _ ?_
    have s46 := s5.trans s6
    have s06 := s04.trans s46
    have hoz6 := s46 _ _ hoz
    refine ⟨_, rfl, oz, _, _, _, rfl, rfl, SqT.of hoz6, rfl, _, _, rfl, rfl, _, rfl, ?_⟩
    rw [decide_eq_true z0]
    refine iteT ?_
    have fe : Fb 40 (1 : Int) ((10 : Int) ^ 12) := Fb.small (by decide) (by decide) (by decide) (by decide)
    refine ⟨_, rfl, _, rfl, _, rfl, _, _, rfl, rfl, ⟨by decide, by decide, by decide⟩, (by show 2 ≤ 10000; decide), fun o7 H7 n7 => ⟨oz, o7, z.1, z.2, 1, 10 ^ 12, rfl, n7.sm _ _ hoz6, n7.at', s4' fz fe (by decide) (by decide), fun o8 H8 n8 => ?_⟩⟩
    have s78 := n7.sm.trans n8.sm
    have s08 := s06.trans s78
    have fz' : Fb 200 (KM.ladd z (1, 10 ^ 12)).1 (KM.ladd z (1, 10 ^ 12)).2 := (Fb.add' fz fe (by decide) : Fb 200 _ _)
    refine ⟨.ref na, wa, o8, ls, ts, is, KM.ladd z (1, 10 ^ 12), rfl, hv.sm s08, s08 _ _ hw, n8.at', fz', hl, hi, ht, fun o9 D9 xs9 H9 s9 ho9 fD9 hD9 fl9 => ⟨o9, _, _, _, rfl, rfl, SqT.of ho9, rfl, _, rfl, ?_⟩⟩
    have hno := zno (1, 10 ^ 12) ⟨by decide, by decide⟩ (by decide)
    have := k H9 (s08.trans s9)
    rw [hno]
    exact this
end
end K09
namespace K09
open PySem L2
theorem erase_perm {α : Type} {l : List α} : ∀ {i : Nat} (h : i < l.length), (l[i] :: l.eraseIdx i).Perm l := by
  induction l with
  | nil => intro i h; cases h
  | cons x r ih =>
    intro i h
    cases i with
    | zero => exact List.Perm.refl _
    | succ i =>
      have hi : i < r.length := Nat.lt_of_succ_lt_succ h
      exact (List.Perm.swap x r[i] (r.eraseIdx i)).trans (List.Perm.cons x (ih hi))
def Atom (x : V) : Prop := ∃ d, (∀ (E : Addr → Prop) (H : Hp), IsD E H x d) ∧ Wt d 1 0
theorem atoms {xs : List V} (h : ∀ x ∈ xs, Atom x) : ∃ ds, (∀ (E : Addr → Prop) (H : Hp), IsAll E H xs ds) ∧ WtL ds xs.length 0 := by
  induction xs with
  | nil => exact ⟨[], fun _ _ => .nil, .nil⟩
  | cons x r ih =>
    obtain ⟨ds, a, b⟩ := ih fun y hy => h y (List.mem_cons_of_mem _ hy)
    obtain ⟨d, c, e⟩ := h x List.mem_cons_self
    refine ⟨d :: ds, fun E H => .cons (c E H) (a E H), ?_⟩
    have := WtL.cons e b
    rw [List.length_cons, Nat.add_comm]
    exact this
theorem ne_nil_eqv {ds : List PyData} : (if true = true then !PyData.eqv (.list ds) (.list []) else PyData.eqv (.list ds) (.list [])) = !decide (ds = []) := by
  cases ds with
  | nil => simp [PyData.eqv, PyData.eqvAll]
  | cons d r => simp [PyData.eqv, PyData.eqvAll]
section
variable {P : Program} {w : World} {K : PySem.W.Frag} {mg : Str → Option Value} {base : Heap}
inductive spMixed_ (vs : List V) (H : Hp) (Q : VK) : Prop
  | mk (b l : Addr) (xs : List V) (t : Int) (h0 : vs = [.ref b, .ref l]) (h1 : Bx H b t) (h2 : 0 ≤ t) (h3 : t ≤ 900000) (h4 : H l = some (.lst xs)) (h5 : xs.length ≤ 20) (h6 : (∀ x ∈ xs, Atom x)) (h7 : ∀ D ys t' H', SameE (Eb b) H H' → H D = none → H' D = some (.lst ys) → ys.Perm xs → Bx H' b t' → t ≤ t' → t' ≤ t + 20 → Q (.ref D) H')
def spMixed : Sp := fun vs H Q _ => spMixed_  vs H Q
theorem ok_mixed (T : Txt K mg) : FnOk P w K mg base CX0 2 T.f_l_mixed T.d_l_mixed ["_law_box", "_law_things"] spMixed := by
  have G_l_take := ok_take (P := P) (w := w) (base := base) T
  refine T.F_l_mixed.ok sc_l_mixed (fun vs H Q E h => ?_) (fun cdv A outer s H vs Q E hr h => ?_)
  · obtain ⟨b, l, xs, t, rfl, _⟩ := h
    rfl
  · obtain ⟨b, l, xs, t, rfl, B, ht0, ht1, hl, lx, hat, k⟩ := h
    refine ⟨_, (@pss_cons _ _ _ _ _ (@ps_par _ _ (2) (3) _ _ _ _ _ _ _ _ _ _ _ rfl sc_l_mixed.nd rfl rfl (by decide) k_l_mixed_l_left_ones k_l_mixed_l_found (@pa_c _ _ _ _ _ (@pe_callTy _ _ _ _ _ _ _ _ _ (@call_list_ofA _ (K) (by rfl)) k_l_mixed_list T.b_list (@boot_ty_list) (@pa_c _ _ _ _ _ (@pw _ 1 _ _ (Or.inl k_l_mixed_l_things) (by rfl) (by decide) (by decide)) (@pa_nil _) rfl) (by decide) (by decide) (by rfl) (by rfl)) (@pa_c _ _ _ _ _ (@pe_lstA _ _ _ _ (@pa_nil _)) (@pa_nil _) rfl) rfl) (by kernel_rfl) (by rfl)) (@pss_cons _ _ _ _ _ (@ps_while _ _ _ _ _ _ PassesOwn.never (@pt_cmpR _ _ _ _ _ _ _ _ (@op_neD _ hr.units) (@pw _ 2 _ _ (Or.inl k_l_mixed_l_left_ones) (by rfl) (by decide) (by decide)) (@pe_lstA _ _ _ _ (@pa_nil _)) (@nomark _ _ (by decide) (by decide))) (@pss_one _ _ _ (@ps_expr _ _ _ _ (@pe_bm_k _ (K) _ _ _ _ _ _ _ _ _ _ _ PySem.F.plainAttrs_list PySem.F.slot_list_append PySem.F.type_list_append (@mt_appendA _) (@pw _ 3 _ _ (Or.inl k_l_mixed_l_found) (by rfl) (by decide) (by decide)) (@pa_c _ _ _ _ _ (@pe_bm_k _ (K) _ _ _ _ _ _ _ _ _ _ _ PySem.F.plainAttrs_list PySem.F.slot_list_pop PySem.F.type_list_pop (@mt_popA _) (@pw _ 2 _ _ (Or.inl k_l_mixed_l_left_ones) (by rfl) (by decide) (by decide)) (@pa_c _ _ _ _ _ (@pe_call _ _ _ _ _ _ _ _ _ _ _ _ _ _ _ _ G_l_take (hr.mono (by decide)) k_l_mixed_l_take T.m_l_take T.F_l_take.kp T.B_l_take .nil (@pass0 _) (@pa_c _ _ _ _ _ (@pw _ 0 _ _ (Or.inl k_l_mixed_l_box) (by rfl) (by decide) (by decide)) (@pa_c _ _ _ _ _ (@pe_callB _ _ _ _ _ _ _ _ _ (@len_k _ (K) (by rfl)) k_l_mixed_len T.b_len (@boot_b_len) (@pa_c _ _ _ _ _ (@pw _ 2 _ _ (Or.inl k_l_mixed_l_left_ones) (by rfl) (by decide) (by decide)) (@pa_nil _) rfl) (by decide) (by decide) (by rfl) (by rfl)) (@pa_nil _) rfl) rfl) (by decide) (by rfl) (by rfl)) (@pa_nil _) rfl) (by rfl) (by rfl) (by rfl) (by rfl) (by rfl) (by rfl)) (@pa_nil _) rfl) (by rfl) (by rfl) (by rfl) (by rfl) (by rfl) (by rfl)) (by rfl)))) (@pss_one _ _ _ (@ps_ret _ _ _ _ (@pw _ 3 _ _ (Or.inl k_l_mixed_l_found) (by rfl) (by decide) (by decide)))))), ?_⟩
    refine seqP fun QA nA => ?_
    refine ⟨_, rfl, l, xs, rfl, .inl (SqL.of hl), fun L H1 n1 => ⟨(by show 0 ≤ 10000; decide), fun F H2 n2 => ?_⟩⟩
    refine nA _ _ _ ?_
    have hL2 : H2 L = some (.lst xs) := n2.sm _ _ n1.at'
    have nLF : L ≠ F := fun z => by have := n1.at'; rw [z, n2.fr] at this; cases this
    have B2 := (B.same n1.sm).same n2.sm
    have nLb : ¬ L = b := fun z => B.ne n1.fr z.symm
    have nFb : ¬ F = b := fun z => (B.same n1.sm).ne n2.fr z.symm
    have fF : H F = none := n1.sm.free n2.fr
    refine seqH fun DB nB => ?_
    refine ⟨fun m σ H' => Ex3 fun zs ys t' => m = zs.length ∧ σ = [some (.ref b), some (.ref l), some (.ref L), some (.ref F)] ∧ H' L = some (.lst zs) ∧ H' F = some (.lst ys) ∧ (ys ++ zs).Perm xs ∧ SameE (Eb b) H H' ∧ Bx H' b t' ∧ t ≤ t' ∧ t' + zs.length ≤ t + xs.length, ⟨_, xs, [], t, rfl, rfl, hL2, n2.at', List.Perm.refl _, (n1.sm.trans n2.sm).toE, B2, Int.le_refl _, Int.le_refl _⟩, ?_⟩
    rintro m σ H3 ⟨zs, ys, t3, rfl, rfl, hL, hF, pm, s3, B3, h3a, h3b⟩
    have lz : ys.length + zs.length = xs.length := by have := pm.length_eq; rw [List.length_append] at this; exact this
    obtain ⟨ds, ia, wd⟩ := atoms (xs := zs) fun x hx => hat x (pm.subset (List.mem_append_right _ hx))
    have ld := (ia (fun _ => False) H3).length
    refine ⟨_, rfl, (by show 0 ≤ 10000; decide), fun p H4 n4 => ⟨.list ds, .list [], fun _ => False, fun _ => False, zs.length + 1, 1, 1, 1, .lst (n4.sm _ _ hL) id (ia _ _), .lst n4.at' id .nil, .list wd, .list .nil, by decide, _, rfl, ?_⟩⟩
    rw [ne_nil_eqv]
    have s4 : SameE (Eb b) H H4 := s3.trans n4.sm.toE
    have B4 := B3.same n4.sm
    have hL4 := n4.sm _ _ hL
    have hF4 := n4.sm _ _ hF
    cases zs with
    | nil =>
      have e : ds = [] := by cases ds with | nil => rfl | cons d r => simp at ld
      rw [e]
      refine iteF ?_
      refine nB _ _ ?_
      rw [List.append_nil] at pm
      exact ⟨_, rfl, k F ys t3 H4 s4 fF hF4 pm B4 h3a (by trivial)⟩
    | cons z0 zr =>
      have e : decide (ds = []) = false := by
        rw [decide_eq_false_iff_not]
        intro q; rw [q] at ld; simp at ld
      rw [e]
      refine iteT ⟨_, fun σ' H' z => z, ?_⟩
      refine ⟨_, rfl, .inl ⟨rfl, _, SqL.of hF4⟩, _, rfl, .inl ⟨rfl, _, SqL.of hL4⟩, _, rfl, _, rfl, L, _, rfl, .inl (SqL.of hL4), b, _, t3, rfl, B4, (by show (0 : Int) < ((z0 :: zr).length : Int); rw [List.length_cons]; trivial), ?_, by trivial, by trivial, fun r t5 H5 r0 r1 h5a h5b s5 B5 => ?_⟩
      · rw [List.length_cons] at lz ⊢
        show (((zr.length + 1 : Nat) : Int)).natAbs.log2 < 9000
        rw [Int.natAbs_natCast]
        exact Nat.lt_of_le_of_lt (Nat.log2_le_self _) (by trivial)
      have hL5 := s5.old L _ nLb hL4
      have hF5 := s5.old F _ nFb hF4
      obtain ⟨rn, rfl⟩ : ∃ rn : Nat, r = (rn : Int) := ⟨r.toNat, by trivial⟩
      have hrn : rn < (z0 :: zr).length := by trivial
      refine ⟨L, _, rn, (z0 :: zr)[rn], rfl, rfl, hL5, by trivial, List.getElem?_eq_getElem hrn, fun H6 c6 => ?_⟩
      have hF6 := c6.ol F _ (Ne.symm nLF) hF5
      refine ⟨F, ys, _, rfl, rfl, hF6, by trivial, fun H7 c7 => ?_⟩
      have le : ((z0 :: zr).eraseIdx rn).length = (z0 :: zr).length - 1 := List.length_eraseIdx_of_lt hrn
      refine ⟨_, ?_, (z0 :: zr).eraseIdx rn, ys ++ [(z0 :: zr)[rn]], t5, rfl, rfl, c7.ol L _ nLF c6.at', c7.at', ?_, ((s4.trans s5).ch c6 n1.fr).ch c7 fF, (B5.ch c6 (Ne.symm nLb)).ch c7 (Ne.symm nFb), by trivial, ?_⟩
      · rw [le, List.length_cons]; trivial
      · refine List.Perm.trans ?_ pm
        rw [List.append_assoc]
        exact List.Perm.append_left ys (erase_perm hrn)
      · rw [le]; rw [List.length_cons] at h3b ⊢; trivial
end
end K09
namespace K09
open PySem L2
theorem tie_el {b : Addr} {t : Int} {l1 l2 : List Nat} {H : Hp} {R : VK} {e1 e2 : XK} (B : Bx H b t) (h0 : 0 ≤ t) (h1 : t ≤ 800000)
    (k : ∀ o m g t' H', SameE (Eb b) H H' → IsD ED H' (.ref o) (tieD ⟨l1, l2, m, g, (0, 1)⟩) → TieG ⟨l1, l2, m, g, (0, 1)⟩ → Bx H' b t' → t ≤ t' → t' ≤ t + 12 → R (.ref o) H') :
    tTupA (tCons (tVar 0) (tCons (tVar 1) (tCons (tCall (spFrB 24 0) [] e1 (tCons (tVar 2) tNil)) (tCons (tCall (spFrB 6 1) [] e2 (tCons (tVar 2) tNil)) (tCons (tTupA (tCons (tC (.int 0)) (tCons (tC (.int 1)) tNil))) tNil))))) [some (strV l1), some (strV l2), some (.ref b)] H R := by
  refine ⟨_, rfl, _, rfl, _, rfl, b, t, rfl, B, h0, by trivial, fun om mn md t1 H3 s3 hm fm lm B3 h3a h3b => ⟨_, rfl, b, t1, rfl, B3, by trivial, by trivial, fun og gn gd t2 H4 s4 hg fg lg B4 h4a h4b => ⟨(by show 2 ≤ 10000; decide), fun op H5 n5 => ⟨(by show 5 ≤ 10000; decide), fun o H6 n6 => k o (mn, md) (gn, gd) t2 H6 ((s3.trans s4).trans (n5.sm.trans n6.sm).toE) ?_ ⟨fm, fg, lm, lg, rfl⟩ ((B4.same n5.sm).same n6.sm) (by trivial) (by trivial)⟩⟩⟩⟩
  have s46 := n5.sm.trans n6.sm
  exact .tup n6.at' (.cons (.str _) (.cons (.str _) (.cons (isF (p := (mn, md)) (s46 _ _ (s4.tup _ _ hm))) (.cons (isF (p := (gn, gd)) (s46 _ _ hg)) (.cons (isF (p := (0, 1)) (n6.sm _ _ n5.at')) .nil)))))
theorem comp_ties {K : PySem.W.Frag} {b D : Addr} {H1 : Hp} {σc : St} {g : TG} {te : TE} {Q : VK} {J : It} {n : Nat} {t : Int} (f1 f2 : Nat → List Nat) (hz : n ≤ 20) (hD : H1 D = none) (B : Bx H1 b t) (h0 : 0 ≤ t) (h1 : t ≤ 700000)
    (hgo : ∀ i H', i < n → SameE (Eb b) H1 H' → J.go i H') (hst : ∀ H', SameE (Eb b) H1 H' → J.stop n H')
    (hs : ∀ i x H' H'' (R : VK) (t1 : Int), i < n → SameE (Eb b) H1 H' → Bx H' b t1 → 0 ≤ t1 → t1 ≤ 800000 → J.yld i H' x H'' → (∀ o m gg t' H4, SameE (Eb b) H' H4 → IsD ED H4 (.ref o) (tieD ⟨f1 i, f2 i, m, gg, (0, 1)⟩) → TieG ⟨f1 i, f2 i, m, gg, (0, 1)⟩ → Bx H4 b t' → t1 ≤ t' → t' ≤ t1 + 12 → R (.ref o) H4) → g x σc H'' fun σ2 H2 => Back σc σ2 ∧ te σ2 H2 R)
    (hd : ∀ zs (ts : List TieD) t' H', SameE (Eb b) H1 H' → H' D = some (.lst zs) → IsAll ED H' zs (ts.map tieD) → ts.length = n → (∀ i tt, ts[i]? = some tt → tt.bg = f1 i ∧ tt.en = f2 i) → (∀ tt ∈ ts, TieG tt) → Bx H' b t' → t ≤ t' → t' ≤ t + 12 * n → Q (.ref D) H') : CompW J σc g tT te D H1 Q := by
  have nb : b ≠ D := B.ne hD
  refine comp_each (n := n) (fun i H' zs => Ex2 fun (ts : List TieD) (t' : Int) => H' D = some (.lst zs) ∧ IsAll ED H' zs (ts.map tieD) ∧ ts.length = i ∧ (∀ i tt, ts[i]? = some tt → tt.bg = f1 i ∧ tt.en = f2 i) ∧ (∀ tt ∈ ts, TieG tt) ∧ SameE (Eb b) H1 H' ∧ Bx H' b t' ∧ t ≤ t' ∧ t' ≤ t + 12 * (i : Int)) (sz_of (by trivial)) ⟨[], t, upd_same, .nil, rfl, (fun i tt e => by simp at e), (fun tt h => by cases h), (Same.refl H1).toE.up hD, ?_, Int.le_refl _, by trivial⟩ ?_ ?_ ?_ ?_ ?_
  · exact B.ch .mk' nb
  · rintro i H' zs ⟨ts, t', q, ia, lt, _⟩
    exact ⟨q, by rw [ia.length, List.length_map, lt]; exact Nat.le_refl _⟩
  · rintro i H' zs hi ⟨ts, t', q, ia, lt, _, _, sE, _⟩
    exact hgo i H' hi sE
  · rintro H' zs ⟨ts, t', q, ia, lt, _, _, sE, _⟩
    exact hst H' sE
  · rintro i H' zs x H'' hi ⟨ts, t1, q, ia, lt, fa, tg, sE, B1, h1a, h1b⟩ y
    refine hs i x H' H'' _ t1 hi sE B1 (by trivial) (by trivial) y fun o m gg t' H4 s4 io tg' B4 h4a h4b => ?_
    have q4 := s4.old D _ (fun z => nb z.symm) q
    have tp : ∀ a us, H4 a = some (.tup us) → upd H4 D (.lst (zs ++ [.ref o])) a = some (.tup us) := fun a us e => by
      rw [upd_ne (ne_of e q4 (by intro z; cases z))]; exact e
    refine ⟨q4, ts ++ [⟨f1 i, f2 i, m, gg, (0, 1)⟩], t', upd_same, ?_, by rw [List.length_append, lt]; rfl, fun j tt e => ?_, fun tt hm => ?_, (sE.trans s4).up hD, B4.ch .mk' nb, by trivial, by trivial⟩
    · rw [List.map_append]
      exact ((ia.tupS s4).mono ⟨fun _ _ n _ => absurd trivial n, tp⟩).append (.cons (io.mono ⟨fun _ _ n _ => absurd trivial n, tp⟩) .nil)
    · by_cases hj : j < ts.length
      · rw [List.getElem?_append_left hj] at e
        exact fa j tt e
      · rw [List.getElem?_append_right (by trivial)] at e
        have hj' : j - ts.length = 0 := by
          have := (List.getElem?_eq_some_iff.mp e).1
          simp at this; trivial
        rw [hj'] at e
        cases e
        have : j = i := by trivial
        rw [this]
        exact ⟨rfl, rfl⟩
    · rcases List.mem_append.mp hm with h | h
      · exact tg tt h
      · rw [List.mem_singleton.mp h]; exact tg'
  · rintro H' zs ⟨ts, t', q, ia, lt, fa, tg, sE, B1, h1a, h1b⟩
    exact hd zs ts t' H' sE q ia lt fa tg B1 h1a h1b
end K09
namespace K09
open PySem L2
section
variable {P : Program} {w : World} {K : PySem.W.Frag} {mg : Str → Option Value} {base : Heap}
structure EightC (ts : List TieD) (is : List Nat) : Prop where
  i : is = [0, 1, 2, 3] ∨ is = [3, 0, 1, 2]
  len : ts.length = 4
  ex : ∃ x y z : List Nat, x ≠ y ∧ x ≠ z ∧ y ≠ z ∧ ts.map TieD.bg = [x, y, x, z] ∧ ts.map TieD.en = [y, x, z, x]
  g : ∀ t ∈ ts, TieG t
inductive spEight_ (vs : List V) (H : Hp) (Q : VK) : Prop
  | mk (b : Addr) (t : Int) (h0 : vs = [.ref b]) (h1 : Bx H b t) (h2 : 0 ≤ t) (h3 : t ≤ 600000) (h4 : ∀ o nv wa ls ts is t' H', SameE (Eb b) H H' → H' o = some (.tup [nv, .ref wa]) → IsD ED H' nv (netD ls ts) → H' wa = some (.lst (nts is)) → EightC ts is → Bx H' b t' → t ≤ t' → t' ≤ t + 300 → Q (.ref o) H')
def spEight : Sp := fun vs H Q _ => spEight_  vs H Q
theorem ok_eight (T : Txt K mg) : FnOk P w K mg base CX0 3 T.f_l_eight_by T.d_l_eight_by ["_law_box"] spEight := by
  have G_l_take := ok_take (P := P) (w := w) (base := base) T
  have G_l_names_by := ok_names_by (P := P) (w := w) (base := base) T
  have G_l_most_by := ok_most_by (P := P) (w := w) (base := base) T
  have G_l_gain_by := ok_gain_by (P := P) (w := w) (base := base) T
  refine T.F_l_eight_by.ok sc_l_eight_by (fun vs H Q E h => ?_) (fun cdv A outer s H vs Q E hr h => ?_)
  · obtain ⟨b, t, rfl, _⟩ := h
    rfl
  · obtain ⟨b, t, rfl, B, ht0, ht1, k⟩ := h
    refine ⟨_, (@pss_cons _ _ _ _ _ (@ps_par _ _ (1) (2) _ _ _ _ _ _ _ _ _ _ _ rfl sc_l_eight_by.nd rfl rfl (by decide) k_l_eight_by_l_names k_l_eight_by_l_first (@pa_c _ _ _ _ _ (@pe_call _ _ _ _ _ _ _ _ _ _ _ _ _ _ _ _ G_l_names_by (hr.mono (by decide)) k_l_eight_by_l_names_by T.m_l_names_by T.F_l_names_by.kp T.B_l_names_by .nil (@pass0 _) (@pa_c _ _ _ _ _ (@pw _ 0 _ _ (Or.inr (Or.inl k_l_eight_by_l_box)) (by rfl) (by decide) (by decide)) (@pa_c _ _ _ _ _ (@pe_int _ _ _ _) (@pa_nil _) rfl) rfl) (by decide) (by rfl) (by rfl)) (@pa_c _ _ _ _ _ (@pe_call _ _ _ _ _ _ _ _ _ _ _ _ _ _ _ _ G_l_take (hr.mono (by decide)) k_l_eight_by_l_take T.m_l_take T.F_l_take.kp T.B_l_take .nil (@pass0 _) (@pa_c _ _ _ _ _ (@pw _ 0 _ _ (Or.inr (Or.inl k_l_eight_by_l_box)) (by rfl) (by decide) (by decide)) (@pa_c _ _ _ _ _ (@pe_int _ _ _ _) (@pa_nil _) rfl) rfl) (by decide) (by rfl) (by rfl)) (@pa_nil _) rfl) rfl) (by kernel_rfl) (by rfl)) (@pss_cons _ _ _ _ _ (@ps_set _ _ (3) _ _ _ _ sc_l_eight_by.nd rfl (Or.inl k_l_eight_by_l_pairs) (@pe_lstA _ _ _ _ (@pa_c _ _ _ _ _ (@pe_tupA _ _ _ _ _ (@pa_c _ _ _ _ _ (@pe_ix _ _ _ _ _ _ _ (@ixL_k _ (K) (by rfl)) (@pw _ 1 _ _ (Or.inl k_l_eight_by_l_names) (by rfl) (by decide) (by decide)) (@pe_int _ _ _ _) (fun _ _ => rfl)) (@pa_c _ _ _ _ _ (@pe_ix _ _ _ _ _ _ _ (@ixL_k _ (K) (by rfl)) (@pw _ 1 _ _ (Or.inl k_l_eight_by_l_names) (by rfl) (by decide) (by decide)) (@pe_int _ _ _ _) (fun _ _ => rfl)) (@pa_nil _) rfl) rfl)) (@pa_c _ _ _ _ _ (@pe_tupA _ _ _ _ _ (@pa_c _ _ _ _ _ (@pe_ix _ _ _ _ _ _ _ (@ixL_k _ (K) (by rfl)) (@pw _ 1 _ _ (Or.inl k_l_eight_by_l_names) (by rfl) (by decide) (by decide)) (@pe_int _ _ _ _) (fun _ _ => rfl)) (@pa_c _ _ _ _ _ (@pe_ix _ _ _ _ _ _ _ (@ixL_k _ (K) (by rfl)) (@pw _ 1 _ _ (Or.inl k_l_eight_by_l_names) (by rfl) (by decide) (by decide)) (@pe_int _ _ _ _) (fun _ _ => rfl)) (@pa_nil _) rfl) rfl)) (@pa_c _ _ _ _ _ (@pe_tupA _ _ _ _ _ (@pa_c _ _ _ _ _ (@pe_ix _ _ _ _ _ _ _ (@ixL_k _ (K) (by rfl)) (@pw _ 1 _ _ (Or.inl k_l_eight_by_l_names) (by rfl) (by decide) (by decide)) (@pe_int _ _ _ _) (fun _ _ => rfl)) (@pa_c _ _ _ _ _ (@pe_ix _ _ _ _ _ _ _ (@ixL_k _ (K) (by rfl)) (@pw _ 1 _ _ (Or.inl k_l_eight_by_l_names) (by rfl) (by decide) (by decide)) (@pe_int _ _ _ _) (fun _ _ => rfl)) (@pa_nil _) rfl) rfl)) (@pa_c _ _ _ _ _ (@pe_tupA _ _ _ _ _ (@pa_c _ _ _ _ _ (@pe_ix _ _ _ _ _ _ _ (@ixL_k _ (K) (by rfl)) (@pw _ 1 _ _ (Or.inl k_l_eight_by_l_names) (by rfl) (by decide) (by decide)) (@pe_int _ _ _ _) (fun _ _ => rfl)) (@pa_c _ _ _ _ _ (@pe_ix _ _ _ _ _ _ _ (@ixL_k _ (K) (by rfl)) (@pw _ 1 _ _ (Or.inl k_l_eight_by_l_names) (by rfl) (by decide) (by decide)) (@pe_int _ _ _ _) (fun _ _ => rfl)) (@pa_nil _) rfl) rfl)) (@pa_nil _) rfl) rfl) rfl) rfl)) (by rfl) (by first | exact .inl rfl | exact .inr rfl | assumption)) (@pss_cons _ _ _ _ _ (@ps_setComp _ _ _ _ _ _ _ (["_law_one", "_law_other", "_law_box"]) (2) ([0]) _ _ _ _ (4) _ _ _ sc_l_eight_by.nd rfl k_l_eight_by_l_ties (by kernel_rfl) rfl (by kernel_rfl) (@pi_list_k _ (K) _ _ _ (@pw _ 3 _ _ (Or.inl k_l_eight_by_l_pairs) (by rfl) (by decide) (by decide)) (by rfl)) (fun _ _ _ _ _ _ => (@pg_tup_k _ (K) _ _ _ _ (2) rfl (@pgs_cons _ _ _ _ _ (@pg_name _ _ (0) _ (@nodupS _ (by kernel_rfl)) rfl (Or.inl (by kernel_rfl)) (by first | exact .inl rfl | exact .inr rfl | assumption)) (@pgs_cons _ _ _ _ _ (@pg_name _ _ (1) _ (@nodupS _ (by kernel_rfl)) rfl (Or.inl (by kernel_rfl)) (by first | exact .inl rfl | exact .inr rfl | assumption)) (@pgs_nil _) (by rfl)) (by rfl)) (by rfl) (by rfl) (by rfl))) (fun _ _ _ _ _ _ => @pifs_nil _) (fun _ _ _ _ _ _ => (@pe_tupA _ _ _ _ _ (@pa_c _ _ _ _ _ (@pw _ 0 _ _ (Or.inl (by kernel_rfl)) (by rfl) (by decide) (by decide)) (@pa_c _ _ _ _ _ (@pw _ 1 _ _ (Or.inl (by kernel_rfl)) (by rfl) (by decide) (by decide)) (@pa_c _ _ _ _ _ (@pe_call _ _ _ _ _ _ _ _ _ _ _ _ _ _ _ _ G_l_most_by (hr.mono (by decide)) (by show _ = _; kernel_rfl) T.m_l_most_by T.F_l_most_by.kp T.B_l_most_by .nil (@pass0 _) (@pa_c _ _ _ _ _ (@pw _ 2 _ _ (Or.inr (Or.inl (by kernel_rfl))) (by rfl) (by decide) (by decide)) (@pa_nil _) rfl) (by decide) (by rfl) (by rfl)) (@pa_c _ _ _ _ _ (@pe_call _ _ _ _ _ _ _ _ _ _ _ _ _ _ _ _ G_l_gain_by (hr.mono (by decide)) (by show _ = _; kernel_rfl) T.m_l_gain_by T.F_l_gain_by.kp T.B_l_gain_by .nil (@pass0 _) (@pa_c _ _ _ _ _ (@pw _ 2 _ _ (Or.inr (Or.inl (by kernel_rfl))) (by rfl) (by decide) (by decide)) (@pa_nil _) rfl) (by decide) (by rfl) (by rfl)) (@pa_c _ _ _ _ _ (@pe_tupA _ _ _ _ _ (@pa_c _ _ _ _ _ (@pe_int _ _ _ _) (@pa_c _ _ _ _ _ (@pe_int _ _ _ _) (@pa_nil _) rfl) rfl)) (@pa_nil _) rfl) rfl) rfl) rfl) rfl))) (by intro _; rfl)) (@pss_one _ _ _ (@ps_ret _ _ _ _ (@pe_tupA _ _ _ _ _ (@pa_c _ _ _ _ _ (@pe_tupA _ _ _ _ _ (@pa_c _ _ _ _ _ (@pe_callTy _ _ _ _ _ _ _ _ _ (@call_tuple_ofA _ (K) (by rfl)) k_l_eight_by_tuple T.b_tuple (@boot_ty_tuple) (@pa_c _ _ _ _ _ (@pw _ 1 _ _ (Or.inl k_l_eight_by_l_names) (by rfl) (by decide) (by decide)) (@pa_nil _) rfl) (by decide) (by decide) (by rfl) (by rfl)) (@pa_c _ _ _ _ _ (@pe_callTy _ _ _ _ _ _ _ _ _ (@call_tuple_ofA _ (K) (by rfl)) k_l_eight_by_tuple T.b_tuple (@boot_ty_tuple) (@pa_c _ _ _ _ _ (@pw _ 4 _ _ (Or.inl k_l_eight_by_l_ties) (by rfl) (by decide) (by decide)) (@pa_nil _) rfl) (by decide) (by decide) (by rfl) (by rfl)) (@pa_nil _) rfl) rfl)) (@pa_c _ _ _ _ _ (@pe_ix _ _ _ _ _ _ _ (@ixL_k _ (K) (by rfl)) (@pe_lstA _ _ _ _ (@pa_c _ _ _ _ _ (@pe_lstA _ _ _ _ (@pa_c _ _ _ _ _ (@pe_int _ _ _ _) (@pa_c _ _ _ _ _ (@pe_int _ _ _ _) (@pa_c _ _ _ _ _ (@pe_int _ _ _ _) (@pa_c _ _ _ _ _ (@pe_int _ _ _ _) (@pa_nil _) rfl) rfl) rfl) rfl)) (@pa_c _ _ _ _ _ (@pe_lstA _ _ _ _ (@pa_c _ _ _ _ _ (@pe_int _ _ _ _) (@pa_c _ _ _ _ _ (@pe_int _ _ _ _) (@pa_c _ _ _ _ _ (@pe_int _ _ _ _) (@pa_c _ _ _ _ _ (@pe_int _ _ _ _) (@pa_nil _) rfl) rfl) rfl) rfl)) (@pa_nil _) rfl) rfl)) (@pw _ 2 _ _ (Or.inl k_l_eight_by_l_first) (by rfl) (by decide) (by decide)) (fun _ _ => rfl)) (@pa_nil _) rfl) rfl))))))), ?_⟩
    refine seqP fun QA nA => ?_
    refine ⟨_, rfl, b, 3, t, rfl, B, ht0, by trivial, by decide, by decide, fun D ls t1 H1 fD s1 hD lls nd nc B1 h1a h1b => ⟨_, rfl, b, 2, t1, rfl, B1, by decide, by decide, by trivial, by trivial, fun r t2 H2 r0 r1 h2a h2b s2 B2 => ?_⟩⟩
    refine nA _ _ _ ?_
    clear nA
    obtain ⟨x, y, z, rfl⟩ : Ex3 fun x y z => ls = [x, y, z] := len3 (P := fun l => Ex3 fun x y z => l = [x, y, z]) (fun a b c => ⟨a, b, c, rfl⟩) _ lls
    have nDb : ¬ D = b := fun e => B.ne fD e.symm
    have hD2 := s2.old D _ nDb hD
    have s02 := s1.trans s2
    refine seqA fun QB nB => ?_
    refine ⟨_, rfl, D, _, _, _, rfl, rfl, SqL.of hD2, rfl, _, rfl, D, _, _, _, rfl, rfl, SqL.of hD2, rfl, (by show 2 ≤ 10000; decide), fun p1 J1 m1 => ?_⟩
    have d1 := m1.sm _ _ hD2
    refine ⟨_, rfl, D, _, _, _, rfl, rfl, SqL.of d1, rfl, _, rfl, D, _, _, _, rfl, rfl, SqL.of d1, rfl, (by show 2 ≤ 10000; decide), fun p2 J2 m2 => ?_⟩
    have d2 := m2.sm _ _ d1
    refine ⟨_, rfl, D, _, _, _, rfl, rfl, SqL.of d2, rfl, _, rfl, D, _, _, _, rfl, rfl, SqL.of d2, rfl, (by show 2 ≤ 10000; decide), fun p3 J3 m3 => ?_⟩
    have d3 := m3.sm _ _ d2
    refine ⟨_, rfl, D, _, _, _, rfl, rfl, SqL.of d3, rfl, _, rfl, D, _, _, _, rfl, rfl, SqL.of d3, rfl, (by show 2 ≤ 10000; decide), fun p4 J4 m4 => ⟨(by show 4 ≤ 10000; decide), fun PL J5 m5 => ?_⟩⟩
    refine nB _ _ ?_
    clear nB
    have g1 : J5 p1 = some (.tup [strV x, strV y]) := m5.sm _ _ (m4.sm _ _ (m3.sm _ _ (m2.sm _ _ m1.at')))
    have g2 : J5 p2 = some (.tup [strV y, strV x]) := m5.sm _ _ (m4.sm _ _ (m3.sm _ _ m2.at'))
    have g3 : J5 p3 = some (.tup [strV x, strV z]) := m5.sm _ _ (m4.sm _ _ m3.at')
    have g4 : J5 p4 = some (.tup [strV z, strV x]) := m5.sm _ _ m4.at'
    have S25 : Same H2 J5 := (((m1.sm.trans m2.sm).trans m3.sm).trans m4.sm).trans m5.sm
    have B5 := B2.same S25
    have nPb : ¬ PL = b := fun e => (((((B2.same m1.sm).same m2.sm).same m3.sm).same m4.sm)).ne m5.fr e.symm
    have s05 : SameE (Eb b) H J5 := s02.trans S25.toE
    refine seqH fun DT nT => ?_
    refine ⟨_, rfl, PL, rfl, ⟨_, SqL.of m5.at'⟩, fun D2 hD2' => comp_ties (K := K) (n := 4) (t := t2) (fun i => (([x, y, x, z] : List (List Nat))[i]?).getD []) (fun i => (([y, x, z, x] : List (List Nat))[i]?).getD []) (by decide) hD2' B5 (by trivial) (by trivial) (fun i H' hi sE => ⟨_, _, SqL.of (sE.old PL _ nPb m5.at'), by simp [hi]; rfl⟩) (fun H' sE => ⟨_, SqL.of (sE.old PL _ nPb m5.at'), Nat.le_refl _⟩) ?_ ?_⟩
    · rintro i x' H' H'' R tt hi sE Bt h0' h1' ⟨rfl, ex⟩ kk
      have exi := ex _ (SqL.of (sE.old PL _ nPb m5.at'))
      obtain e | e | e | e : i = 0 ∨ i = 1 ∨ i = 2 ∨ i = 3 := by trivial
      · subst e
        obtain rfl : V.ref p1 = x' := Option.some.inj exi
        exact ⟨p1, _, rfl, SqT.of (sE.tup _ _ g1), rfl, _, _, rfl, _, _, rfl, rfl, back2, tie_el Bt h0' h1' kk⟩
      · subst e
        obtain rfl : V.ref p2 = x' := Option.some.inj exi
        exact ⟨p2, _, rfl, SqT.of (sE.tup _ _ g2), rfl, _, _, rfl, _, _, rfl, rfl, back2, tie_el Bt h0' h1' kk⟩
      · subst e
        obtain rfl : V.ref p3 = x' := Option.some.inj exi
        exact ⟨p3, _, rfl, SqT.of (sE.tup _ _ g3), rfl, _, _, rfl, _, _, rfl, rfl, back2, tie_el Bt h0' h1' kk⟩
      · subst e
        obtain rfl : V.ref p4 = x' := Option.some.inj exi
        exact ⟨p4, _, rfl, SqT.of (sE.tup _ _ g4), rfl, _, _, rfl, _, _, rfl, rfl, back2, tie_el Bt h0' h1' kk⟩
    · intro zs ts t3 H6 s6 hD6 ia lt fa tg B6 h6a h6b
      refine nT _ _ ?_
      clear nT
      have hD6n := s6.old D _ nDb (S25 _ _ hD2)
      obtain ⟨t0, t1', t2', t3', rfl⟩ : Ex4 fun a b c d => ts = [a, b, c, d] := len4 (P := fun l => Ex4 fun a b c d => l = [a, b, c, d]) (fun a b c d => ⟨a, b, c, d, rfl⟩) _ lt
      have f0 := fa 0 t0 rfl
      have f1 := fa 1 t1' rfl
      have f2 := fa 2 t2' rfl
      have f3 := fa 3 t3' rfl
      have ec : ∀ is, (is = [0, 1, 2, 3] ∨ is = [3, 0, 1, 2]) → EightC [t0, t1', t2', t3'] is := fun is hi => by
        refine ⟨hi, rfl, ⟨x, y, z, ?_, ?_, ?_, ?_, ?_⟩, tg⟩
        · intro e; rw [e] at nd; simp at nd
        · intro e; rw [e] at nd; simp at nd
        · intro e; rw [e] at nd; simp at nd
        · show [t0.bg, t1'.bg, t2'.bg, t3'.bg] = _
          rw [f0.1, f1.1, f2.1, f3.1]; rfl
        · show [t0.en, t1'.en, t2'.en, t3'.en] = _
          rw [f0.2, f1.2, f2.2, f3.2]; rfl
      refine ⟨_, rfl, D, _, rfl, SqL.of hD6n, fun q1 G1 u1 => ⟨_, rfl, D2, zs, rfl, SqL.of (u1.sm _ _ hD6), fun q2 G2 u2 => ⟨(by show 2 ≤ 10000; decide), fun nv G3 u3 => ⟨(by show 4 ≤ 10000; decide), fun a1 G4 u4 => ⟨(by show 4 ≤ 10000; decide), fun a2 G5 u5 => ⟨(by show 2 ≤ 10000; decide), fun a3 G6 u6 => ?_⟩⟩⟩⟩⟩⟩
      have v26 := (((u3.sm.trans u4.sm).trans u5.sm).trans u6.sm)
      have v66 := (u1.sm.trans u2.sm).trans v26
      have fin : ∀ wa is o G7, (is = [0, 1, 2, 3] ∨ is = [3, 0, 1, 2]) → G6 wa = some (.lst (nts is)) → Nw G6 o (.tup [.ref nv, .ref wa]) G7 → Q (.ref o) G7 := fun wa is o G7 hi hwa u7 => by
        have v67 := v66.trans u7.sm
        refine k o (.ref nv) wa [x, y, z] _ is t3 G7 ((s05.trans s6).trans v67.toE) u7.at' ?_ (u7.sm _ _ hwa) (ec is hi) (B6.same v67) (by trivial) (by trivial)
        refine .tup (u7.sm _ _ (u6.sm _ _ (u5.sm _ _ (u4.sm _ _ u3.at')))) (.cons (.tup (u7.sm _ _ (v26 _ _ (u2.sm _ _ u1.at'))) (.cons (.str _) (.cons (.str _) (.cons (.str _) .nil)))) (.cons (.tup (u7.sm _ _ (v26 _ _ u2.at')) ?_) .nil))
        exact ia.mono v67.toE
      obtain e | e : r = 0 ∨ r = 1 := by trivial
      · subst e
        exact ⟨_, rfl, a3, _, _, _, rfl, rfl, SqL.of u6.at', rfl, (by show 2 ≤ 10000; decide), fun o G7 u7 => fin a1 _ o G7 (.inl rfl) (u6.sm _ _ (u5.sm _ _ u4.at')) u7⟩
      · subst e
        exact ⟨_, rfl, a3, _, _, _, rfl, rfl, SqL.of u6.at', rfl, (by show 2 ≤ 10000; decide), fun o G7 u7 => fin a2 _ o G7 (.inr rfl) (u6.sm _ _ u5.at') u7⟩
end
end K09
namespace K09
open PySem L2
structure ChainC (ls : List (List Nat)) (ts : List TieD) (is : List Nat) (home : Bool) : Prop where
  l2 : 2 ≤ is.length
  l10 : is.length ≤ 10
  len : ts.length = is.length
  lt : ∀ i ∈ is, i < ts.length
  nd : is.Nodup
  g : ∀ t ∈ ts, TieG t
  ll : ls.length ≤ 11
  lc : ∀ l ∈ ls, NameC l
  tc : ∀ t ∈ ts, NameC t.bg ∧ NameC t.en
  row : ∃ row : List (List Nat), row.length = is.length + 1 ∧ (∀ j i, is[j]? = some i → ts[i]?.map TieD.bg = row[j]? ∧ ts[i]?.map TieD.en = row[j + 1]?) ∧ (row.take is.length).Nodup ∧ (home = decide (row[is.length]? = row[0]?))
theorem num_atoms {n : Nat} (hn : n ≤ 100) : ∀ x ∈ rngL n, Atom x := fun x hx => by
  obtain ⟨k, hk, rfl⟩ := List.mem_map.mp hx
  have hk := List.mem_range.mp hk
  exact ⟨.int k, fun _ _ => .int _, .int (by show ((k : Nat) : Int).natAbs < 2 ^ 1900; rw [Int.natAbs_natCast]; exact Nat.lt_of_lt_of_le (Nat.lt_two_pow_self (n := k)) (Nat.pow_le_pow_right (by decide) (by trivial)))⟩
theorem name_atoms {ls : List (List Nat)} (h : ∀ l ∈ ls, NameC l) : ∀ x ∈ ls.map strV, Atom x := fun x hx => by
  obtain ⟨l, hl, rfl⟩ := List.mem_map.mp hx
  exact ⟨.str (S l), fun _ _ => .str _, .str ⟨by rw [S_len]; exact Nat.le_trans (h l hl).hi (by decide), fun c hc => by have := (h l hl).az c (by simpa [S] using hc); trivial⟩⟩
theorem nd_get {ls : List (List Nat)} (nd : ls.Nodup) {i j : Nat} {x : List Nat} (h1 : ls[i]? = some x) (h2 : ls[j]? = some x) : i = j := by
  obtain ⟨a, b⟩ := List.getElem?_eq_some_iff.mp h1
  obtain ⟨c, d⟩ := List.getElem?_eq_some_iff.mp h2
  exact (List.getElem_inj nd).mp (b.trans d.symm)
theorem row_of {ls : List (List Nat)} {h : Int} {mn : Nat} (nd : ls.Nodup) (nc : ∀ l ∈ ls, NameC l) (hh : h = 0 ∨ h = 1) (hl : ls.length = ((mn : Int) + 1 - h).toNat) (h2 : 2 ≤ mn) :
    ∃ row : List (List Nat), ls.map strV ++ (List.replicate h.toNat (cutV (ls.map strV) none (some 1))).flatten = row.map strV ∧ row.length = mn + 1 ∧ (row.take mn).Nodup ∧ decide (V.int h = V.int 1) = decide (row[mn]? = row[0]?) ∧ ∀ l ∈ row, NameC l := by
  rcases hh with rfl | rfl
  · refine ⟨ls, by simp, by trivial, nd.sublist (List.take_sublist _ _), ?_, nc⟩
    have hlen : ls.length = mn + 1 := by trivial
    rw [decide_eq_false (by simp), eq_comm, decide_eq_false_iff_not]
    intro e
    have e0 : ls[0]? = some ls[0] := List.getElem?_eq_getElem (by trivial)
    rw [e0] at e
    have := nd_get nd e e0
    trivial
  · have hlen : ls.length = mn := by trivial
    cases ls with
    | nil => simp at hlen; trivial
    | cons l0 lr =>
      refine ⟨l0 :: lr ++ [l0], ?_, by rw [List.length_append, hlen]; rfl, ?_, ?_, ?_⟩
      · rw [cutV_take (by decide)]
        simp
      · rw [List.take_append_of_le_length (by trivial), List.take_of_length_le (by trivial)]
        exact nd
      · rw [decide_eq_true rfl, eq_comm, decide_eq_true_iff]
        rw [List.getElem?_append_right (by trivial), hlen, Nat.sub_self]
        rfl
      · intro l hm
        rcases List.mem_append.mp hm with q | q
        · exact nc l q
        · rw [List.mem_singleton.mp q]; exact nc l0 List.mem_cons_self
theorem perm_nums {ys : List V} {n : Nat} (h : ys.Perm (rngL n)) : ∃ os : List Nat, ys = nts os ∧ os.Perm (List.range n) := by
  let g : V → Nat := fun v => match v with
    | .int i => i.toNat
    | _ => 0
  refine ⟨ys.map g, ?_, ?_⟩
  · have all : ∀ y ∈ ys, y = V.int ((g y : Nat) : Int) := fun y hy => by
      obtain ⟨k, _, rfl⟩ := List.mem_map.mp (h.subset hy)
      show V.int (k : Int) = V.int (((k : Int).toNat : Nat) : Int)
      rw [Int.toNat_natCast]
    show ys = (ys.map g).map fun i : Nat => V.int ((i : Nat) : Int)
    rw [List.map_map]
    exact (List.map_id' ys).symm.trans (List.map_congr_left fun y hy => all y hy)
  · have := h.map g
    have e : (rngL n).map g = List.range n := by
      show ((List.range n).map fun (k : Nat) => V.int (k : Int)).map g = _
      rw [List.map_map]
      refine (List.map_congr_left fun k _ => ?_).trans (List.map_id' _)
      show ((k : Int).toNat : Nat) = k
      exact Int.toNat_natCast k
    rw [e] at this
    exact this
theorem perm_names {ys : List V} {ls : List (List Nat)} (h : ys.Perm (ls.map strV)) : ∃ ms : List (List Nat), ys = ms.map strV ∧ ms.Perm ls := by
  let g : V → List Nat := fun v => match v with
    | .str s => s.cps.toList
    | _ => []
  have gS : ∀ l, g (strV l) = l := fun l => S_list l
  refine ⟨ys.map g, ?_, ?_⟩
  · have all : ∀ y ∈ ys, y = strV (g y) := fun y hy => by
      obtain ⟨l, _, rfl⟩ := List.mem_map.mp (h.subset hy)
      rw [gS]
    rw [List.map_map]
    exact (List.map_id' ys).symm.trans (List.map_congr_left fun y hy => all y hy)
  · have := h.map g
    have e : (ls.map strV).map g = ls := by
      rw [List.map_map]
      exact (List.map_congr_left fun l _ => gS l).trans (List.map_id' _)
    rw [e] at this
    exact this
theorem isAll_map {α : Type} {E : Addr → Prop} {H : Hp} {F : α → V} {G : α → PyData} : ∀ {os : List α}, (∀ k ∈ os, IsD E H (F k) (G k)) → IsAll E H (os.map F) (os.map G) := by
  intro os
  induction os with
  | nil => intro _; exact .nil
  | cons k r ih => intro h; exact .cons (h k List.mem_cons_self) (ih fun j hj => h j (List.mem_cons_of_mem _ hj))
def tie0 : TieD := ⟨[], [], (0, 1), (1, 1), (0, 1)⟩
def tiesBy (ts : List TieD) (os : List Nat) : List TieD := os.map fun k => (ts[k]?).getD tie0
def numsOf (os : List Nat) (n : Nat) : List Nat := (List.range n).map fun j => os.idxOf j
theorem idx_ok {os : List Nat} {n j : Nat} (p : os.Perm (List.range n)) (hj : j < n) : os[os.idxOf j]? = some j ∧ os.idxOf j < n := by
  have hm : j ∈ os := p.symm.subset (List.mem_range.mpr hj)
  have hlt := List.idxOf_lt_length_of_mem hm
  have hl : os.length = n := by rw [p.length_eq, List.length_range]
  refine ⟨?_, by trivial⟩
  rw [List.getElem?_eq_getElem hlt, List.getElem_idxOf hlt]
theorem chain_facts {ls ms row : List (List Nat)} {ts : List TieD} {os : List Nat} {mn : Nat} {home : Bool} (nc : ∀ l ∈ ls, NameC l) (hms : ms.Perm ls) (lls : ls.length ≤ 11) (h2 : 2 ≤ mn) (h10 : mn ≤ 10) (lrow : row.length = mn + 1) (nd : (row.take mn).Nodup) (hh : home = decide (row[mn]? = row[0]?)) (ncr : ∀ l ∈ row, NameC l)
    (lt : ts.length = mn) (fa : ∀ i tt, ts[i]? = some tt → tt.bg = (row[i]?).getD [] ∧ tt.en = (row[i + 1]?).getD []) (tg : ∀ tt ∈ ts, TieG tt) (pos : os.Perm (List.range mn)) : ChainC ms (tiesBy ts os) (numsOf os mn) home := by
  have los : os.length = mn := by rw [pos.length_eq, List.length_range]
  have ln : (numsOf os mn).length = mn := by rw [numsOf, List.length_map, List.length_range]
  have lb : (tiesBy ts os).length = mn := by rw [tiesBy, List.length_map, los]
  have olt : ∀ k ∈ os, k < mn := fun k hk => List.mem_range.mp (pos.subset hk)
  have mem : ∀ tt ∈ tiesBy ts os, ∃ k, k < mn ∧ ts[k]? = some tt := fun tt hm => by
    obtain ⟨k, hk, e⟩ := List.mem_map.mp hm
    have hk' := olt k hk
    have e' : ts[k]? = some ts[k] := List.getElem?_eq_getElem (by trivial)
    rw [e', Option.getD_some] at e
    exact ⟨k, hk', by rw [e', e]⟩
  have rg : ∀ j, j ≤ mn → row[j]? = some ((row[j]?).getD []) := fun j hj => by
    have : row[j]? = some row[j] := List.getElem?_eq_getElem (by trivial)
    rw [this]; rfl
  refine ⟨by trivial, by trivial, by trivial, fun i hi => ?_, ?_, fun tt hm => ?_, by rw [hms.length_eq]; exact lls, fun l hl => nc l (hms.subset hl), fun tt hm => ?_, ⟨row, by trivial, fun j i e => ?_, by rw [ln]; exact nd, by rw [ln]; exact hh⟩⟩
  · obtain ⟨j, hj, rfl⟩ := List.mem_map.mp hi
    rw [lb]
    exact (idx_ok pos (List.mem_range.mp hj)).2
  · unfold numsOf
    rw [List.Nodup, List.pairwise_map]
    refine List.Pairwise.imp_of_mem (fun {a c} ha hc ne e => ne ?_) (List.nodup_range (n := mn))
    have a1 := (idx_ok pos (List.mem_range.mp ha)).1
    have c1 := (idx_ok pos (List.mem_range.mp hc)).1
    rw [e, c1] at a1
    exact (Option.some.inj a1).symm
  · obtain ⟨k, _, e⟩ := mem tt hm
    exact tg tt (List.mem_of_getElem? e)
  · obtain ⟨k, hk, e⟩ := mem tt hm
    obtain ⟨e1, e2⟩ := fa k tt e
    rw [e1, e2]
    exact ⟨ncr _ (List.mem_of_getElem? (rg k (by trivial))), ncr _ (List.mem_of_getElem? (rg (k + 1) (by trivial)))⟩
  · have hj : j < mn := by
      have := (List.getElem?_eq_some_iff.mp e).1
      trivial
    unfold numsOf at e
    rw [List.getElem?_map, List.getElem?_range hj] at e
    obtain rfl := Option.some.inj e
    obtain ⟨o1, o2⟩ := idx_ok pos hj
    have ej : ts[j]? = some ts[j] := List.getElem?_eq_getElem (by trivial)
    have et : (tiesBy ts os)[os.idxOf j]? = some ts[j] := by
      rw [tiesBy, List.getElem?_map, o1]
      show some ((ts[j]?).getD tie0) = _
      rw [ej]; rfl
    obtain ⟨e1, e2⟩ := fa j _ ej
    rw [et]
    show some ts[j].bg = _ ∧ some ts[j].en = _
    rw [e1, e2]
    exact ⟨(rg j (by trivial)).symm, (rg (j + 1) (by trivial)).symm⟩
section
variable {P : Program} {w : World} {K : PySem.W.Frag} {mg : Str → Option Value} {base : Heap}
inductive spChain_ (vs : List V) (H : Hp) (Q : VK) : Prop
  | mk (b : Addr) (t : Int) (h0 : vs = [.ref b]) (h1 : Bx H b t) (h2 : 0 ≤ t) (h3 : t ≤ 600000) (h4 : ∀ o nv wa ls ts is home t' H', SameE (Eb b) H H' → H' o = some (.tup [nv, .ref wa, .bl home]) → IsD ED H' nv (netD ls ts) → H' wa = some (.lst (nts is)) → ¬ wa = b → ChainC ls ts is home → Bx H' b t' → t ≤ t' → t' ≤ t + 400 → Q (.ref o) H')
def spChain : Sp := fun vs H Q _ => spChain_  vs H Q
theorem ok_chain (T : Txt K mg) : FnOk P w K mg base CX0 3 T.f_l_chain_by T.d_l_chain_by ["_law_box"] spChain := by
  have G_l_take := ok_take (P := P) (w := w) (base := base) T
  have G_l_names_by := ok_names_by (P := P) (w := w) (base := base) T
  have G_l_most_by := ok_most_by (P := P) (w := w) (base := base) T
  have G_l_gain_by := ok_gain_by (P := P) (w := w) (base := base) T
  have G_l_mixed := ok_mixed (P := P) (w := w) (base := base) T
  refine T.F_l_chain_by.ok sc_l_chain_by (fun vs H Q E h => ?_) (fun cdv A outer s H vs Q E hr h => ?_)
  · obtain ⟨b, t, rfl, _⟩ := h
    rfl
  · obtain ⟨b, t, rfl, B, ht0, ht1, k⟩ := h
    refine ⟨_, (@pss_cons _ _ _ _ _ (@ps_set _ _ (1) _ _ _ _ sc_l_chain_by.nd rfl (Or.inl k_l_chain_by_l_home) (@pe_call _ _ _ _ _ _ _ _ _ _ _ _ _ _ _ _ G_l_take (hr.mono (by decide)) k_l_chain_by_l_take T.m_l_take T.F_l_take.kp T.B_l_take .nil (@pass0 _) (@pa_c _ _ _ _ _ (@pw _ 0 _ _ (Or.inr (Or.inl k_l_chain_by_l_box)) (by rfl) (by decide) (by decide)) (@pa_c _ _ _ _ _ (@pe_int _ _ _ _) (@pa_nil _) rfl) rfl) (by decide) (by rfl) (by rfl)) (by rfl) (by first | exact .inl rfl | exact .inr rfl | assumption)) (@pss_cons _ _ _ _ _ (@ps_set _ _ (2) _ _ _ _ sc_l_chain_by.nd rfl (Or.inl k_l_chain_by_l_many) (@pe_op _ _ _ _ _ _ _ _ (@op_add _) (@pe_int _ _ _ _) (@pe_call _ _ _ _ _ _ _ _ _ _ _ _ _ _ _ _ G_l_take (hr.mono (by decide)) k_l_chain_by_l_take T.m_l_take T.F_l_take.kp T.B_l_take .nil (@pass0 _) (@pa_c _ _ _ _ _ (@pw _ 0 _ _ (Or.inr (Or.inl k_l_chain_by_l_box)) (by rfl) (by decide) (by decide)) (@pa_c _ _ _ _ _ (@pe_op _ _ _ _ _ _ _ _ (@op_add _) (@pe_int _ _ _ _) (@pw _ 1 _ _ (Or.inl k_l_chain_by_l_home) (by rfl) (by decide) (by decide))) (@pa_nil _) rfl) rfl) (by decide) (by rfl) (by rfl))) (by rfl) (by first | exact .inl rfl | exact .inr rfl | assumption)) (@pss_cons _ _ _ _ _ (@ps_set _ _ (3) _ _ _ _ sc_l_chain_by.nd rfl (Or.inl k_l_chain_by_l_places) (@pe_call _ _ _ _ _ _ _ _ _ _ _ _ _ _ _ _ G_l_names_by (hr.mono (by decide)) k_l_chain_by_l_names_by T.m_l_names_by T.F_l_names_by.kp T.B_l_names_by .nil (@pass0 _) (@pa_c _ _ _ _ _ (@pw _ 0 _ _ (Or.inr (Or.inl k_l_chain_by_l_box)) (by rfl) (by decide) (by decide)) (@pa_c _ _ _ _ _ (@pe_op _ _ _ _ _ _ _ _ (@op_sub _) (@pe_op _ _ _ _ _ _ _ _ (@op_add _) (@pw _ 2 _ _ (Or.inl k_l_chain_by_l_many) (by rfl) (by decide) (by decide)) (@pe_int _ _ _ _)) (@pw _ 1 _ _ (Or.inl k_l_chain_by_l_home) (by rfl) (by decide) (by decide))) (@pa_nil _) rfl) rfl) (by decide) (by rfl) (by rfl)) (by rfl) (by first | exact .inl rfl | exact .inr rfl | assumption)) (@pss_cons _ _ _ _ _ (@ps_set _ _ (4) _ _ _ _ sc_l_chain_by.nd rfl (Or.inl k_l_chain_by_l_row) (@pe_op _ _ _ _ _ _ _ _ (@op_catA _) (@pw _ 3 _ _ (Or.inl k_l_chain_by_l_places) (by rfl) (by decide) (by decide)) (@pe_op _ _ _ _ _ _ _ _ (@op_repA _) (@pe_slice _ _ _ _ _ _ _ _ _ _ (@sl_listA _ (K) (by rfl)) (@pw _ 3 _ _ (Or.inl k_l_chain_by_l_places) (by rfl) (by decide) (by decide)) (@po_none _) (@po_some _ _ _ (@pe_int _ _ _ _))) (@pw _ 1 _ _ (Or.inl k_l_chain_by_l_home) (by rfl) (by decide) (by decide)))) (by rfl) (by first | exact .inl rfl | exact .inr rfl | assumption)) (@pss_cons _ _ _ _ _ (@ps_set _ _ (5) _ _ _ _ sc_l_chain_by.nd rfl (Or.inr k_l_chain_by_l_ties) (@pe_comp _ _ _ _ _ _ _ (["_law_one", "_law_other", "_law_box"]) (2) ([0]) _ _ _ _ rfl (by kernel_rfl) (@pi_zip_k _ (K) _ _ _ _ _ _ _ _ k_l_chain_by_zip T.b_zip (@pa_c _ _ _ _ _ (@pw _ 4 _ _ (Or.inl k_l_chain_by_l_row) (by rfl) (by decide) (by decide)) (@pa_c _ _ _ _ _ (@pe_slice _ _ _ _ _ _ _ _ _ _ (@sl_listA _ (K) (by rfl)) (@pw _ 4 _ _ (Or.inl k_l_chain_by_l_row) (by rfl) (by decide) (by decide)) (@po_some _ _ _ (@pe_int _ _ _ _)) (@po_none _)) (@pa_nil _) rfl) rfl) (by rfl) (by rfl) (by rfl)) (fun _ _ _ _ _ _ => (@pg_tup_k _ (K) _ _ _ _ (2) rfl (@pgs_cons _ _ _ _ _ (@pg_name _ _ (0) _ (@nodupS _ (by kernel_rfl)) rfl (Or.inl (by kernel_rfl)) (by first | exact .inl rfl | exact .inr rfl | assumption)) (@pgs_cons _ _ _ _ _ (@pg_name _ _ (1) _ (@nodupS _ (by kernel_rfl)) rfl (Or.inl (by kernel_rfl)) (by first | exact .inl rfl | exact .inr rfl | assumption)) (@pgs_nil _) (by rfl)) (by rfl)) (by rfl) (by rfl) (by rfl))) (fun _ _ _ _ _ _ => @pifs_nil _) (fun _ _ _ _ _ _ => (@pe_tupA _ _ _ _ _ (@pa_c _ _ _ _ _ (@pw _ 0 _ _ (Or.inl (by kernel_rfl)) (by rfl) (by decide) (by decide)) (@pa_c _ _ _ _ _ (@pw _ 1 _ _ (Or.inl (by kernel_rfl)) (by rfl) (by decide) (by decide)) (@pa_c _ _ _ _ _ (@pe_call _ _ _ _ _ _ _ _ _ _ _ _ _ _ _ _ G_l_most_by (hr.mono (by decide)) (by show _ = _; kernel_rfl) T.m_l_most_by T.F_l_most_by.kp T.B_l_most_by .nil (@pass0 _) (@pa_c _ _ _ _ _ (@pw _ 2 _ _ (Or.inr (Or.inl (by kernel_rfl))) (by rfl) (by decide) (by decide)) (@pa_nil _) rfl) (by decide) (by rfl) (by rfl)) (@pa_c _ _ _ _ _ (@pe_call _ _ _ _ _ _ _ _ _ _ _ _ _ _ _ _ G_l_gain_by (hr.mono (by decide)) (by show _ = _; kernel_rfl) T.m_l_gain_by T.F_l_gain_by.kp T.B_l_gain_by .nil (@pass0 _) (@pa_c _ _ _ _ _ (@pw _ 2 _ _ (Or.inr (Or.inl (by kernel_rfl))) (by rfl) (by decide) (by decide)) (@pa_nil _) rfl) (by decide) (by rfl) (by rfl)) (@pa_c _ _ _ _ _ (@pe_tupA _ _ _ _ _ (@pa_c _ _ _ _ _ (@pe_int _ _ _ _) (@pa_c _ _ _ _ _ (@pe_int _ _ _ _) (@pa_nil _) rfl) rfl)) (@pa_nil _) rfl) rfl) rfl) rfl) rfl))) (by intro _; rfl)) (by rfl) (by first | exact .inl rfl | exact .inr rfl | assumption)) (@pss_cons _ _ _ _ _ (@ps_set _ _ (6) _ _ _ _ sc_l_chain_by.nd rfl (Or.inr k_l_chain_by_l_order) (@pe_call _ _ _ _ _ _ _ _ _ _ _ _ _ _ _ _ G_l_mixed (hr.mono (by decide)) k_l_chain_by_l_mixed T.m_l_mixed T.F_l_mixed.kp T.B_l_mixed .nil (@pass0 _) (@pa_c _ _ _ _ _ (@pw _ 0 _ _ (Or.inr (Or.inl k_l_chain_by_l_box)) (by rfl) (by decide) (by decide)) (@pa_c _ _ _ _ _ (@pe_listR _ _ _ _ _ _ _ rfl k_l_chain_by_list T.b_list (@boot_ty_list) k_l_chain_by_range T.b_range (@pa_c _ _ _ _ _ (@pw _ 2 _ _ (Or.inl k_l_chain_by_l_many) (by rfl) (by decide) (by decide)) (@pa_nil _) rfl) (by rfl) (by rfl)) (@pa_nil _) rfl) rfl) (by decide) (by rfl) (by rfl)) (by rfl) (by first | exact .inl rfl | exact .inr rfl | assumption)) (@pss_cons _ _ _ _ _ (@ps_setComp _ _ _ _ _ _ _ (["_law_k", "_law_ties"]) (1) ([5]) _ _ _ _ (7) _ _ _ sc_l_chain_by.nd rfl k_l_chain_by_l_mixed_here (by kernel_rfl) rfl (by kernel_rfl) (@pi_list_k _ (K) _ _ _ (@pw _ 6 _ _ (Or.inr (Or.inl k_l_chain_by_l_order)) (by rfl) (by decide) (by decide)) (by rfl)) (fun _ _ _ _ _ _ => (@pg_name _ _ (0) _ (@nodupS _ (by kernel_rfl)) rfl (Or.inl (by kernel_rfl)) (by first | exact .inl rfl | exact .inr rfl | assumption))) (fun _ _ _ _ _ _ => @pifs_nil _) (fun _ _ _ _ _ _ => (@pe_ix _ _ _ _ _ _ _ (@ixL_k _ (K) (by rfl)) (@pw _ 1 _ _ (Or.inr (Or.inl (by kernel_rfl))) (by rfl) (by decide) (by decide)) (@pw _ 0 _ _ (Or.inl (by kernel_rfl)) (by rfl) (by decide) (by decide)) (fun _ _ => rfl))) (by intro _; rfl)) (@pss_one _ _ _ (@ps_ret _ _ _ _ (@pe_tupA _ _ _ _ _ (@pa_c _ _ _ _ _ (@pe_tupA _ _ _ _ _ (@pa_c _ _ _ _ _ (@pe_callTy _ _ _ _ _ _ _ _ _ (@call_tuple_ofA _ (K) (by rfl)) k_l_chain_by_tuple T.b_tuple (@boot_ty_tuple) (@pa_c _ _ _ _ _ (@pe_call _ _ _ _ _ _ _ _ _ _ _ _ _ _ _ _ G_l_mixed (hr.mono (by decide)) k_l_chain_by_l_mixed T.m_l_mixed T.F_l_mixed.kp T.B_l_mixed .nil (@pass0 _) (@pa_c _ _ _ _ _ (@pw _ 0 _ _ (Or.inr (Or.inl k_l_chain_by_l_box)) (by rfl) (by decide) (by decide)) (@pa_c _ _ _ _ _ (@pw _ 3 _ _ (Or.inl k_l_chain_by_l_places) (by rfl) (by decide) (by decide)) (@pa_nil _) rfl) rfl) (by decide) (by rfl) (by rfl)) (@pa_nil _) rfl) (by decide) (by decide) (by rfl) (by rfl)) (@pa_c _ _ _ _ _ (@pe_callTy _ _ _ _ _ _ _ _ _ (@call_tuple_ofA _ (K) (by rfl)) k_l_chain_by_tuple T.b_tuple (@boot_ty_tuple) (@pa_c _ _ _ _ _ (@pw _ 7 _ _ (Or.inl k_l_chain_by_l_mixed_here) (by rfl) (by decide) (by decide)) (@pa_nil _) rfl) (by decide) (by decide) (by rfl) (by rfl)) (@pa_nil _) rfl) rfl)) (@pa_c _ _ _ _ _ (@pe_comp _ _ _ _ _ _ _ (["_law_k", "_law_order"]) (1) ([6]) _ _ _ _ rfl (by kernel_rfl) (@pi_range1 _ _ _ _ _ _ k_l_chain_by_range T.b_range (@pa_c _ _ _ _ _ (@pw _ 2 _ _ (Or.inl k_l_chain_by_l_many) (by rfl) (by decide) (by decide)) (@pa_nil _) rfl) (by rfl)) (fun _ _ _ _ _ _ => (@pg_name _ _ (0) _ (@nodupS _ (by kernel_rfl)) rfl (Or.inl (by kernel_rfl)) (by first | exact .inl rfl | exact .inr rfl | assumption))) (fun _ _ _ _ _ _ => @pifs_nil _) (fun _ _ _ _ _ _ => (@pe_bm_k _ (K) _ _ _ _ _ _ _ _ _ _ _ PySem.F.plainAttrs_list PySem.F.slot_list_index PySem.F.type_list_index (@mt_indexA _) (@pw _ 1 _ _ (Or.inr (Or.inl (by kernel_rfl))) (by rfl) (by decide) (by decide)) (@pa_c _ _ _ _ _ (@pw _ 0 _ _ (Or.inl (by kernel_rfl)) (by rfl) (by decide) (by decide)) (@pa_nil _) rfl) (by rfl) (by rfl) (by rfl) (by rfl) (by rfl) (by rfl))) (by intro _; rfl)) (@pa_c _ _ _ _ _ (@pe_cmpR _ _ _ _ _ _ _ _ (@op_eq _) (@pw _ 1 _ _ (Or.inl k_l_chain_by_l_home) (by rfl) (by decide) (by decide)) (@pe_int _ _ _ _) (@nomark _ _ (by decide) (by decide))) (@pa_nil _) rfl) rfl) rfl))))))))))), ?_⟩
    refine seqA fun QA nA => ?_
    refine ⟨_, rfl, b, 2, t, rfl, B, by decide, by decide, ht0, by trivial, fun h t1 H1 h0 h1 h1a h1b s1 B1 => ?_⟩
    refine nA _ _ ?_
    refine seqA fun QB nB => ?_
    refine ⟨_, rfl, _, rfl, _, _, rfl, rfl, b, 8 + h, t1, rfl, B1, by trivial, ?lg, by trivial, by trivial, fun r t2 H2 r0 r1 h2a h2b s2 B2 => ⟨_, _, rfl, rfl, ?_⟩⟩
    case lg =>
      obtain e | e : h = 0 ∨ h = 1 := by trivial
      · rw [e]; decide
      · rw [e]; decide
    obtain ⟨mn, emn⟩ : ∃ mn : Nat, 2 + r = (mn : Int) := ⟨(2 + r).toNat, by trivial⟩
    show QB (.int (2 + r)) H2
    rw [emn]
    refine nB _ _ ?_
    refine seqA fun QC nC => ?_
    refine ⟨_, rfl, _, rfl, _, _, rfl, rfl, _, rfl, _, _, rfl, rfl, b, (mn : Int) + 1 - h, t2, rfl, B2, by trivial, by trivial, by trivial, by trivial, fun D ls t3 H3 fD s3 hD lls nd nc B3 h3a h3b => ?_⟩
    refine nC _ _ ?_
    clear nA nB nC
    have hh : h = 0 ∨ h = 1 := by trivial
    have hm2 : 2 ≤ mn := by trivial
    have hm10 : mn ≤ 10 := by trivial
    obtain ⟨row, erow, lrow, ndrow, hhome, ncrow⟩ := row_of nd nc hh lls hm2
    have nDb : ¬ D = b := fun e => (B2.ne fD) e.symm
    refine seqA fun QD nD => ?_
    refine ⟨_, rfl, _, rfl, 1, rfl, D, _, rfl, SqL.of hD, fun q1 G1 u1 => ⟨_, rfl, q1, h, _, rfl, rfl, u1.at', by trivial, by trivial, ?sz, fun q2 G2 u2 => ⟨D, q2, _, _, rfl, rfl, u2.sm _ _ (u1.sm _ _ hD), u2.at', ?sz2, fun R G3 u3 => ?_⟩⟩⟩
    case sz =>
      rw [cutV_take (by decide)]
      have : ((ls.map strV).take (1 : Int).toNat).length ≤ 1 := by rw [List.length_take]; exact Nat.min_le_left _ _
      have h1 : h.toNat ≤ 1 := by trivial
      exact Nat.le_trans (Nat.mul_le_mul this h1) (by decide)
    case sz2 =>
      have := congrArg List.length erow
      rw [List.length_append] at this
      have l2 : (row.map strV).length = row.length := List.length_map ..
      trivial
    refine nD _ _ ?_
    clear nD
    have hR : G3 R = some (.lst (row.map strV)) := by rw [u3.at', erow]
    have S3 : Same H3 G3 := (u1.sm.trans u2.sm).trans u3.sm
    have BR := B3.same S3
    have nRb : ¬ R = b := fun e => ((B3.same u1.sm).same u2.sm).ne u3.fr e.symm
    have lrm : (row.map strV).length = mn + 1 := by rw [List.length_map, lrow]
    refine seqA fun QE nE => ?_
    refine ⟨_, rfl, _, rfl, 1, rfl, R, _, rfl, SqL.of hR, fun q3 G4 u4 => ?zz⟩
    case zz =>
    have nqb : ¬ q3 = b := fun e => BR.ne u4.fr e.symm
    refine ⟨R, q3, true, true, rfl, ⟨_, SqL.of (u4.sm _ _ hR)⟩, ⟨_, SqL.of u4.at'⟩, fun D2 hD2 => comp_ties (K := K) (n := mn) (t := t3) (fun j => (row[j]?).getD []) (fun j => (row[j + 1]?).getD []) (by trivial) hD2 (BR.same u4.sm) (by trivial) (by trivial) ?go ?st ?step ?fin⟩
    case go =>
      intro i H' hi sE
      have c1 := sE.old R _ nRb (u4.sm _ _ hR)
      have c2 := sE.old q3 _ nqb u4.at'
      exact ⟨_, _, _, _, SqL.of c1, SqL.of c2, List.getElem?_eq_getElem (by trivial), List.getElem?_eq_getElem (by rw [cutV_drop1, List.length_drop]; trivial)⟩
    case st =>
      intro H' sE
      refine ⟨_, _, SqL.of (sE.old R _ nRb (u4.sm _ _ hR)), SqL.of (sE.old q3 _ nqb u4.at'), ?_⟩
      rw [cutV_drop1, List.length_drop]; trivial
    case step =>
      rintro i v H' H'' RR t1' hi sE Bt h0' h1' ⟨T', x, y, hT, rfl, rfl, e1, e2⟩ kk
      have e1' := e1 _ (SqL.of (sE.old R _ nRb (u4.sm _ _ hR)))
      have e2' := e2 _ (SqL.of (sE.old q3 _ nqb u4.at'))
      rw [List.getElem?_map] at e1'
      rw [cutV_drop1, List.getElem?_drop, List.getElem?_map, Nat.add_comm] at e2'
      obtain ⟨l1, el1, rfl⟩ := Option.map_eq_some_iff.mp e1'
      obtain ⟨l2, el2, rfl⟩ := Option.map_eq_some_iff.mp e2'
      rw [el1, el2] at kk
      have st := Same.new (o := .tup [strV l1, strV l2]) hT
      exact ⟨T', _, rfl, SqT.of upd_same, rfl, _, _, rfl, _, _, rfl, rfl, back2, tie_el (Bt.same st) h0' h1' fun o m gg t' H4 s4 => kk o m gg t' H4 (st.toE.trans s4)⟩
    case fin =>
      intro zs ts t4 H5 s5 hZ ia lt fa tg B5 h5a h5b
      refine nE _ _ ?_
      clear nE
      have nD2b : ¬ D2 = b := fun e => (BR.same u4.sm).ne hD2 e.symm
      have lz : zs.length = mn := by rw [ia.length, List.length_map, lt]
      refine seqA fun QF nF => ?_
      refine ⟨_, rfl, _, rfl, (mn : Int), rfl, by trivial, by trivial, fun l2 G5 u5 => ⟨b, l2, rngL mn, t4, rfl, B5.same u5.sm, by trivial, by trivial, (by rw [u5.at', Int.toNat_natCast]), ?lenr, num_atoms (by trivial), fun D5 ys t5 H6 s6 f6 h6 pm B6 h6a h6b => ?_⟩⟩
      case lenr => rw [rngL, List.length_map, List.length_range]; trivial
      refine nF _ _ ?_
      clear nF
      obtain ⟨os, rfl, pos⟩ := perm_nums pm
      have los : os.length = mn := by rw [pos.length_eq, List.length_range]
      have olt : ∀ k ∈ os, k < mn := fun k hk => List.mem_range.mp (pos.subset hk)
      have hZ6 := s6.old D2 _ nD2b (u5.sm _ _ hZ)
      refine seqA fun QG nG => ?_
      refine ⟨_, rfl, D5, rfl, ⟨_, SqL.of h6⟩, fun D6 hD6 => comp_mapL (xs := nts os) (fun j => (zs[(os[j]?).getD 0]?).getD .non) (by rw [List.length_map]; trivial) hD6 h6 ?_ ?_⟩
      · intro j x H' RR hx sm kk
        rw [List.getElem?_map] at hx
        obtain ⟨ki, eki, rfl⟩ := Option.map_eq_some_iff.mp hx
        have hk := olt ki (List.mem_of_getElem? eki)
        have ez : zs[ki]? = some zs[ki] := List.getElem?_eq_getElem (by trivial)
        have := kk H' (Same.refl _)
        rw [eki, Option.getD_some, ez, Option.getD_some] at this
        exact ⟨back1, _, rfl, _, rfl, D2, zs, _, _, rfl, rfl, SqL.of (sm _ _ hZ6), atI_nat ez, this⟩
      intro H7 s7 hX
      refine nG _ _ ?_
      clear nG
      have nD6b : ¬ D6 = b := fun e => B6.ne hD6 e.symm
      have nD5b : ¬ D5 = b := fun e => (B5.same u5.sm).ne f6 e.symm
      have hD7 := s7 _ _ (s6.old D _ nDb (u5.sm _ _ (s5.old D _ nDb (u4.sm _ _ (S3 _ _ hD)))))
      have hO7 := s7 _ _ h6
      have l11 : ls.length ≤ 11 := by trivial
      refine ⟨_, rfl, _, rfl, b, D, ls.map strV, t5, rfl, B6.same s7, by trivial, by trivial, hD7, (by rw [List.length_map]; trivial), name_atoms nc, fun D7 ys7 t7 H8 s8 f8 h8 pm7 B8 h8a h8b => ⟨D7, ys7, rfl, SqL.of h8, fun w1 G9 u9 => ⟨_, rfl, D6, _, rfl, SqL.of (u9.sm _ _ (s8.old D6 _ nD6b hX)), fun w2 G10 u10 => ⟨(by show 2 ≤ 10000; decide), fun nv G11 u11 => ?_⟩⟩⟩⟩
      have v11 := (u9.sm.trans u10.sm).trans u11.sm
      have hO11 := v11 _ _ (s8.old D5 _ nD5b hO7)
      refine ⟨_, rfl, (mn : Int), rfl, by trivial, by trivial, fun D8 hD8 => comp_mapJ (n := mn) (fun j => .int ((os.idxOf j : Nat) : Int)) (by trivial) hD8 ?_ ?_ ?_ ?_⟩
      · intro i H' hi _
        show i < ((mn : Nat) : Int).toNat
        rw [Int.toNat_natCast]; exact hi
      · intro H' _
        show ((mn : Nat) : Int).toNat ≤ mn
        rw [Int.toNat_natCast]; exact Nat.le_refl _
      · rintro i x H' H'' RR hi sm ⟨rfl, rfl⟩ kk
        obtain ⟨o1, o2⟩ := idx_ok pos hi
        have hO := sm _ _ hO11
        refine ⟨back1, _, rfl, .inl ⟨rfl, _, SqL.of hO⟩, _, rfl, D5, os.map (fun n : Nat => (n : Int)), _, os.idxOf i, rfl, rfl, (by rw [List.map_map]; exact hO), (by rw [List.length_map]; trivial), ?_, ?_, kk _ (Same.refl _)⟩
        · rw [List.getElem?_map, o1, Int.zero_add]; rfl
        · intro m hm e
          rw [List.getElem?_map, Int.zero_add] at e
          obtain ⟨c, ec, e'⟩ := Option.map_eq_some_iff.mp e
          have : c = i := by trivial
          subst this
          have ndo : os.Nodup := pos.nodup_iff.mpr List.nodup_range
          obtain ⟨h1', g1'⟩ := List.getElem?_eq_some_iff.mp ec
          obtain ⟨h2', g2'⟩ := List.getElem?_eq_some_iff.mp o1
          have := (List.getElem_inj ndo).mp (g1'.trans g2'.symm)
          trivial
      intro H12 s12 hY
      refine ⟨_, rfl, rfl, (by show 3 ≤ 10000; decide), fun o G13 u13 => ?_⟩
      obtain ⟨ms, rfl, pms⟩ := perm_names pm7
      have v13 := s12.trans u13.sm
      have v813 := v11.trans v13
      have sAll : SameE (Eb b) H G13 := ((((((s1.trans s2).trans s3).trans S3.toE).trans u4.sm.toE).trans s5).trans u5.sm.toE).trans ((s6.trans s7.toE).trans (s8.trans v813.toE))
      have hl : (nts os).length = os.length := List.length_map ..
      have eX : (List.range (nts os).length).map (fun j => (zs[(os[j]?).getD 0]?).getD .non) = os.map fun k => (zs[k]?).getD .non := by
        rw [hl]
        exact map_range_get _ _ os fun i x e => by rw [e]; rfl
      refine k o (.ref nv) D8 ms (tiesBy ts os) (numsOf os mn) _ t7 G13 sAll u13.at' ?_ (u13.sm _ _ (by rw [hY, numsOf, nts, List.map_map]; rfl)) (fun e => (B8.same v11).ne hD8 e.symm) (chain_facts nc pms l11 hm2 hm10 lrow ndrow hhome ncrow lt fa tg pos) (B8.same v813) (by trivial) (by trivial)
      refine .tup (v13 _ _ u11.at') (.cons (.tup (v13 _ _ (u11.sm _ _ (u10.sm _ _ u9.at'))) ?_) (.cons (.tup (v13 _ _ (u11.sm _ _ u10.at')) ?_) .nil))
      · exact isAll_map fun l _ => .str _
      · rw [eX, tiesBy, List.map_map]
        refine isAll_map fun kk hk => ?_
        have hk' := olt kk hk
        have ez : zs[kk]? = some zs[kk] := List.getElem?_eq_getElem (by trivial)
        have et : ts[kk]? = some ts[kk] := List.getElem?_eq_getElem (by trivial)
        show IsD ED G13 ((zs[kk]?).getD .non) (tieD ((ts[kk]?).getD tie0))
        rw [ez, et]
        have sT : SameE (Eb b) H5 G13 := u5.sm.toE.trans ((s6.trans s7.toE).trans (s8.trans v813.toE))
        exact (ia.tupS sT).nth kk ez (by rw [List.getElem?_map, et]; rfl)
end
end K09
namespace K09
open PySem L2
theorem nums_ints (is : List Nat) : nums (is.map intD) = is := by
  show (is.map intD).map numOf = is
  rw [List.map_map]
  refine (List.map_congr_left fun i _ => ?_).trans (List.map_id' _)
  show ((i : Int).toNat : Nat) = i
  exact Int.toNat_natCast i
theorem okN_ints {n : Nat} {is : List Nat} (h : ∀ i ∈ is, i < n) : (is.map intD).all (okN n) = true := by
  rw [List.all_eq_true]
  intro d hd
  obtain ⟨i, hi, rfl⟩ := List.mem_map.mp hd
  have := h i hi
  show (decide (0 ≤ (i : Int)) && decide ((i : Int) < (n : Int))) = true
  rw [Bool.and_eq_true, decide_eq_true_iff, decide_eq_true_iff]
  trivial
theorem way_eq {ts : List TieD} {is : List Nat} (h : ∀ i ∈ is, i < ts.length) (nd : is.Nodup) : wayB ts (.list (is.map intD)) = chainB ts is := by
  show (((is.map intD).all (okN ts.length) && decide (nums (is.map intD)).Nodup) && chainB ts (nums (is.map intD))) = _
  rw [okN_ints h, nums_ints, decide_eq_true nd]
  rfl
theorem chain_way {ls : List (List Nat)} {ts : List TieD} {is : List Nat} {home : Bool} (c : ChainC ls ts is home) : wayB ts (.list (is.map intD)) = true := by
  rw [way_eq c.lt c.nd]
  obtain ⟨row, lr, fa, _, _⟩ := c.row
  unfold chainB
  rw [List.all_map, List.all_eq_true]
  intro j hj
  have hj := List.mem_range.mp hj
  rw [List.length_drop] at hj
  have e1 : is[j]? = some is[j] := List.getElem?_eq_getElem (by trivial)
  have e2 : is[j + 1]? = some is[j + 1] := List.getElem?_eq_getElem (by trivial)
  show linkB ts ((is[j]?).getD 0) (((is.drop 1)[j]?).getD 0) = true
  rw [List.getElem?_drop, Nat.add_comm, e1, e2]
  unfold linkB
  rw [decide_eq_true_iff]
  show ts[is[j]]?.map TieD.en = ts[is[j + 1]]?.map TieD.bg
  rw [(fa j _ e1).2, (fa (j + 1) _ e2).1]
theorem chain_round {ls : List (List Nat)} {ts : List TieD} {is : List Nat} {home : Bool} (c : ChainC ls ts is home) : roundB ts (.list (is.map intD)) = home := by
  show (wayB ts (.list (is.map intD)) && !decide ((is.map intD).length < 2) && ringB ts (nums (is.map intD))) = home
  have l2 := c.l2
  rw [chain_way c, nums_ints, decide_eq_false (by rw [List.length_map]; trivial)]
  obtain ⟨row, lr, fa, nd, hh⟩ := c.row
  have beg : ∀ j i, is[j]? = some i → some (begN ts i) = row[j]? := fun j i e => by
    have h := (fa j i e).1
    have hi := c.lt i (List.mem_of_getElem? e)
    rw [← h]
    unfold begN
    rw [List.getElem?_eq_getElem hi]; rfl
  have en : ∀ j i, is[j]? = some i → some (endN ts i) = row[j + 1]? := fun j i e => by
    have h := (fa j i e).2
    have hi := c.lt i (List.mem_of_getElem? e)
    rw [← h]
    unfold endN
    rw [List.getElem?_eq_getElem hi]; rfl
  have e0 : is[0]? = some is[0] := List.getElem?_eq_getElem (by trivial)
  have e1 : is[is.length - 1]? = some (is[is.length - 1]'(by trivial)) := List.getElem?_eq_getElem (by trivial)
  have hb : is.map (begN ts) = row.take is.length := by
    apply List.ext_getElem?
    intro j
    rw [List.getElem?_map, List.getElem?_take]
    by_cases hj : j < is.length
    · rw [if_pos hj, List.getElem?_eq_getElem hj, ← beg j _ (List.getElem?_eq_getElem hj)]; rfl
    · rw [if_neg hj, List.getElem?_eq_none (by trivial)]; rfl
  unfold ringB
  rw [hb, decide_eq_true nd, e0, e1, Option.getD_some, Option.getD_some, hh]
  have q : is.length - 1 + 1 = is.length := by trivial
  have a := en _ _ e1
  have b := beg _ _ e0
  rw [q] at a
  rw [← a, ← b]
  simp
theorem eight_way {ts : List TieD} {is : List Nat} (c : EightC ts is) : wayB ts (.list (is.map intD)) = true ∧ roundB ts (.list (is.map intD)) = false ∧ (∀ i ∈ is, i < ts.length) ∧ is.length = 4 := by
  obtain ⟨hi, hl, ⟨x, y, z, n1, n2, n3, eb, ee⟩, _⟩ := c
  have lt : ∀ i ∈ is, i < ts.length := fun i hm => by
    rw [hl]
    rcases hi with rfl | rfl <;> simp at hm <;> trivial
  have nd : is.Nodup := by rcases hi with rfl | rfl <;> decide
  have gb : ∀ i, ts[i]?.map TieD.bg = [x, y, x, z][i]? := fun i => by rw [← List.getElem?_map, eb]
  have ge : ∀ i, ts[i]?.map TieD.en = [y, x, z, x][i]? := fun i => by rw [← List.getElem?_map, ee]
  have w : wayB ts (.list (is.map intD)) = true := by
    rw [way_eq lt nd]
    rcases hi with rfl | rfl
    · simp [chainB, linkB, gb, ge, List.range_succ]
    · simp [chainB, linkB, gb, ge, List.range_succ]
  refine ⟨w, ?_, lt, by rcases hi with rfl | rfl <;> rfl⟩
  have bg : ∀ i, begN ts i = ([x, y, x, z][i]?).getD [] := fun i => by unfold begN; rw [gb]
  have nn : ¬ (is.map (begN ts)).Nodup := by
    rcases hi with rfl | rfl <;> simp [bg]
  show (wayB ts (.list (is.map intD)) && !decide ((is.map intD).length < 2) && ringB ts (nums (is.map intD))) = false
  rw [nums_ints]
  unfold ringB
  rw [decide_eq_false nn, Bool.and_false, Bool.and_false]
end K09
namespace K09
open PySem L2
set_option maxHeartbeats 4000000
theorem fr01 : Fb 100 (0 : Int) (1 : Int) := Fb.small (by decide) (by decide) (by decide) (by decide)
theorem wt_price {t : TieD} (h : TieG t) : Wt (frD t.price) 3 1 := by
  rw [h.pr]
  exact wt_fr (p := (0, 1)) fr01 (by decide)
theorem wt_net9 {ls : List (List Nat)} {ts : List TieD} {is : List Nat} {home : Bool} (c : ChainC ls ts is home) : Wt (netD ls ts) (1 * ls.length + 1 + (12 * ts.length + 1 + 0) + 1) 4 :=
  .tuple (.cons (.deep (.tuple (wtL_map (m := 1) (k := 0) fun l h => .str (strT_name (c.lc l h)))) (by decide)) (.cons (.tuple (wtL_map fun t h => .tuple (.cons (.str (strT_name (c.tc t h).1)) (.cons (.str (strT_name (c.tc t h).2)) (.cons (wt_fr (c.g t h).fm (by decide)) (.cons (wt_fr (c.g t h).fg (by decide)) (.cons (wt_price (c.g t h)) .nil))))))) .nil))
theorem wt_ints {is : List Nat} (h : ∀ i ∈ is, i < 100) : Wt (.list (is.map intD)) (1 * is.length + 1) 1 :=
  .list (wtL_map (m := 1) (k := 0) fun i hi => .int (Sz.mono (m := 10) (by show ((i : Nat) : Int).natAbs < 1024; have := h i hi; trivial) (by decide)))
theorem isAll_nts {E : Addr → Prop} {H : Hp} {is : List Nat} : IsAll E H (nts is) (is.map intD) := isAll_map fun i _ => .int _
theorem cut_nts (is : List Nat) (lo hi : Option Int) : ∃ js, cutV (nts is) lo hi = nts js ∧ (∀ i ∈ js, i ∈ is) ∧ js.length = (cutV (nts is) lo hi).length := by
  unfold cutV
  refine ⟨(is.drop (HT.sIx (nts is).length 0 lo)).take (HT.sIx (nts is).length (nts is).length hi - HT.sIx (nts is).length 0 lo), ?_, fun i h => List.mem_of_mem_drop (List.mem_of_mem_take h), ?_⟩
  · simp only [nts, List.map_take, List.map_drop]
  · rw [List.length_take, List.length_drop, List.length_take, List.length_drop, List.length_map]
section
variable {P : Program} {w : World} {K : PySem.W.Frag} {mg : Str → Option Value} {base : Heap}
inductive spLaw_ (K : PySem.W.Frag) (vs : List V) (H : Hp) (Q : VK) : Prop
  | mk (a : Addr) (ns : List Int) (h0 : vs = [.ref a]) (h1 : SqL K H a (ns.map V.int)) (h2 : ns.length ≤ 63) (h3 : ∀ H', Q (.bl true) H')
def spLaw (K : PySem.W.Frag) : Sp := fun vs H Q _ => spLaw_ K vs H Q
theorem law_start {H : Hp} {a : Addr} {ns : List Int} (hl : ns.length ≤ 63) (_ : Only H) (hS : SqL K H a (ns.map V.int)) : spLaw K [.ref a] H (fun v _ => v = .bl true) fun _ _ _ => False :=
  ⟨a, ns, rfl, hS, hl, fun _ => rfl⟩
theorem law_ok (T : Txt K mg) : FnOk P w K mg base CX0 40 T.f_law T.d_law ["_law_script"] (spLaw K) := by
  have G_l_folded := ok_folded (P := P) (w := w) (base := base) T
  have G_l_box_of := ok_box_of (P := P) (w := w) (base := base) T
  have G_l_take := ok_take (P := P) (w := w) (base := base) T
  have G_l_lowest := ok_lowestA (P := P) (w := w) (base := base) T
  have G_l_chain_by := ok_chain (P := P) (w := w) (base := base) T
  have G_l_eight_by := ok_eight (P := P) (w := w) (base := base) T
  have G_is_way := ok_is_way (P := P) (w := w) (base := base) T
  have G_is_round := ok_is_round (P := P) (w := w) (base := base) T
  have G_l_right := ok_right9 (P := P) (w := w) (base := base) T
  have G_l_like := ok_like (P := P) (w := w) (base := base) T 4
  have G_gain_of := ok_gain_of (P := P) (w := w) (base := base) T
  have G_goes_on := ok_goes_on (P := P) (w := w) (base := base) T
  refine T.F_law.ok sc_law (fun vs H Q E h => ?_) (fun cdv A outer s H vs Q E hr h => ?_)
  · obtain ⟨a, ns, rfl, _⟩ := h
    rfl
  · obtain ⟨a, ns, rfl, hS, hn, k⟩ := h
    refine ⟨_, (@pss_cons _ _ _ _ _ (@ps_set _ _ (1) _ _ _ _ sc_law.nd rfl (Or.inl k_law_l_cells) (@pe_call _ _ _ _ _ _ _ _ _ _ _ _ _ _ _ _ G_l_folded (hr.mono (by decide)) k_law_l_folded T.m_l_folded T.F_l_folded.kp T.B_l_folded .nil (@pass0 _) (@pa_c _ _ _ _ _ (@pw _ 0 _ _ (Or.inl k_law_l_script) (by rfl) (by decide) (by decide)) (@pa_c _ _ _ _ _ (@pe_int _ _ _ _) (@pa_nil _) rfl) rfl) (by decide) (by rfl) (by rfl)) (by rfl) (by first | exact .inl rfl | exact .inr rfl | assumption)) (@pss_cons _ _ _ _ _ (@ps_for _ _ _ _ _ _ _ _ PassesOwn.never rfl (@pi_range1 _ _ _ _ _ _ k_law_range T.b_range (@pa_c _ _ _ _ _ (@pe_callB _ _ _ _ _ _ _ _ _ (@len_k _ (K) (by rfl)) k_law_len T.b_len (@boot_b_len) (@pa_c _ _ _ _ _ (@pw _ 1 _ _ (Or.inl k_law_l_cells) (by rfl) (by decide) (by decide)) (@pa_nil _) rfl) (by decide) (by decide) (by rfl) (by rfl)) (@pa_nil _) rfl) (by rfl)) (@pg_name _ _ (2) _ sc_law.nd rfl (Or.inl k_law_l_k) (by first | exact .inl rfl | exact .inr rfl | assumption)) (@pss_cons _ _ _ _ _ (@ps_set _ _ (3) _ _ _ _ sc_law.nd rfl (Or.inl k_law_l_box) (@pe_call _ _ _ _ _ _ _ _ _ _ _ _ _ _ _ _ G_l_box_of (hr.mono (by decide)) k_law_l_box_of T.m_l_box_of T.F_l_box_of.kp T.B_l_box_of .nil (@pass0 _) (@pa_c _ _ _ _ _ (@pw _ 1 _ _ (Or.inl k_law_l_cells) (by rfl) (by decide) (by decide)) (@pa_c _ _ _ _ _ (@pw _ 2 _ _ (Or.inl k_law_l_k) (by rfl) (by decide) (by decide)) (@pa_nil _) rfl) rfl) (by decide) (by rfl) (by rfl)) (by rfl) (by first | exact .inl rfl | exact .inr rfl | assumption)) (@pss_cons _ _ _ _ _ (@ps_set _ _ (4) _ _ _ _ sc_law.nd rfl (Or.inl k_law_l_much) (@pe_ix _ _ _ _ _ _ _ (@ixL_k _ (K) (by rfl)) (@pe_lstA _ _ _ _ (@pa_c _ _ _ _ _ (@pe_tupA _ _ _ _ _ (@pa_c _ _ _ _ _ (@pe_int _ _ _ _) (@pa_c _ _ _ _ _ (@pe_int _ _ _ _) (@pa_nil _) rfl) rfl)) (@pa_c _ _ _ _ _ (@pe_tupA _ _ _ _ _ (@pa_c _ _ _ _ _ (@pe_int _ _ _ _) (@pa_c _ _ _ _ _ (@pe_int _ _ _ _) (@pa_nil _) rfl) rfl)) (@pa_c _ _ _ _ _ (@pe_call _ _ _ _ _ _ _ _ _ _ _ _ _ _ _ _ G_l_lowest (hr.mono (by decide)) k_law_l_lowest T.m_l_lowest T.F_l_lowest.kp T.B_l_lowest .nil (@pass0 _) (@pa_c _ _ _ _ _ (@pe_op _ _ _ _ _ _ _ _ (@op_add _) (@pe_int _ _ _ _) (@pe_call _ _ _ _ _ _ _ _ _ _ _ _ _ _ _ _ G_l_take (hr.mono (by decide)) k_law_l_take T.m_l_take T.F_l_take.kp T.B_l_take .nil (@pass0 _) (@pa_c _ _ _ _ _ (@pw _ 3 _ _ (Or.inl k_law_l_box) (by rfl) (by decide) (by decide)) (@pa_c _ _ _ _ _ (@pe_int _ _ _ _) (@pa_nil _) rfl) rfl) (by decide) (by rfl) (by rfl))) (@pa_c _ _ _ _ _ (@pe_op _ _ _ _ _ _ _ _ (@op_add _) (@pe_int _ _ _ _) (@pe_call _ _ _ _ _ _ _ _ _ _ _ _ _ _ _ _ G_l_take (hr.mono (by decide)) k_law_l_take T.m_l_take T.F_l_take.kp T.B_l_take .nil (@pass0 _) (@pa_c _ _ _ _ _ (@pw _ 3 _ _ (Or.inl k_law_l_box) (by rfl) (by decide) (by decide)) (@pa_c _ _ _ _ _ (@pe_int _ _ _ _) (@pa_nil _) rfl) rfl) (by decide) (by rfl) (by rfl))) (@pa_nil _) rfl) rfl) (by decide) (by rfl) (by rfl)) (@pa_nil _) rfl) rfl) rfl)) (@pe_call _ _ _ _ _ _ _ _ _ _ _ _ _ _ _ _ G_l_take (hr.mono (by decide)) k_law_l_take T.m_l_take T.F_l_take.kp T.B_l_take .nil (@pass0 _) (@pa_c _ _ _ _ _ (@pw _ 3 _ _ (Or.inl k_law_l_box) (by rfl) (by decide) (by decide)) (@pa_c _ _ _ _ _ (@pe_int _ _ _ _) (@pa_nil _) rfl) rfl) (by decide) (by rfl) (by rfl)) (fun _ _ => rfl)) (by rfl) (by first | exact .inl rfl | exact .inr rfl | assumption)) (@pss_cons _ _ _ _ _ (@ps_asg _ _ _ _ _ _ (@pe_call _ _ _ _ _ _ _ _ _ _ _ _ _ _ _ _ G_l_chain_by (hr.mono (by decide)) k_law_l_chain_by T.m_l_chain_by T.F_l_chain_by.kp T.B_l_chain_by .nil (@pass0 _) (@pa_c _ _ _ _ _ (@pw _ 3 _ _ (Or.inl k_law_l_box) (by rfl) (by decide) (by decide)) (@pa_nil _) rfl) (by decide) (by rfl) (by rfl)) (@pg_tup_k _ (K) _ _ _ _ (3) rfl (@pgs_cons _ _ _ _ _ (@pg_name _ _ (5) _ sc_law.nd rfl (Or.inl k_law_l_net) (by first | exact .inl rfl | exact .inr rfl | assumption)) (@pgs_cons _ _ _ _ _ (@pg_name _ _ (6) _ sc_law.nd rfl (Or.inl k_law_l_way) (by first | exact .inl rfl | exact .inr rfl | assumption)) (@pgs_cons _ _ _ _ _ (@pg_name _ _ (7) _ sc_law.nd rfl (Or.inl k_law_l_home) (by first | exact .inl rfl | exact .inr rfl | assumption)) (@pgs_nil _) (by rfl)) (by rfl)) (by rfl)) (by rfl) (by rfl) (by rfl)) (by rfl) (by rfl) (by rfl)) (@pss_cons _ _ _ _ _ (@ps_set _ _ (8) _ _ _ _ sc_law.nd rfl (Or.inl k_law_l_kept) (@pe_callTy _ _ _ _ _ _ _ _ _ (@call_strW _ _ hr) k_law_str T.b_str (@boot_ty_str) (@pa_c _ _ _ _ _ (@pe_lstA _ _ _ _ (@pa_c _ _ _ _ _ (@pw _ 5 _ _ (Or.inl k_law_l_net) (by rfl) (by decide) (by decide)) (@pa_c _ _ _ _ _ (@pw _ 6 _ _ (Or.inl k_law_l_way) (by rfl) (by decide) (by decide)) (@pa_nil _) rfl) rfl)) (@pa_nil _) rfl) (by decide) (by decide) (by rfl) (by rfl)) (by rfl) (by first | exact .inl rfl | exact .inr rfl | assumption)) (@pss_cons _ _ _ _ _ (@ps_if _ _ _ _ _ _ _ _ (@PW.pt _ _ _ (@pw_or _ _ _ _ _ _ _ (@pt_cmpR _ _ _ _ _ _ _ _ (@op_notB _) (@pe_call _ _ _ _ _ _ _ _ _ _ _ _ _ _ _ _ G_is_way (hr.mono (by decide)) k_law_is_way T.m_is_way T.F_is_way.kp T.B_is_way .nil (@pass0 _) (@pa_c _ _ _ _ _ (@pw _ 5 _ _ (Or.inl k_law_l_net) (by rfl) (by decide) (by decide)) (@pa_c _ _ _ _ _ (@pw _ 6 _ _ (Or.inl k_law_l_way) (by rfl) (by decide) (by decide)) (@pa_nil _) rfl) rfl) (by decide) (by rfl) (by rfl)) (@pe_bl _ _ _ _) (@nomark _ _ (by decide) (by decide))) (@pw_or1 _ _ _ _ (@pt_cmpR _ _ _ _ _ _ _ _ (@op_ne _) (@pe_call _ _ _ _ _ _ _ _ _ _ _ _ _ _ _ _ G_is_round (hr.mono (by decide)) k_law_is_round T.m_is_round T.F_is_round.kp T.B_is_round .nil (@pass0 _) (@pa_c _ _ _ _ _ (@pw _ 5 _ _ (Or.inl k_law_l_net) (by rfl) (by decide) (by decide)) (@pa_c _ _ _ _ _ (@pw _ 6 _ _ (Or.inl k_law_l_way) (by rfl) (by decide) (by decide)) (@pa_nil _) rfl) rfl) (by decide) (by rfl) (by rfl)) (@pw _ 7 _ _ (Or.inl k_law_l_home) (by rfl) (by decide) (by decide)) (@nomark _ _ (by decide) (by decide)))))) (@pss_one _ _ _ (@ps_ret _ _ _ _ (@pe_bl _ _ _ _))) (@pss_nil _)) (@pss_cons _ _ _ _ _ (@ps_for _ _ _ _ _ _ _ _ PassesOwn.never rfl (@pi_tup_k _ (K) _ _ _ (@pe_tupA _ _ _ _ _ (@pa_c _ _ _ _ _ (@pw _ 6 _ _ (Or.inl k_law_l_way) (by rfl) (by decide) (by decide)) (@pa_c _ _ _ _ _ (@pe_slice _ _ _ _ _ _ _ _ _ _ (@sl_listA _ (K) (by rfl)) (@pw _ 6 _ _ (Or.inl k_law_l_way) (by rfl) (by decide) (by decide)) (@po_none _) (@po_some _ _ _ (@pe_int _ _ _ _))) (@pa_c _ _ _ _ _ (@pe_slice _ _ _ _ _ _ _ _ _ _ (@sl_listA _ (K) (by rfl)) (@pw _ 6 _ _ (Or.inl k_law_l_way) (by rfl) (by decide) (by decide)) (@po_some _ _ _ (@pe_un _ _ _ _ _ _ (@un_neg _) (@pe_int _ _ _ _))) (@po_none _)) (@pa_c _ _ _ _ _ (@pe_slice _ _ _ _ _ _ _ _ _ _ (@sl_listA _ (K) (by rfl)) (@pw _ 6 _ _ (Or.inl k_law_l_way) (by rfl) (by decide) (by decide)) (@po_some _ _ _ (@pe_int _ _ _ _)) (@po_none _)) (@pa_nil _) rfl) rfl) rfl) rfl)) (by rfl)) (@pg_name _ _ (9) _ sc_law.nd rfl (Or.inl k_law_l_some) (by first | exact .inl rfl | exact .inr rfl | assumption)) (@pss_one _ _ _ (@ps_if _ _ _ _ _ _ _ _ (@pt_not _ _ _ _ (@pt_val _ _ _ (@pe_call _ _ _ _ _ _ _ _ _ _ _ _ _ _ _ _ G_l_right (hr.mono (by decide)) k_law_l_right T.m_l_right T.F_l_right.kp T.B_l_right .nil (@pass0 _) (@pa_c _ _ _ _ _ (@pw _ 5 _ _ (Or.inl k_law_l_net) (by rfl) (by decide) (by decide)) (@pa_c _ _ _ _ _ (@pw _ 9 _ _ (Or.inl k_law_l_some) (by rfl) (by decide) (by decide)) (@pa_c _ _ _ _ _ (@pw _ 4 _ _ (Or.inl k_law_l_much) (by rfl) (by decide) (by decide)) (@pa_nil _) rfl) rfl) rfl) (by decide) (by rfl) (by rfl)) (by intro _; rfl))) (@pss_one _ _ _ (@ps_ret _ _ _ _ (@pe_bl _ _ _ _))) (@pss_nil _))) (by intro _; rfl)) (@pss_cons _ _ _ _ _ (@ps_asg _ _ _ _ _ _ (@pe_call _ _ _ _ _ _ _ _ _ _ _ _ _ _ _ _ G_l_eight_by (hr.mono (by decide)) k_law_l_eight_by T.m_l_eight_by T.F_l_eight_by.kp T.B_l_eight_by .nil (@pass0 _) (@pa_c _ _ _ _ _ (@pw _ 3 _ _ (Or.inl k_law_l_box) (by rfl) (by decide) (by decide)) (@pa_nil _) rfl) (by decide) (by rfl) (by rfl)) (@pg_tup_k _ (K) _ _ _ _ (2) rfl (@pgs_cons _ _ _ _ _ (@pg_name _ _ (10) _ sc_law.nd rfl (Or.inl k_law_l_eight) (by first | exact .inl rfl | exact .inr rfl | assumption)) (@pgs_cons _ _ _ _ _ (@pg_name _ _ (11) _ sc_law.nd rfl (Or.inl k_law_l_around) (by first | exact .inl rfl | exact .inr rfl | assumption)) (@pgs_nil _) (by rfl)) (by rfl)) (by rfl) (by rfl) (by rfl)) (by rfl) (by rfl) (by rfl)) (@pss_cons _ _ _ _ _ (@ps_if _ _ _ _ _ _ _ _ (@PW.pt _ _ _ (@pw_or _ _ _ _ _ _ _ (@pt_cmpR _ _ _ _ _ _ _ _ (@op_notB _) (@pe_call _ _ _ _ _ _ _ _ _ _ _ _ _ _ _ _ G_is_way (hr.mono (by decide)) k_law_is_way T.m_is_way T.F_is_way.kp T.B_is_way .nil (@pass0 _) (@pa_c _ _ _ _ _ (@pw _ 10 _ _ (Or.inl k_law_l_eight) (by rfl) (by decide) (by decide)) (@pa_c _ _ _ _ _ (@pw _ 11 _ _ (Or.inl k_law_l_around) (by rfl) (by decide) (by decide)) (@pa_nil _) rfl) rfl) (by decide) (by rfl) (by rfl)) (@pe_bl _ _ _ _) (@nomark _ _ (by decide) (by decide))) (@pw_or1 _ _ _ _ (@pt_cmpR _ _ _ _ _ _ _ _ (@op_notB _) (@pe_call _ _ _ _ _ _ _ _ _ _ _ _ _ _ _ _ G_is_round (hr.mono (by decide)) k_law_is_round T.m_is_round T.F_is_round.kp T.B_is_round .nil (@pass0 _) (@pa_c _ _ _ _ _ (@pw _ 10 _ _ (Or.inl k_law_l_eight) (by rfl) (by decide) (by decide)) (@pa_c _ _ _ _ _ (@pw _ 11 _ _ (Or.inl k_law_l_around) (by rfl) (by decide) (by decide)) (@pa_nil _) rfl) rfl) (by decide) (by rfl) (by rfl)) (@pe_bl _ _ _ _) (@nomark _ _ (by decide) (by decide)))))) (@pss_one _ _ _ (@ps_ret _ _ _ _ (@pe_bl _ _ _ _))) (@pss_nil _)) (@pss_cons _ _ _ _ _ (@ps_if _ _ _ _ _ _ _ _ (@pt_not _ _ _ _ (@pt_val _ _ _ (@pe_call _ _ _ _ _ _ _ _ _ _ _ _ _ _ _ _ G_l_right (hr.mono (by decide)) k_law_l_right T.m_l_right T.F_l_right.kp T.B_l_right .nil (@pass0 _) (@pa_c _ _ _ _ _ (@pw _ 10 _ _ (Or.inl k_law_l_eight) (by rfl) (by decide) (by decide)) (@pa_c _ _ _ _ _ (@pw _ 11 _ _ (Or.inl k_law_l_around) (by rfl) (by decide) (by decide)) (@pa_c _ _ _ _ _ (@pw _ 4 _ _ (Or.inl k_law_l_much) (by rfl) (by decide) (by decide)) (@pa_nil _) rfl) rfl) rfl) (by decide) (by rfl) (by rfl)) (by intro _; rfl))) (@pss_one _ _ _ (@ps_ret _ _ _ _ (@pe_bl _ _ _ _))) (@pss_nil _)) (@pss_one _ _ _ (@ps_if _ _ _ _ _ _ _ _ (@PW.pt _ _ _ (@pw_or _ _ _ _ _ _ _ (@pt_cmpR _ _ _ _ _ _ _ _ (@op_ne _) (@pe_callTy _ _ _ _ _ _ _ _ _ (@call_strW _ _ hr) k_law_str T.b_str (@boot_ty_str) (@pa_c _ _ _ _ _ (@pe_lstA _ _ _ _ (@pa_c _ _ _ _ _ (@pw _ 5 _ _ (Or.inl k_law_l_net) (by rfl) (by decide) (by decide)) (@pa_c _ _ _ _ _ (@pw _ 6 _ _ (Or.inl k_law_l_way) (by rfl) (by decide) (by decide)) (@pa_nil _) rfl) rfl)) (@pa_nil _) rfl) (by decide) (by decide) (by rfl) (by rfl)) (@pw _ 8 _ _ (Or.inl k_law_l_kept) (by rfl) (by decide) (by decide)) (@nomark _ _ (by decide) (by decide))) (@pw_or1 _ _ _ _ (@pt_not _ _ _ _ (@pt_val _ _ _ (@pe_call _ _ _ _ _ _ _ _ _ _ _ _ _ _ _ _ G_l_like (hr.mono (by decide)) k_law_l_like T.m_l_like T.F_l_like.kp T.B_l_like .nil (@pass0 _) (@pa_c _ _ _ _ _ (@pe_lstA _ _ _ _ (@pa_c _ _ _ _ _ (@pe_call _ _ _ _ _ _ _ _ _ _ _ _ _ _ _ _ G_gain_of (hr.mono (by decide)) k_law_gain_of T.m_gain_of T.F_gain_of.kp T.B_gain_of .nil (@pass0 _) (@pa_c _ _ _ _ _ (@pw _ 5 _ _ (Or.inl k_law_l_net) (by rfl) (by decide) (by decide)) (@pa_c _ _ _ _ _ (@pe_lstA _ _ _ _ (@pa_nil _)) (@pa_nil _) rfl) rfl) (by decide) (by rfl) (by rfl)) (@pa_c _ _ _ _ _ (@pe_call _ _ _ _ _ _ _ _ _ _ _ _ _ _ _ _ G_goes_on (hr.mono (by decide)) k_law_goes_on T.m_goes_on T.F_goes_on.kp T.B_goes_on .nil (@pass0 _) (@pa_c _ _ _ _ _ (@pw _ 5 _ _ (Or.inl k_law_l_net) (by rfl) (by decide) (by decide)) (@pa_c _ _ _ _ _ (@pe_lstA _ _ _ _ (@pa_nil _)) (@pa_c _ _ _ _ _ (@pw _ 4 _ _ (Or.inl k_law_l_much) (by rfl) (by decide) (by decide)) (@pa_nil _) rfl) rfl) rfl) (by decide) (by rfl) (by rfl)) (@pa_nil _) rfl) rfl)) (@pa_c _ _ _ _ _ (@pe_lstA _ _ _ _ (@pa_c _ _ _ _ _ (@pe_tupA _ _ _ _ _ (@pa_c _ _ _ _ _ (@pe_int _ _ _ _) (@pa_c _ _ _ _ _ (@pe_int _ _ _ _) (@pa_nil _) rfl) rfl)) (@pa_c _ _ _ _ _ (@pe_lstA _ _ _ _ (@pa_nil _)) (@pa_nil _) rfl) rfl)) (@pa_nil _) rfl) rfl) (by decide) (by rfl) (by rfl)) (by intro _; rfl)))))) (@pss_one _ _ _ (@ps_ret _ _ _ _ (@pe_bl _ _ _ _))) (@pss_nil _)))))))))))) (by intro _; rfl)) (@pss_one _ _ _ (@ps_ret _ _ _ _ (@pe_bl _ _ _ _))))), ?_⟩
    refine seqH fun DA nA => ?_
    refine ⟨_, rfl, a, ns, 4, rfl, hS, hn, by decide, by decide, fun p ms H1 hp s1 hp1 hm2 hm6 => ?_⟩
    refine nA _ _ ?_
    refine ⟨_, rfl, p, _, rfl, .inl (SqL.of hp1), ((ms.map V.int).length : Int), rfl, ?_, ?_, ?_⟩
    · trivial
    · rw [List.length_map]; trivial
    refine for_range (fun i σ H' => Ex10 fun v2 v3 v4 v5 v6 v7 v8 v9 v10 v11 => σ = [some (.ref a), some (.ref p), v2, v3, v4, v5, v6, v7, v8, v9, v10, v11] ∧ H' p = some (.lst (ms.map V.int))) ⟨_, _, _, _, _, _, _, _, _, _, rfl, hp1⟩ ?_ ?_
    case refine_2 =>
      rintro σ H' ⟨v2, v3, v4, v5, v6, v7, v8, v9, v10, v11, rfl, _⟩
      exact k _
    rintro i σ H2 hi ⟨v2, v3, v4, v5, v6, v7, v8, v9, v10, v11, rfl, hp2⟩
    rw [List.length_map] at hi
    refine bodyH (t := tSeq _ _) fun DB nB => ?_
    refine seqH fun DC nC => ?_
    refine ⟨_, rfl, _, rfl, p, ms, _, rfl, SqL.of hp2, by trivial, by trivial, fun b H3 hb s3 B3 => ?_⟩
    refine nC _ _ ?_
    have npb : ¬ p = b := fun z => by rw [z, hb] at hp2; cases hp2
    have hp3 := s3 _ _ hp2
    refine seqA fun QM nM => ?_
    refine ⟨(by show 2 ≤ 10000; decide), fun a1 G1 u1 => ⟨(by show 2 ≤ 10000; decide), fun a2 G2 u2 => ⟨_, rfl, b, 99, 0, rfl, (B3.same u1.sm).same u2.sm, by decide, by decide, by decide, by decide, fun r1 t1 G3 r10 r11 _ _ s3' B3' => ⟨_, _, rfl, rfl, _, rfl, b, 60, t1, rfl, B3', by decide, by decide, by trivial, by trivial, fun r2 t2 G4 r20 r21 _ _ s4' B4' => ⟨_, _, rfl, rfl, ?_⟩⟩⟩⟩⟩
    refine ⟨_, _, rfl, by trivial, Sz.mono (m := 40) (by show (1 + r2).natAbs < 1099511627776; trivial) (by decide), fun a3 G5 u5 => ⟨(by show 3 ≤ 10000; decide), fun L G6 u6 => ⟨_, rfl, b, 3, t2, rfl, (B4'.same u5.sm).same u6.sm, by decide, by decide, by trivial, by trivial, fun r3 t3 G7 r30 r31 h7a h7b s7 B7 => ?_⟩⟩⟩
    have nLb : ¬ L = b := fun e => (B4'.same u5.sm).ne u6.fr e.symm
    have hL7 := s7.old L _ nLb u6.at'
    have hp7 : G7 p = some (.lst (ms.map V.int)) := s7.old p _ npb (u6.sm _ _ (u5.sm _ _ (s4'.old p _ npb (s3'.old p _ npb (u2.sm _ _ (u1.sm _ _ hp3))))))
    have f1 : G7 a1 = some (fr (0, 1)) := s7.tup _ _ (u6.sm _ _ (u5.sm _ _ (s4'.tup _ _ (s3'.tup _ _ (u2.sm _ _ u1.at')))))
    have f2 : G7 a2 = some (fr (1, 1)) := s7.tup _ _ (u6.sm _ _ (u5.sm _ _ (s4'.tup _ _ (s3'.tup _ _ u2.at'))))
    have f3 : G7 a3 = some (fr (KM.low (1 + r1) (1 + r2))) := s7.tup _ _ (u6.sm _ _ u5.at')
    have rest : ∀ am m, G7 am = some (fr m) → Fb 100 m.1 m.2 → QM (.ref am) G7 := fun am m ham fm => by
      refine nM _ _ ?_
      clear nM nC
      refine seqH fun DD nD => ?_
      refine ⟨_, rfl, b, t3, rfl, B7, by trivial, by trivial, fun o nv wa ls ts is home t4 H4 s4 ho iN hwa nwb cc B4 h4a h4b => ⟨o, _, rfl, SqT.of ho, rfl, _, _, rfl, _, _, rfl, _, _, rfl, rfl, ?_⟩⟩
      refine nD _ _ ?_
      clear nD
      have hp4 := s4.old p _ npb hp7
      have ham4 := s4.tup _ _ ham
      have l2 := cc.l2; have l10 := cc.l10; have lts := cc.len; have lls := cc.ll
      have i100 : ∀ i ∈ is, i < 100 := fun i h => by have := cc.lt i h; trivial
      have wti := wt_ints i100
      have wtl : Wt (.list [netD ls ts, .list (is.map intD)]) _ 5 := .list (.cons (wt_net9 cc) (.cons (wti.deep (by decide)) .nil))
      have iL : ∀ J J' q, SameE (Eb b) H4 J → Nw J q (.lst [nv, .ref wa]) J' → IsD (fun _ => False) J' (.ref q) (.list [netD ls ts, .list (is.map intD)]) := fun J J' q s n => .lst n.at' id (.cons (((iN.tupS (F := ED) s).sm n.sm).narrow fun _ _ => trivial) (.cons (.lst (n.sm _ _ (s.old wa _ nwb hwa)) id isAll_nts) .nil))
      refine seqA fun QK nK => ?_
      refine ⟨_, rfl, _, rfl, (by show 2 ≤ 10000; decide), fun q1 J1 m1 => ⟨q1, _, fun _ => False, _, 5, rfl, iL _ _ _ (Same.refl _).toE m1, wtl, by trivial, by decide, ?_⟩⟩
      refine nK _ _ ?_
      clear nK
      have iW : ∀ J, Same H4 J → IsD (fun _ => False) J (.ref wa) (.list (is.map intD)) := fun J s => .lst (s _ _ hwa) id isAll_nts
      have h100 : ∀ ds, PyData.list (is.map intD) = .list ds → ds.length ≤ 100 := fun ds e => by
        injection e with e
        rw [← e, List.length_map]; trivial
      refine seqH fun DE nE => ?_
      refine ⟨_, rfl, _, rfl, nv, .ref wa, ls, ts, _, fun _ => False, _, _, rfl, iN.sm m1.sm, iW _ m1.sm, wti, by decide, h100, by trivial, fun J2 s2 => ⟨_, _, rfl, rfl, _, rfl, ?_⟩⟩
      rw [chain_way cc]
      refine iteF ?_
      have s02 := m1.sm.trans s2
      refine ⟨_, rfl, _, rfl, nv, .ref wa, ls, ts, _, fun _ => False, _, _, rfl, iN.sm s02, iW _ s02, wti, by decide, h100, by trivial, fun J3 s3 => ⟨_, rfl, rfl, _, rfl, ?_⟩⟩
      rw [chain_round cc, decide_eq_true rfl]
      refine iteF ?_
      refine nE _ _ ?_
      clear nE
      have s03 := s02.trans s3
      have hw3 := s03 _ _ hwa
      refine seqH fun DG nG => ?_
      refine ⟨_, rfl, _, rfl, 1, rfl, wa, _, rfl, SqL.of hw3, fun w1 J4 x1 => ⟨_, rfl, 2, rfl, _, rfl, wa, _, rfl, SqL.of (x1.sm _ _ hw3), fun w2 J5 x2 => ⟨_, rfl, 1, rfl, wa, _, rfl, SqL.of (x2.sm _ _ (x1.sm _ _ hw3)), fun w3 J6 x3 => ⟨(by show 4 ≤ 10000; decide), fun tp J7 x4 => ?_⟩⟩⟩⟩
      have ln : (nts is).length = is.length := List.length_map ..
      have good : ∀ x ∈ [V.ref wa, .ref w1, .ref w2, .ref w3], Ex2 fun w' js => x = .ref w' ∧ J7 w' = some (.lst (nts js)) ∧ 1 ≤ js.length ∧ js.length ≤ 10 ∧ ∀ i ∈ js, i < ts.length := fun x hx => by
        have cut : ∀ (lo hi : Option Int) w', J7 w' = some (.lst (cutV (nts is) lo hi)) → 1 ≤ (cutV (nts is) lo hi).length → Ex2 fun w'' js => V.ref w' = .ref w'' ∧ J7 w'' = some (.lst (nts js)) ∧ 1 ≤ js.length ∧ js.length ≤ 10 ∧ ∀ i ∈ js, i < ts.length := fun lo hi w' hw' h1 => by
          obtain ⟨js, ej, sub, lj⟩ := cut_nts is lo hi
          have := cutV_length (nts is) lo hi
          exact ⟨w', js, rfl, by rw [hw', ej], by trivial, by trivial, fun i h => cc.lt i (sub i h)⟩
        have hx' : x = .ref wa ∨ x = .ref w1 ∨ x = .ref w2 ∨ x = .ref w3 := by simpa using hx
        rcases hx' with rfl | rfl | rfl | rfl
        · exact ⟨wa, is, rfl, x4.sm _ _ (x3.sm _ _ (x2.sm _ _ (x1.sm _ _ hw3))), by trivial, l10, cc.lt⟩
        · refine cut _ _ w1 (x4.sm _ _ (x3.sm _ _ (x2.sm _ _ x1.at'))) ?_
          rw [cutV_take (by decide), List.length_take, ln]
          show 1 ≤ min 1 is.length
          trivial
        · refine cut _ _ w2 (x4.sm _ _ (x3.sm _ _ x2.at')) ?_
          unfold cutV
          rw [List.length_take, List.length_drop]
          show 1 ≤ min ((nts is).length - ((-2 : Int) + ((nts is).length : Int)).toNat) ((nts is).length - ((-2 : Int) + ((nts is).length : Int)).toNat)
          trivial
        · refine cut _ _ w3 (x4.sm _ _ x3.at') ?_
          rw [cutV_drop1, List.length_drop]
          trivial
      have s07 := s03.trans (((x1.sm.trans x2.sm).trans x3.sm).trans x4.sm)
      refine ⟨tp, rfl, ⟨_, SqT.of x4.at'⟩, for_tup (xs := [.ref wa, .ref w1, .ref w2, .ref w3]) (fun j σ H' => ∃ v9, σ = [some (.ref a), some (.ref p), some (.int (0 + i)), some (.ref b), some (.ref am), some nv, some (.ref wa), some (.bl home), some (.str (PyData.shown (.list [netD ls ts, .list (is.map intD)]))), v9, v10, v11] ∧ Same J7 H') ⟨_, rfl, Same.refl _⟩ ?_ ?_ ?_⟩
      · rintro j σ H' _ ⟨v9, rfl, sm⟩
        exact SqT.of (sm _ _ x4.at')
      · rintro j x σ H' hx ⟨v9, rfl, sm⟩
        obtain ⟨w', js, rfl, hw', j1, j10, jlt⟩ := good x (List.mem_of_getElem? hx)
        have sn := s07.trans sm
        exact ⟨_, rfl, _, rfl, _, rfl, nv, w', am, ls, ts, js, m, rfl, iN.sm sn, sm _ _ hw', sn _ _ ham4, fm, j1, j10, jlt, cc.g, fun H8 s8 => ⟨_, rfl, iteF ⟨_, rfl, sm.trans s8⟩⟩⟩
      rintro σ H8 ⟨v9, rfl, s8⟩
      refine nG _ _ ?_
      clear nG
      have s08 := s07.trans s8
      refine seqH fun DH nH => ?_
      refine ⟨_, rfl, b, t4, rfl, B4.same s08, by trivial, by trivial, fun o2 nv2 wa2 ls2 ts2 is2 t5 H9 s9 ho2 iN2 hwa2 ec B9 h9a h9b => ⟨o2, _, rfl, SqT.of ho2, rfl, _, _, rfl, _, _, rfl, rfl, ?_⟩⟩
      refine nH _ _ ?_
      clear nH
      obtain ⟨ew, er, elt, el⟩ := eight_way ec
      have e100 : ∀ i ∈ is2, i < 100 := fun i h => by have := elt i h; have := ec.len; trivial
      have wte := wt_ints e100
      have eds : ∀ ds, PyData.list (is2.map intD) = .list ds → ds.length ≤ 100 := fun ds e => by
        injection e with e
        rw [← e, List.length_map]; trivial
      have iE : ∀ J, Same H9 J → IsD (fun _ => False) J (.ref wa2) (.list (is2.map intD)) := fun J s => .lst (s _ _ hwa2) id isAll_nts
      have lt2 := ec.len
      refine seqH fun DI nI => ?_
      refine ⟨_, rfl, _, rfl, nv2, .ref wa2, ls2, ts2, _, fun _ => False, _, _, rfl, iN2, iE _ (Same.refl _), wte, by decide, eds, by trivial, fun J10 s10 => ⟨_, _, rfl, rfl, _, rfl, ?_⟩⟩
      rw [ew]
      refine iteF ?_
      refine ⟨_, rfl, _, rfl, nv2, .ref wa2, ls2, ts2, _, fun _ => False, _, _, rfl, iN2.sm s10, iE _ s10, wte, by decide, eds, by trivial, fun J11 s11 => ⟨_, _, rfl, rfl, _, rfl, ?_⟩⟩
      rw [er]
      refine iteF ?_
      refine nI _ _ ?_
      clear nI
      have s911 := s10.trans s11
      have sE9 : SameE (Eb b) H4 H9 := s08.toE.trans s9
      have ham9 := sE9.tup _ _ ham4
      refine seqH fun DJ nJ => ?_
      refine ⟨_, rfl, _, rfl, _, rfl, nv2, wa2, am, ls2, ts2, is2, m, rfl, iN2.sm s911, s911 _ _ hwa2, s911 _ _ ham9, fm, by trivial, by trivial, elt, ec.g, fun J12 s12 => ⟨_, rfl, iteF ?_⟩⟩
      refine nJ _ _ ?_
      clear nJ
      have s912 := s911.trans s12
      have sE12 : SameE (Eb b) H4 J12 := sE9.trans s912.toE
      have hp12 := sE12.old p _ npb hp4
      refine ⟨_, rfl, _, rfl, (by show 2 ≤ 10000; decide), fun q2 J13 x5 => ⟨q2, _, fun _ => False, _, 5, rfl, iL _ _ _ sE12 x5, wtl, by trivial, by decide, _, rfl, rfl, _, rfl, ?_⟩⟩
      rw [decide_eq_true rfl]
      refine iteF ?_
      have sE13 : SameE (Eb b) H4 J13 := sE12.trans x5.sm.toE
      have iN13 : IsD ED J13 nv (netD ls ts) := iN.tupS (F := ED) sE13
      refine ⟨_, rfl, (by show 0 ≤ 10000; decide), fun z1 J14 y1 => ⟨nv, z1, ls, ts, [], rfl, iN13.sm y1.sm, y1.at', by decide, (fun i h => by cases h), cc.g, fun og J15 s15 hog => ⟨_, rfl, (by show 0 ≤ 10000; decide), fun z2 J16 y2 => ?_⟩⟩⟩
      have t16 := (y1.sm.trans s15).trans y2.sm
      refine ⟨_, rfl, nv, z2, am, ls, ts, [], m, rfl, iN13.sm t16, y2.at', t16 _ _ (sE13.tup _ _ ham4), fm.mono (by decide), by decide, (fun i h => by cases h), cc.g, fun D17 xs17 J17 s17 f17 h17 fl17 => ⟨(by show 2 ≤ 10000; decide), fun z3 J18 y3 => ⟨(by show 2 ≤ 10000; decide), fun z4 J19 y4 => ⟨(by show 0 ≤ 10000; decide), fun z5 J20 y5 => ⟨(by show 2 ≤ 10000; decide), fun z6 J21 y6 => ?_⟩⟩⟩⟩⟩
      cases fl17
      have q1821 := (y4.sm.trans y5.sm).trans y6.sm
      have q1721 := y3.sm.trans q1821
      have q1521 := (y2.sm.trans s17).trans q1721
      refine ⟨.ref z3, .ref z6, .list [frD (1, 1), .list []], fun _ => False, rfl, .lst (q1821 _ _ y3.at') id (.cons ((isF (p := (1, 1)) (q1521 _ _ hog)).narrow fun _ _ => trivial) (.cons (.lst (q1721 _ _ h17) id .nil) .nil)), .lst y6.at' id (.cons ((isF (p := (1, 1)) ((y5.sm.trans y6.sm) _ _ y4.at')).narrow fun _ _ => trivial) (.cons (.lst (y6.sm _ _ y5.at') id .nil) .nil)), by simp [Dp], fun J22 s22 => ⟨_, rfl, iteF ?_⟩⟩
      exact nB _ _ ⟨_, _, _, _, _, _, _, _, _, _, rfl, s22 _ _ (q1521 _ _ (s15 _ _ (y1.sm _ _ (x5.sm _ _ hp12))))⟩
    have r3c : r3 = 0 ∨ r3 = 1 ∨ r3 = 2 := by trivial
    rcases r3c with e | e | e
    · subst e
      exact ⟨L, _, _, _, rfl, rfl, SqL.of hL7, rfl, rest a1 _ f1 fr01⟩
    · subst e
      exact ⟨L, _, _, _, rfl, rfl, SqL.of hL7, rfl, rest a2 _ f2 (fb11.mono (by decide))⟩
    · subst e
      refine ⟨L, _, _, _, rfl, rfl, SqL.of hL7, rfl, rest a3 _ f3 (Fb.low ?_ ?_ (by trivial))⟩
      · exact Sz.mono (m := 10) (by show (1 + r1).natAbs < 1024; trivial) (by decide)
      · exact Sz.mono (m := 10) (by show (1 + r2).natAbs < 1024; trivial) (by decide)
end
end K09
open PySem PySem.W PyProof.Rows
set_option maxRecDepth 100000 in
set_option maxHeartbeats 0 in
theorem PySem.Challenge.cw_gainroads_k09_gains_along_ways_holds : PySem.Challenge.rw_gainroads_k09_gains_along_ways.Holds := by
  w_on; o_law; k_head; (case hw => w_witness2)
  k_fill
  refine L2.walk_ofK (l := PySem.Challenge.rw_gainroads_k09_gains_along_ways) (n := 63) (k := 40) (x := "_law_script") (CX := L2.CX0) (sp := K09.spLaw) rfl (by decide) rfl ⟨rfl, by decide, by decide, rfl⟩ (fun w h Y => PySem.W.kIn_of Y) ?F ?S ?C
  case F =>
    intro w mg fa h KX G hmg
    have T : ∃ T : K09.Txt (L2.KOf KX) mg, ∃ f, T.f_law = f ∧ (∀ (s : Shared) (u : Value), BindsTo s T.d_law ⟨[u], []⟩ [("_law_script", u)]) := by
      dsimp only [L2.KOf]
      refine' (fun z => Exists.elim z fun T y => ⟨T, _, y.1, y.2⟩) (K09.txt_mk KX G ?a0 ?l0 ?c0 ?k0 ?a1 ?l1 ?c1 ?k1 ?a2 ?l2 ?c2 ?k2 ?a3 ?l3 ?c3 ?k3 ?a4 ?l4 ?c4 ?k4 ?a5 ?l5 ?c5 ?k5 ?a6 ?l6 ?c6 ?k6 ?a7 ?l7 ?c7 ?k7 ?a8 ?l8 ?c8 ?k8 ?a9 ?l9 ?c9 ?k9 ?a10 ?l10 ?c10 ?k10 ?a11 ?l11 ?c11 ?k11 ?a12 ?l12 ?c12 ?k12 ?a13 ?l13 ?c13 ?k13 ?a14 ?l14 ?c14 ?k14 ?a15 ?l15 ?c15 ?k15 ?a16 ?l16 ?c16 ?k16 ?a17 ?l17 ?c17 ?k17 ?a18 ?l18 ?c18 ?k18 ?a19 ?l19 ?c19 ?k19 ?a20 ?l20 ?c20 ?k20 ?a21 ?l21 ?c21 ?k21 ?a22 ?l22 ?c22 ?k22 ?a23 ?l23 ?c23 ?k23 ?a24 ?l24 ?c24 ?k24 ?a25 ?l25 ?c25 ?k25 ?a26 ?l26 ?c26 ?k26 ?a27 ?l27 ?c27 ?k27 ?a28 ?l28 ?c28 ?k28 ?z0 ?z1 ?z2 ?z3 ?z4 ?z5 ?z6 ?z7 ?z8 ?z9 ?z10 ?z11 ?z12 ?z13 ?z14)
      (case a0 => k_is)
      (case l0 => k_is)
      (case c0 => k_is)
      (case k0 => k_is)
      (case a1 => k_is)
      (case l1 => k_is)
      (case c1 => k_is)
      (case k1 => k_is)
      (case a2 => k_is)
      (case l2 => k_is)
      (case c2 => k_is)
      (case k2 => k_is)
      (case a3 => k_is)
      (case l3 => k_is)
      (case c3 => k_is)
      (case k3 => k_is)
      (case a4 => k_is)
      (case l4 => k_is)
      (case c4 => k_is)
      (case k4 => k_is)
      (case a5 => k_is)
      (case l5 => k_is)
      (case c5 => k_is)
      (case k5 => k_is)
      (case a6 => k_is)
      (case l6 => k_is)
      (case c6 => k_is)
      (case k6 => k_is)
      (case a7 => k_is)
      (case l7 => k_is)
      (case c7 => k_is)
      (case k7 => k_is)
      (case a8 => k_is)
      (case l8 => k_is)
      (case c8 => k_is)
      (case k8 => k_is)
      (case a9 => k_is)
      (case l9 => k_is)
      (case c9 => k_is)
      (case k9 => k_is)
      (case a10 => k_is)
      (case l10 => k_is)
      (case c10 => k_is)
      (case k10 => k_is)
      (case a11 => k_is)
      (case l11 => k_is)
      (case c11 => k_is)
      (case k11 => k_is)
      (case a12 => k_is)
      (case l12 => k_is)
      (case c12 => k_is)
      (case k12 => k_is)
      (case a13 => k_is)
      (case l13 => k_is)
      (case c13 => k_is)
      (case k13 => k_is)
      (case a14 => k_is)
      (case l14 => k_is)
      (case c14 => k_is)
      (case k14 => k_is)
      (case a15 => k_is)
      (case l15 => k_is)
      (case c15 => k_is)
      (case k15 => k_is)
      (case a16 => k_is)
      (case l16 => k_is)
      (case c16 => k_is)
      (case k16 => k_is)
      (case a17 => k_is)
      (case l17 => k_is)
      (case c17 => k_is)
      (case k17 => k_is)
      (case a18 => k_is)
      (case l18 => k_is)
      (case c18 => k_is)
      (case k18 => k_is)
      (case a19 => k_is)
      (case l19 => k_is)
      (case c19 => k_is)
      (case k19 => k_is)
      (case a20 => k_is)
      (case l20 => k_is)
      (case c20 => k_is)
      (case k20 => k_is)
      (case a21 => k_is)
      (case l21 => k_is)
      (case c21 => k_is)
      (case k21 => k_is)
      (case a22 => k_is)
      (case l22 => k_is)
      (case c22 => k_is)
      (case k22 => k_is)
      (case a23 => k_is)
      (case l23 => k_is)
      (case c23 => k_is)
      (case k23 => k_is)
      (case a24 => k_is)
      (case l24 => k_is)
      (case c24 => k_is)
      (case k24 => k_is)
      (case a25 => k_is)
      (case l25 => k_is)
      (case c25 => k_is)
      (case k25 => k_is)
      (case a26 => k_is)
      (case l26 => k_is)
      (case c26 => k_is)
      (case k26 => k_is)
      (case a27 => k_is)
      (case l27 => k_is)
      (case c27 => k_is)
      (case k27 => k_is)
      (case a28 => k_is)
      (case l28 => k_is)
      (case c28 => k_is)
      (case k28 => k_is)
      (case z0 => k_is)
      (case z1 => k_is)
      (case z2 => k_is)
      (case z3 => k_is)
      (case z4 => k_is)
      (case z5 => k_is)
      (case z6 => k_is)
      (case z7 => k_is)
      (case z8 => k_is)
      (case z9 => k_is)
      (case z10 => k_is)
      (case z11 => k_is)
      (case z12 => k_is)
      (case z13 => k_is)
      (case z14 => k_is)
    obtain ⟨T, f, rfl, hb⟩ := T
    have e0 := hmg.symm.trans T.m_law
    cases e0
    exact ⟨T.d_law, hb, fun base kb nb => K09.law_ok T⟩
  case S => exact fun K H a ns hl hO hS => K09.law_start hl hO hS
  case C => exact fun _ _ _ _ z => z
