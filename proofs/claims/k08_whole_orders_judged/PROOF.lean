import PyProof.Rows.All
import Wide.All
import OpenK.AllK
import Wide.FinOn
import Lean
import PyProof.EqAt
import PyProof.EqKinds
import PyProof.NeKinds
import PyProof.TupleCall
import PyProof.ExcBaseAll.ValueError
import KE.KDictList
import KE.KTryMore
import PyProof.EnumMake
import PyProof.Rows.EnumRows
import PyProof.Rows.FactsT2
import KE.KRevIter
import PySem.Challenge.RW_halfask_k08_whole_orders_judged
set_option Elab.async false
set_option linter.all false
set_option maxRecDepth 100000
set_option maxHeartbeats 4000000
/-! THE HAND LAYER, for ints, bools, texts, own classes, LISTS and tuples (index, slices, in, append, pop ..), calls, loops. Paste it whole ahead of your own text; what your proof does not reach may be deleted. -/
namespace L2
open PySem PySem.Spec PyProof.Rows

/-- a key: an int or a str -/
abbrev Key := Sum Int Str
def keyIs : Key → Value → Bool
  | .inl k, v => Value.isInt k v
  | .inr x, v => Value.isStrOf x v
def keyH (w : World) : Key → Int
  | .inl k => hashInt k
  | .inr x => hashStr w x
theorem keyIs_shape : ∀ {k : Key} {v : Value}, keyIs k v = true → (∃ i t, k = Sum.inl i ∧ v = Value.int i t) ∨ (∃ x t, k = Sum.inr x ∧ v = Value.str x t)
  | .inl i, v, h => by
    obtain ⟨t, e⟩ := Value.isInt_shape (k := i) (v := v) h
    exact .inl ⟨i, t, rfl, e⟩
  | .inr x, v, h => by
    obtain ⟨t, e⟩ := Value.isStrOf_shape (x := x) (v := v) h
    exact .inr ⟨x, t, rfl, e⟩
theorem keyIs_int (i : Int) (t : Tok) : keyIs (.inl i) (.int i t) = true := by simp [keyIs, Value.isInt]
theorem keyIs_str (x : Str) (t : Tok) : keyIs (.inr x) (.str x t) = true := by simp [keyIs, Value.isStrOf]
theorem key_ll (a b : Int) : decide ((Sum.inl a : Key) = Sum.inl b) = (a == b) := by
  by_cases e : a = b
  · subst e; simp
  · have h : ¬ (Sum.inl a : Key) = Sum.inl b := fun q => e (Sum.inl.inj q)
    rw [decide_eq_false h]
    exact (beq_eq_false_iff_ne.mpr e).symm
theorem key_rr (a b : Str) : decide ((Sum.inr a : Key) = Sum.inr b) = decide (a = b) := by
  by_cases e : a = b
  · subst e; simp
  · have h : ¬ (Sum.inr a : Key) = Sum.inr b := fun q => e (Sum.inr.inj q)
    rw [decide_eq_false h, decide_eq_false e]
theorem key_lr (a : Int) (b : Str) : decide ((Sum.inl a : Key) = Sum.inr b) = false := decide_eq_false (fun q => nomatch q)
theorem key_rl (a : Str) (b : Int) : decide ((Sum.inr a : Key) = Sum.inl b) = false := decide_eq_false (fun q => nomatch q)

def mixKind (prog : Program) (w : World) : PySem.KeyKind prog w Key where
  is := keyIs
  hash := keyH w
  inj := fun v a b ha hb => by
    rcases keyIs_shape ha with ⟨i, t, rfl, rfl⟩ | ⟨x, t, rfl, rfl⟩
    · rcases keyIs_shape hb with ⟨j, u, rfl, e⟩ | ⟨y, u, rfl, e⟩
      · injection e with e1 _; rw [e1]
      · exact nomatch e
    · rcases keyIs_shape hb with ⟨j, u, rfl, e⟩ | ⟨y, u, rfl, e⟩
      · exact nomatch e
      · injection e with e1 _; rw [e1]
  byValue := fun k v h => by
    rcases keyIs_shape h with ⟨i, t, rfl, rfl⟩ | ⟨x, t, rfl, rfl⟩ <;> rfl
  pyHash := fun hv h => by
    rcases keyIs_shape hv with ⟨i, t, rfl, rfl⟩ | ⟨x, t, rfl, rfl⟩
    · exact wpAny_pyHash_int h
    · exact wpAny_pyHash_str h
  eqBool := fun hu hv h => by
    rcases keyIs_shape hu with ⟨i, t, rfl, rfl⟩ | ⟨x, t, rfl, rfl⟩
    · rcases keyIs_shape hv with ⟨j, u, rfl, rfl⟩ | ⟨y, u, rfl, rfl⟩
      · rw [key_ll] at h; exact wpAny_eqBool_int h
      · rw [key_lr] at h; exact SeqAt.EqAt.int_str i t y u _ _ _ _ h
    · rcases keyIs_shape hv with ⟨j, u, rfl, rfl⟩ | ⟨y, u, rfl, rfl⟩
      · rw [key_rl] at h; exact SeqAt.EqAt.str_int x t j u _ _ _ _ h
      · rw [key_rr] at h; exact wpAny_eqBool_str h
  «strs» := fun k x t v h => by
    rcases keyIs_shape h with ⟨i, u, rfl, e⟩ | ⟨y, u, rfl, e⟩
    · exact nomatch e
    · injection e with e1 _
      subst e1
      cases v <;> rfl

theorem mixKind_is (prog : Program) (w : World) (k : Key) (v : Value) : (mixKind prog w).is k v = keyIs k v := rfl
theorem mixKind_int (prog : Program) (w : World) (i : Int) (t : Tok) : (mixKind prog w).is (.inl i) (.int i t) = true := keyIs_int i t
theorem mixKind_str (prog : Program) (w : World) (x : Str) (t : Tok) : (mixKind prog w).is (.inr x) (.str x t) = true := keyIs_str x t
end L2

namespace L2
open PySem PySem.Spec PyProof.Rows

/-- a value, without the heap -/
inductive V where
  | non | bl (b : Bool) | int (i : Int) | str (x : Str) | byt (b : Array UInt8) | flt (b : UInt64) | ref (a : Addr) | ty (n : String)
  deriving DecidableEq

def RelV : V → Value → Prop
  | .non, u => u = Value.none
  | .bl b, u => u = Value.bool b
  | .int i, u => ∃ t, u = Value.int i t
  | .str x, u => ∃ t, u = Value.str x t
  | .byt b, u => ∃ t, u = Value.bytes b t
  | .flt b, u => ∃ t, u = Value.float b t
  | .ref a, u => u = Value.ref a
  | .ty n, u => u = Value.type n

abbrev Vals : List V → List Value → Prop := Paired RelV
theorem Vals.length {xs : List V} {us : List Value} (r : Vals xs us) : xs.length = us.length := Paired.length r
theorem Vals.get : ∀ {xs : List V} {us : List Value} {i : Nat} {x : V}, Vals xs us → xs[i]? = some x → ∃ u, us[i]? = some u ∧ RelV x u
  | _, _, _, _, .nil, e => by simp at e
  | _, _, 0, _, .cons r _, e => by simp at e; subst e; exact ⟨_, rfl, r⟩
  | _, _, i + 1, x, .cons _ t, e => by
    obtain ⟨u, h1, h2⟩ := Vals.get (i := i) (x := x) t (by simpa using e)
    exact ⟨u, by simpa using h1, h2⟩
theorem Vals.set {x : V} {u : Value} (r : RelV x u) : ∀ {xs : List V} {us : List Value} (i : Nat), Vals xs us → Vals (xs.set i x) (us.set i u)
  | _, _, _, .nil => .nil
  | _, _, 0, .cons _ t => .cons r t
  | _, _, i + 1, .cons q t => .cons q (Vals.set r i t)
theorem Vals.append : ∀ {xs ys : List V} {us ws : List Value}, Vals xs us → Vals ys ws → Vals (xs ++ ys) (us ++ ws)
  | _, _, _, _, .nil, s => s
  | _, _, _, _, .cons r t, s => .cons r (Vals.append t s)
theorem Vals.take : ∀ {xs : List V} {us : List Value} (n : Nat), Vals xs us → Vals (xs.take n) (us.take n)
  | _, _, 0, _ => .nil
  | _, _, _ + 1, .nil => .nil
  | _, _, n + 1, .cons r t => .cons r (Vals.take n t)
theorem Vals.drop : ∀ {xs : List V} {us : List Value} (n : Nat), Vals xs us → Vals (xs.drop n) (us.drop n)
  | _, _, 0, r => r
  | _, _, _ + 1, .nil => .nil
  | _, _, n + 1, .cons _ t => Vals.drop n t
theorem Vals.none_of : ∀ {xs : List V} {us : List Value} {i : Nat}, Vals xs us → xs[i]? = none → us[i]? = none := fun {xs us i} r e => by
  have h1 := r.length
  have h2 : xs.length ≤ i := List.getElem?_eq_none_iff.mp e
  exact List.getElem?_eq_none_iff.mpr (by omega)

def RelO : Option V → Option Value → Prop
  | some v, some u => RelV v u
  | none, none => True
  | _, _ => False
def KV {κ : Type} : List (κ × V) → List (κ × Value) → Prop := Paired fun (p : κ × V) (q : κ × Value) => p.1 = q.1 ∧ RelV p.2 q.2

/-- a key of a dict (00_mix): an int or a text -/
def kV : Key → V
  | .inl i => .int i
  | .inr x => .str x

/-- what stands at a tracked address -/
inductive HO where
  /-- a list -/
  | lst (xs : List V)
  /-- a tuple (never changes) -/
  | tup (xs : List V)
  /-- a dict whose keys are ints and texts; one whose keys are tuples of ints and texts (the empty one is both) -/
  | dK (kvs : List (Key × V)) | dT (kvs : List (List Key × V))
  /-- a set of ints: its members, its size -/
  | set (S : Int → Bool) (n : Nat)
  /-- an instance of the class at C, its dict at dx, its attributes -/
  | ins (C dx : Addr) (fs : List (Str × V))
  /-- the dict of the instance at x -/
  | own (x : Addr)
  /-- the dict of an exception -/
  | xd (fs : List (Str × V))
  /-- a bound method, f of x -/
  | met (f x : Addr)
  /-- a range object lo, lo + 1, .. below hi -/
  | rng (lo hi : Int)
  /-- a thing that is known to the object (the script; a dict while a loop walks it): read, never written while it is so -/
  | frz (o : Obj) (u : HO)
  /-- a code object's table -/
  | tbl (ps : Array Value)
  /-- any other thing, by what is true of its one object (a def of one's own: SetO a S n := HO.ext fun h => ..) -/
  | ext (φ : Heap → Prop)

abbrev Hp := Addr → Option HO
def upd (H : Hp) (a : Addr) (o : HO) : Hp := fun b => if b = a then some o else H b
theorem upd_same {H : Hp} {a : Addr} {o : HO} : upd H a o a = some o := by unfold upd; rw [if_pos rfl]
theorem upd_ne {H : Hp} {a b : Addr} {o : HO} (h : b ≠ a) : upd H a o b = H b := by unfold upd; rw [if_neg h]
theorem upd_upd {H : Hp} {a : Addr} {o u : HO} : upd (upd H a o) a u = upd H a u := by
  funext b; unfold upd; split <;> rfl
/-- two objects of different content stand apart -/
theorem ne_of {H : Hp} {a b : Addr} {o u : HO} (h : H a = some o) (h' : H b = some u) (d : o ≠ u) : a ≠ b := by
  intro e; subst e; rw [h] at h'; exact d (Option.some.inj h')
theorem ne_of_none {H : Hp} {a b : Addr} {o : HO} (h : H a = some o) (h' : H b = none) : a ≠ b := by
  intro e; subst e; rw [h] at h'; cases h'

section
variable (P : Program) (w : World)
def ObjOk (H : Hp) (h : Heap) (a : Addr) : HO → Prop
  | .lst xs => xs.length ≤ sizeLine ∧ ∃ (its : List Value) (n : Nat), Vals xs its ∧ h.get? a = some { cls := .type "list", data := .seq its.toArray n }
  | .tup xs => xs.length ≤ sizeLine ∧ ∃ its : List Value, Vals xs its ∧ IsTup h a its.toArray
  | .dK kvs => kvs.length ≤ sizeLine ∧ (a == sysModules) = false ∧ ∃ vs, KV kvs vs ∧ h.DictOf (mixKind P w) a vs
  | .dT kvs => kvs.length ≤ sizeLine ∧ (a == sysModules) = false ∧ ∃ xs : List (List Key × Addr × Value),
      Paired (fun (p : List Key × V) (q : List Key × Addr × Value) => p.1 = q.1 ∧ H q.2.1 = some (.tup (p.1.map kV)) ∧ RelV p.2 q.2.2) kvs xs ∧
      ∃ o es ep, h.get? a = some o ∧ o.ExactDict ∧ o.data = .dict es ep ∧ es.toList = xs.map (entryOfKey (tupleKind (mixKind P w))) ∧ (xs.map (·.1)).Nodup
  | .set S n => h.SetOf (intKind P w) a S n
  | .ins C dx fs => H dx = some (.own a) ∧ fs.length ≤ 1000 ∧ dx ≠ a ∧ h.get? a = some (PySem.W.instObj C dx) ∧
      ∃ mA, h.Ns1 dx mA ∧ (∀ f, RelO (fs.lookup f) (mA f)) ∧ PySem.Within mA (fs.map (·.1))
  | .own _ => ∃ o, h.get? a = some o
  | .xd fs => ∃ mA, h.Ns1 a mA ∧ ∀ f, RelO (fs.lookup f) (mA f)
  | .rng lo hi => ∃ t u v, h.get? a = some { cls := .type "range", data := .fields #[.int lo t, .int hi u, .int 1 v] }
  | .frz o u => h.get? a = some o ∧ ObjOk H h a u
  | .tbl ps => h.get? a = some { cls := .none, data := .fields ps }
  | .met f x => h.get? a = some (PySem.W.methodObj (.ref f) (.ref x))
  | .ext φ => φ h ∧ (∃ o, h.get? a = some o) ∧ ∀ h1 h2 : Heap, φ h1 → (∀ o, h1.get? a = some o → h2.get? a = some o) → φ h2
/-- the abstract heap is held -/
def HOk (H : Hp) (h : Heap) : Prop := ∀ a o, H a = some o → ObjOk P w H h a o
end

section
variable {P : Program} {w : World} {H H' : Hp} {h h' : Heap} {a : Addr} {o : HO}
theorem ObjOk.lt (x : ObjOk P w H h a o) : a < h.objs.size := by
  cases o with
  | lst xs => obtain ⟨_, _, _, _, e⟩ := x; exact Heap.lt_size e
  | tup xs => obtain ⟨_, _, _, p⟩ := x; exact p.lt
  | dK kvs => obtain ⟨_, _, _, _, o, _, _, e, _⟩ := x; exact Heap.lt_size e
  | dT kvs => obtain ⟨_, _, _, _, o, _, _, e, _⟩ := x; exact Heap.lt_size e
  | set S n => obtain ⟨o, _, _, _, e, _⟩ := x; exact Heap.lt_size e
  | ins C dx fs => obtain ⟨_, _, _, e, _⟩ := x; exact Heap.lt_size e
  | own y => obtain ⟨_, e⟩ := x; exact Heap.lt_size e
  | xd fs => obtain ⟨_, ⟨_, _, _, e, _⟩, _⟩ := x; exact Heap.lt_size e
  | rng lo hi => obtain ⟨_, _, _, e⟩ := x; exact Heap.lt_size e
  | frz ob u => obtain ⟨e, _⟩ := x; exact Heap.lt_size e
  | tbl ps => exact Heap.lt_size (show h.get? a = some _ from x)
  | met f y => exact Heap.lt_size (show h.get? a = some _ from x)
  | ext φ => obtain ⟨_, ⟨_, e⟩, _⟩ := x; exact Heap.lt_size e
theorem Paired.mapP {α β : Type} {F G : α → β → Prop} : ∀ {l₁ : List α} {l₂ : List β}, Paired F l₁ l₂ → (∀ a b, F a b → G a b) → Paired G l₁ l₂
  | _, _, .nil, _ => .nil
  | _, _, .cons r t, f => .cons (f _ _ r) (Paired.mapP t f)
theorem Paired.imp' {α β : Type} {F G : α → β → Prop} (f : ∀ a b, F a b → G a b) {l₁ : List α} {l₂ : List β} (r : Paired F l₁ l₂) : Paired G l₁ l₂ := Paired.mapP r f
/-- what an object's description leans on: its own object, its own dict, the tuples -/
theorem ObjOk.stay (x : ObjOk P w H h a o) (k : ∀ b u, (b = a ∨ H b = some (.own a)) → h.get? b = some u → h'.get? b = some u)
    (ho : ∀ b, H b = some (.own a) → H' b = some (.own a)) (ht : ∀ b xs, H b = some (.tup xs) → H' b = some (.tup xs)) : ObjOk P w H' h' a o := by
  induction o with
  | lst xs => obtain ⟨z, its, n, r, e⟩ := x; exact ⟨z, its, n, r, k _ _ (.inl rfl) e⟩
  | tup xs => obtain ⟨z, its, r, ob, e, c⟩ := x; exact ⟨z, its, r, ob, k _ _ (.inl rfl) e, c⟩
  | dK kvs => obtain ⟨z, y, vs, r, ob, es, ep, e, c⟩ := x; exact ⟨z, y, vs, r, ob, es, ep, k _ _ (.inl rfl) e, c⟩
  | dT kvs =>
    obtain ⟨z, y, xs, r, ob, es, ep, e, c⟩ := x
    exact ⟨z, y, xs, Paired.mapP r fun p q z => ⟨z.1, ht _ _ z.2.1, z.2.2⟩, ob, es, ep, k _ _ (.inl rfl) e, c⟩
  | set S n => obtain ⟨ob, es, ep, t, e, c⟩ := x; exact ⟨ob, es, ep, t, k _ _ (.inl rfl) e, c⟩
  | ins C dx fs =>
    obtain ⟨d, z, ne, e, mA, ⟨od, es, ep, e2, c⟩, r⟩ := x
    exact ⟨ho _ d, z, ne, k _ _ (.inl rfl) e, mA, ⟨od, es, ep, k _ _ (.inr d) e2, c⟩, r⟩
  | own y => obtain ⟨ob, e⟩ := x; exact ⟨ob, k _ _ (.inl rfl) e⟩
  | xd fs => obtain ⟨mA, ⟨od, es, ep, e, c⟩, r⟩ := x; exact ⟨mA, ⟨od, es, ep, k _ _ (.inl rfl) e, c⟩, r⟩
  | rng lo hi => obtain ⟨t, u, v, e⟩ := x; exact ⟨t, u, v, k _ _ (.inl rfl) e⟩
  | frz ob u ih => obtain ⟨e, q⟩ := x; exact ⟨k _ _ (.inl rfl) e, ih q⟩
  | tbl ps =>
    have e : h.get? a = some { cls := .none, data := .fields ps } := x
    show h'.get? a = some { cls := .none, data := .fields ps }
    exact k a _ (.inl rfl) e
  | met f y =>
    have e : h.get? a = some (PySem.W.methodObj (.ref f) (.ref y)) := x
    show h'.get? a = some (PySem.W.methodObj (.ref f) (.ref y))
    exact k a _ (.inl rfl) e
  | ext φ => obtain ⟨p, ⟨o, e⟩, st⟩ := x; exact ⟨st _ _ p fun o q => k _ _ (.inl rfl) q, ⟨o, k _ _ (.inl rfl) e⟩, st⟩
theorem HOk.lt (x : HOk P w H h) (e : H a = some o) : a < h.objs.size := (x a o e).lt
theorem HOk.fresh (x : HOk P w H h) (e : h.objs.size ≤ a) : H a = none := by
  cases q : H a with
  | none => rfl
  | some u => exact absurd (Nat.lt_of_lt_of_le (x.lt q) e) (Nat.lt_irrefl _)
/-- every object of the heap is kept -/
theorem HOk.kept (x : HOk P w H h) (k : ∀ b u, h.get? b = some u → h'.get? b = some u) : HOk P w H h' := fun a o e =>
  (x a o e).stay (fun b u _ q => k b u q) (fun _ q => q) fun _ _ q => q
/-- a new object is laid and tracked -/
theorem HOk.laid (x : HOk P w H h) (k : ∀ b u, h.get? b = some u → h'.get? b = some u) (hp : h.objs.size ≤ a) (new : ObjOk P w (upd H a o) h' a o) : HOk P w (upd H a o) h' := fun b u e => by
  have hn := x.fresh hp
  by_cases hb : b = a
  · subst hb; rw [upd_same] at e; cases e; exact new
  · rw [upd_ne hb] at e
    exact (x b u e).stay (fun c v _ q => k c v q) (fun c q => by rw [upd_ne (ne_of_none q hn)]; exact q) fun c xs q => by rw [upd_ne (ne_of_none q hn)]; exact q
end

/-- what may be read as u: it is u, or a known u -/
def Rd (H : Hp) (a : Addr) (u : HO) : Prop := H a = some u ∨ ∃ o, H a = some (.frz o u)
theorem Rd.of {H : Hp} {a : Addr} {u : HO} (h : H a = some u) : Rd H a u := .inl h
theorem Rd.ok {P : Program} {w : World} {H : Hp} {h : Heap} {a : Addr} {u : HO} (r : Rd H a u) (x : HOk P w H h) : ObjOk P w H h a u := by
  rcases r with r | ⟨o, r⟩
  · exact x a u r
  · obtain ⟨_, q⟩ := x a _ r
    exact q
/-- what may be written -/
def Mut : Option HO → Prop
  | some (.lst _) => True
  | some (.dK _) => True
  | some (.dT _) => True
  | some (.set _ _) => True
  | some (.ins _ _ _) => True
  | some (.ext _) => True
  | _ => False
section
variable {P : Program} {w : World} {H : Hp} {h h' : Heap} {x e : Addr} {o' : HO}
/-- the object at e is changed: x itself, or the dict of the instance x -/
theorem HOk.write (ok : HOk P w H h) (mu : Mut (H x)) (he : e = x ∨ H e = some (.own x)) (k : ∀ b u, b ≠ e → h.get? b = some u → h'.get? b = some u) (heo : ∃ u, h'.get? e = some u)
    (new : ObjOk P w (upd H x o') h' x o') : HOk P w (upd H x o') h' := fun b u q => by
  have nown : ∀ c y, H c = some (.own y) → c ≠ x := fun c y r z => by subst z; rw [r] at mu; exact mu
  have ntup : ∀ c xs, H c = some (.tup xs) → c ≠ x := fun c xs r z => by subst z; rw [r] at mu; exact mu
  by_cases hb : b = x
  · subst hb; rw [upd_same] at q; cases q; exact new
  · rw [upd_ne hb] at q
    by_cases hbe : b = e
    · have q' : H b = some (.own x) := by
        rcases he with z | z
        · exact absurd (hbe.trans z) hb
        · rw [hbe]; exact z
      rw [q] at q'; cases q'
      obtain ⟨v, hv⟩ := heo
      exact ⟨v, by rw [hbe]; exact hv⟩
    · refine (ok b u q).stay (fun c v hc r => k c v ?_ r) (fun c r => by rw [upd_ne (nown c b r)]; exact r) fun c xs r => by rw [upd_ne (ntup c xs r)]; exact r
      rcases hc with rfl | hc
      · exact hbe
      · rintro rfl
        rcases he with z | z
        · exact nown c b hc z
        · rw [hc] at z; cases z; exact hb rfl
end

/-! ### kept unless tracked; of the frames at fs (the callers') the slots may change (an exception that passes writes there); of the records at ex (iterators) nothing is said -/
structure Un (fs ex : List Addr) (H H' : Hp) (h h' : Heap) : Prop where
  keep : ∀ b o, h.get? b = some o → H b = none → b ∉ fs → b ∉ ex → h'.get? b = some o
  slot : ∀ b o, h.get? b = some o → H b = none → b ∈ fs → b ∉ ex → ∃ sl, h'.get? b = some { o with slots := sl }
  free : ∀ b o, h.get? b = some o → H b = none → b ∉ ex → H' b = none
  there : ∀ b o, h.get? b = some o → b ∉ ex → ∃ o', h'.get? b = some o'
  tups : ∀ b xs, H b = some (.tup xs) → H' b = some (.tup xs)
  frzs : ∀ b o u, H b = some (.frz o u) → H' b = some (.frz o u)
  tbls : ∀ b ps, H b = some (.tbl ps) → ∃ more, H' b = some (.tbl (ps ++ more))
section
variable {fs fs' ex ex' : List Addr} {H H1 H2 : Hp} {h h1 h2 h' : Heap} {a x e : Addr} {o : HO}
theorem Un.any (u : Un fs ex H H1 h h1) {b : Addr} {ob : Obj} (q : h.get? b = some ob) (n : H b = none) (hx : b ∉ ex) : ∃ sl, h1.get? b = some { ob with slots := sl } := by
  by_cases hb : b ∈ fs
  · exact u.slot b ob q n hb hx
  · exact ⟨ob.slots, u.keep b ob q n hb hx⟩
theorem Un.trans (a : Un fs ex H H1 h h1) (b : Un fs ex H1 H2 h1 h2) : Un fs ex H H2 h h2 where
  keep := fun c ob q n hc hx => b.keep c ob (a.keep c ob q n hc hx) (a.free c ob q n hx) hc hx
  slot := fun c ob q n hc hx => by
    obtain ⟨sl, e1⟩ := a.slot c ob q n hc hx
    obtain ⟨sl', e2⟩ := b.slot c _ e1 (a.free c ob q n hx) hc hx
    exact ⟨sl', e2⟩
  free := fun c ob q n hx => by
    obtain ⟨o', e1⟩ := a.there c ob q hx
    exact b.free c o' e1 (a.free c ob q n hx) hx
  there := fun c ob q hx => by
    obtain ⟨o', e1⟩ := a.there c ob q hx
    exact b.there c o' e1 hx
  tups := fun c xs q => b.tups c xs (a.tups c xs q)
  frzs := fun c ob xs q => b.frzs c ob xs (a.frzs c ob xs q)
  tbls := fun c ps q => by
    obtain ⟨m1, e1⟩ := a.tbls c ps q
    obtain ⟨m2, e2⟩ := b.tbls c _ e1
    exact ⟨m1 ++ m2, by rw [e2, Array.append_assoc]⟩
theorem Un.kept (k : ∀ b u, h.get? b = some u → h'.get? b = some u) : Un fs ex H H h h' :=
  ⟨fun b ob q _ _ _ => k b ob q, fun b ob q _ _ _ => ⟨ob.slots, k b ob q⟩, fun _ _ _ n _ => n, fun b ob q _ => ⟨ob, k b ob q⟩, fun _ _ q => q, fun _ _ _ q => q, fun _ ps q => ⟨#[], by rw [q]; simp⟩⟩
theorem Un.refl : Un fs ex H H h h := Un.kept fun _ _ q => q
theorem Un.laid (k : ∀ b u, h.get? b = some u → h'.get? b = some u) (hp : h.objs.size ≤ a) (hn : H a = none) : Un fs ex H (upd H a o) h h' where
  keep := fun b u q _ _ _ => k b u q
  slot := fun b u q _ _ _ => ⟨u.slots, k b u q⟩
  free := fun b u q n _ => by rw [upd_ne (Nat.ne_of_lt (Nat.lt_of_lt_of_le (Heap.lt_size q) hp))]; exact n
  there := fun b u q _ => ⟨u, k b u q⟩
  tups := fun b xs q => by rw [upd_ne (ne_of_none q hn)]; exact q
  frzs := fun b u xs q => by rw [upd_ne (ne_of_none q hn)]; exact q
  tbls := fun b ps q => ⟨#[], by rw [upd_ne (ne_of_none q hn), q]; simp⟩
theorem Un.write (mu : Mut (H x)) (he : e = x ∨ H e = some (.own x)) (k : ∀ b u, b ≠ e → h.get? b = some u → h'.get? b = some u) (heo : ∃ u, h'.get? e = some u) : Un fs ex H (upd H x o) h h' := by
  have hx : ∀ b, H b = none → b ≠ x := fun b n z => by subst z; rw [n] at mu; exact mu
  have hb : ∀ b, H b = none → b ≠ e := fun b n z => by
    subst z
    rcases he with r | r
    · exact hx b n r
    · rw [n] at r; cases r
  have hm : ∀ b u, H b = some u → ¬ Mut (some u) → b ≠ x := fun b u q nm z => by subst z; rw [q] at mu; exact nm mu
  refine ⟨fun b u q n _ _ => k b u (hb b n) q, fun b u q n _ _ => ⟨u.slots, k b u (hb b n) q⟩, fun b u q n _ => by rw [upd_ne (hx b n)]; exact n, fun b u q _ => ?_,
    fun b xs q => by rw [upd_ne (hm b _ q fun z => z)]; exact q, fun b u xs q => by rw [upd_ne (hm b _ q fun z => z)]; exact q, fun b ps q => ⟨#[], by rw [upd_ne (hm b _ q fun z => z), q]; simp⟩⟩
  by_cases hbe : b = e
  · subst hbe; exact heo
  · exact ⟨u, k b u hbe q⟩
theorem Un.mono (u : Un fs ex H H1 h h1) (hs : ∀ b ∈ fs, b ∈ fs') (hx : ∀ b ∈ ex, b ∈ ex') : Un fs' ex' H H1 h h1 :=
  ⟨fun b ob q n hb he => u.keep b ob q n (fun z => hb (hs b z)) fun z => he (hx b z), fun _ _ q n _ he => u.any q n fun z => he (hx _ z), fun b ob q n he => u.free b ob q n fun z => he (hx b z), fun b ob q he => u.there b ob q fun z => he (hx b z), u.tups, u.frzs, u.tbls⟩
end

/-! ### the heap without what is tracked -/
def trk (h : Heap) (H : Hp) : List Addr := (List.range h.objs.size).filter fun a => (H a).isSome
def hidT (h : Heap) (H : Hp) : Heap := PySem.W.hideAll h (trk h H)
theorem hidT_size (h : Heap) (H : Hp) : (hidT h H).objs.size = h.objs.size := PySem.W.hideAll_size _ _
theorem hidT_get {h : Heap} {H : Hp} {b : Addr} {o : Obj} (e : h.get? b = some o) (n : H b = none) : (hidT h H).get? b = some o :=
  PySem.W.hideAll_get _ e fun hm => by
    have q : (H b).isSome = true := (List.mem_filter.mp hm).2
    rw [n] at q; simp at q
theorem of_hidT {h : Heap} {H : Hp} {b : Addr} {o : Obj} (e : (hidT h H).get? b = some o) : h.get? b = some o ∧ H b = none := by
  have e' : h.get? b = some o := PySem.W.of_hideAll (trk h H) e
  refine ⟨e', ?_⟩
  cases q : H b with
  | none => rfl
  | some x =>
    have hm : b ∈ trk h H := List.mem_filter.mpr ⟨List.mem_range.mpr (Heap.lt_size e'), by simp [q]⟩
    have z : (hidT h H).get? b = none := PySem.W.hideAll_none (trk h H) hm
    rw [z] at e; cases e

/-! ### OpenK's ledger, filled with every new object but one -/
def allNews (g h : Heap) (L : Addr) : List (Addr × Obj) := (List.range h.objs.size).filterMap fun a => if a = L ∨ (g.get? a).isSome = true then none else (h.get? a).map fun o => (a, o)
theorem mem_allNews {g h : Heap} {L a : Addr} {o : Obj} (h1 : a ≠ L) (h2 : g.get? a = none) (h3 : h.get? a = some o) : (a, o) ∈ allNews g h L :=
  List.mem_filterMap.mpr ⟨a, List.mem_range.mpr (Heap.lt_size h3), by simp [h1, h2, h3]⟩
theorem of_mem_allNews {g h : Heap} {L : Addr} {p : Addr × Obj} (hp : p ∈ allNews g h L) : p.1 ≠ L ∧ g.get? p.1 = none ∧ h.get? p.1 = some p.2 := by
  obtain ⟨b, _, e⟩ := List.mem_filterMap.mp hp
  split at e
  · cases e
  · rename_i hn
    cases q : h.get? b with
    | none => rw [q] at e; simp at e
    | some u =>
      rw [q] at e
      simp only [Option.map_some, Option.some.injEq] at e
      subst e
      refine ⟨fun z => hn (.inl z), ?_, q⟩
      show g.get? b = none
      cases r : g.get? b with
      | none => rfl
      | some v => exact (hn (.inr (by simp [r]))).elim
def rest (g h : Heap) (L d : Addr) : List (Addr × Obj) := (allNews g h L).filter fun p => decide (p.1 ≠ d)
theorem rest_ne {g h : Heap} {L d : Addr} : ∀ p ∈ rest g h L d, p.1 ≠ d := fun p hp => of_decide_eq_true (List.mem_filter.mp hp).2
theorem mem_rest {g h : Heap} {L d a : Addr} {o : Obj} (h1 : a ≠ L) (h2 : g.get? a = none) (h3 : h.get? a = some o) (h4 : a ≠ d) : (a, o) ∈ rest g h L d :=
  List.mem_filter.mpr ⟨mem_allNews h1 h2 h3, decide_eq_true h4⟩
theorem news_all {g h : Heap} {L : Addr} : News g L h (allNews g h L) := fun p hp => let ⟨a, b, c⟩ := of_mem_allNews hp; ⟨c, a, b⟩
theorem news_at {g h : Heap} {L d : Addr} {o : Obj} (h1 : d ≠ L) (h2 : g.get? d = none) (h3 : h.get? d = some o) : News g L h ((d, o) :: rest g h L d) := fun p hp => by
  rcases List.mem_cons.mp hp with rfl | hp
  · exact ⟨h3, h1, h2⟩
  · exact news_all p (List.mem_filter.mp hp).1
/-- behind a rule that changed d alone: all else but the frame is kept -/
theorem kept_of_news {g h h' : Heap} {L d : Addr} {m : Str → Option Value} (k : ∀ b o, g.get? b = some o → h.get? b = some o) (F : Fr g L h' m) (N : News g L h' (rest g h L d)) :
    ∀ b o, b ≠ L → b ≠ d → h.get? b = some o → h'.get? b = some o := fun b o h1 h2 e => by
  cases q : g.get? b with
  | some u =>
    have := k b u q
    rw [e] at this; cases this
    exact F.keep b _ q
  | none => exact (N (b, o) (mem_rest h1 q e h2)).1
end L2

namespace L2
open PySem PySem.Spec PyProof.Rows

/-- the module's facts, over the base: the heap at the law's entry without what is tracked there -/
structure Mod (K : PySem.W.Frag) (mg : Str → Option Value) (base : Heap) : Prop where
  kin : K.In base
  glob : base.Ns mainGlobals mg
  blt : ∃ mb, base.Ns builtinsNs mb ∧ ∀ x : Str, x ≠ "__name__" → mb x = bootBuiltins x
  nolimit : base.NoLimit

/-- the context: a def's body (or a comprehension's block) running. base: fixed through the whole law; s₀, H₀: the entry; outer: the frames whose slots others may change (a def's callers); stack: all frames that run;
   ex: iterators that were made ahead of the entry and are walked here (a comprehension's); fn: the names whose cells were made at the entry (a def: all; a comprehension's block: its own); calm: not within an except suite; pn: pins that every state bears; xe: what is wanted of an exception that leaves the code -/
structure Cx where
  prog : Program
  w : World
  K : PySem.W.Frag
  mg : Str → Option Value
  base : Heap
  A : Around
  N : List Str
  s₀ : Shared
  H₀ : Hp
  env : Env
  outer : List Env
  stack : List Env
  ex : List Addr
  fn : Str → Bool
  calm : Bool
  pn : List (Addr × Obj)
  xe : Value → Shared → Prop
/-- the callers' frames -/
def frs (l : List Env) : List Addr := l.filterMap (·.frame)
abbrev Cx.fs (X : Cx) : List Addr := frs X.outer

def Vis (sc : Scope) (x : Str) : Prop := sc.names.lookup x = some .local ∨ sc.names.lookup x = some .cell ∨ sc.names.lookup x = some .free
def Loc (sc : Scope) (x : Str) : Prop := sc.names.lookup x = some .local ∨ sc.names.lookup x = some .cell
def Look (env : Env) (h : Heap) (m : Str → Option Value) (x : Str) (u : Value) : Prop :=
  (env.kindOf x = some .local ∧ m x = some u) ∨ ((env.kindOf x = some .cell ∨ env.kindOf x = some .free) ∧ ∃ c, env.cells.lookup x = some c ∧ h.IsCell c (some u))

structure Cx.Ok (X : Cx) : Prop where
  mod : Mod X.K X.mg X.base
  kind : X.env.scope.kind = .function
  glob : X.env.globals = mainGlobals
  blt : X.env.builtins = builtinsNs
  above : X.s₀.heap.objs.size ≤ X.env.locals
  inj : ∀ x y c, X.env.cells.lookup x = some c → X.env.cells.lookup y = some c → x = y
  has : ∀ x, (X.env.kindOf x = some .cell ∨ X.env.kindOf x = some .free) → ∃ c, X.env.cells.lookup x = some c
  cab : ∀ x c, X.fn x = true → X.env.cells.lookup x = some c → X.s₀.heap.objs.size ≤ c
  hd : X.calm = true → X.A.handled = none
  frames : X.A.frames = some X.stack
  stk : X.stack = X.outer ∨ (X.stack = X.env :: X.outer ∧ X.env.frame = some X.env.locals)
  exf : ∀ b ∈ X.ex, b ≠ X.env.locals ∧ ∀ x c, X.env.cells.lookup x = some c → c ≠ b
  bs : ∀ b o, X.base.get? b = some o → X.s₀.heap.get? b = some o ∧ X.H₀ b = none
  bsz : X.base.objs.size ≤ X.s₀.heap.objs.size
  noex : ∀ b o, X.base.get? b = some o → b ∉ X.ex
  exfs : ∀ b ∈ X.ex, b ∉ X.fs
  funs : X.s₀.heap.FunFrames X.base X.outer
  frf : ∀ b ∈ X.fs, X.H₀ b = none

structure Inv (X : Cx) (pins : List (Addr × Obj)) (σ : List (Option V)) (H : Hp) (s : Shared) : Prop where
  ok : X.Ok
  os : s.os = X.s₀.os
  bare : AllBare s.gens
  base : Un X.fs X.ex X.H₀ H X.s₀.heap s.heap
  loc : ∃ m, s.heap.Ns X.env.locals m ∧ ∀ (i : Nat) (x : Str) (v : V), X.N[i]? = some x → σ[i]? = some (some v) → Vis X.env.scope x → ∃ u, RelV v u ∧ Look X.env s.heap m x u
  cell : ∀ x c, X.env.cells.lookup x = some c → ∃ v, s.heap.IsCell c v
  free : H X.env.locals = none
  freeC : ∀ x c, X.env.cells.lookup x = some c → H c = none
  pin : ∀ p ∈ X.pn ++ pins, s.heap.get? p.1 = some p.2 ∧ H p.1 = none ∧ p.1 ≠ X.env.locals ∧ p.1 ∉ X.fs ∧ ∀ v, p.2.data ≠ .cell v
  hok : HOk X.prog X.w H s.heap
  len : σ.length = X.N.length

section
variable {X : Cx} {pins : List (Addr × Obj)} {σ : List (Option V)} {H H' : Hp} {s : Shared} {h' : Heap}

theorem Cx.Ok.nofr (ok : X.Ok) {b : Addr} {o : Obj} (e : X.base.get? b = some o) : b ∉ X.fs := fun hb => by
  have := (ok.funs.mem hb).1
  rw [e] at this; cases this
theorem Inv.bs (I : Inv X pins σ H s) : ∀ b o, X.base.get? b = some o → s.heap.get? b = some o ∧ H b = none := fun b o e =>
  ⟨I.base.keep b o (I.ok.bs b o e).1 (I.ok.bs b o e).2 (I.ok.nofr e) (I.ok.noex b o e), I.base.free b o (I.ok.bs b o e).1 (I.ok.bs b o e).2 (I.ok.noex b o e)⟩
theorem Inv.bk (I : Inv X pins σ H s) : ∀ b o, X.base.get? b = some o → s.heap.get? b = some o := fun b o e => (I.bs b o e).1
theorem Inv.mod (I : Inv X pins σ H s) : Mod X.K X.mg X.base := I.ok.mod
theorem Inv.kIn (I : Inv X pins σ H s) : X.K.In s.heap := I.ok.mod.kin.keeps I.bk
theorem Inv.nolimit (I : Inv X pins σ H s) : s.heap.NoLimit := I.ok.mod.nolimit.keeps I.bk
/-- the frame over the base: for OpenK's rules (K.In X.base is I.mod.kin) -/
theorem Inv.fr (I : Inv X pins σ H s) : ∃ m, Fr X.base X.env.locals s.heap m :=
  let ⟨m, hn, _⟩ := I.loc
  ⟨m, hn, I.bk, Nat.le_trans I.ok.bsz I.ok.above⟩
theorem Inv.lt (I : Inv X pins σ H s) : X.env.locals < s.heap.objs.size := let ⟨_, hn, _⟩ := I.loc; hn.lt
theorem Inv.sz (I : Inv X pins σ H s) : X.s₀.heap.objs.size ≤ s.heap.objs.size := Nat.le_trans I.ok.above (Nat.le_of_lt I.lt)
theorem Inv.nofs (I : Inv X pins σ H s) {a : Addr} (h : s.heap.objs.size ≤ a) : a ∉ X.fs := fun hb => by
  obtain ⟨_, o, ho, _⟩ := I.ok.funs.mem hb
  exact absurd (Nat.lt_of_lt_of_le (Heap.lt_size ho) (Nat.le_trans I.sz h)) (Nat.lt_irrefl _)
theorem Inv.cne (I : Inv X pins σ H s) : ∀ x c, X.env.cells.lookup x = some c → c ≠ X.env.locals := fun x c e z => by
  obtain ⟨v, o, ho, hd⟩ := I.cell x c e
  obtain ⟨m, ⟨o', es, ep, ho', hd', _⟩, _⟩ := I.loc
  rw [z, ho'] at ho; cases ho; rw [hd'] at hd; cases hd
theorem Inv.funs (I : Inv X pins σ H s) : s.heap.FunFrames X.base X.outer := by
  have all : ∀ (l : List Env), (∀ b ∈ frs l, b ∈ X.fs) → X.s₀.heap.FunFrames X.base l → s.heap.FunFrames X.base l := by
    intro l
    induction l with
    | nil => intro _ _; trivial
    | cons env r ih =>
      intro hs hl
      obtain ⟨hk, ⟨L, o, hf, hn, ho, hd⟩, hr⟩ := hl
      have hL : L ∈ X.fs := hs L (by unfold frs; rw [List.filterMap_cons, hf]; exact List.mem_cons_self)
      obtain ⟨sl, e⟩ := I.base.slot L o ho (I.ok.frf L hL) hL fun z => I.ok.exfs L z hL
      exact ⟨hk, ⟨L, _, hf, hn, e, hd⟩, ih (fun b hb => hs b (by unfold frs; rw [List.filterMap_cons, hf]; exact List.mem_cons_of_mem _ hb)) hr⟩
  exact all X.outer (fun _ hb => hb) I.ok.funs

/-- the frames that run, for a call -/
theorem Inv.stack (I : Inv X pins σ H s) : s.heap.FunFrames X.base X.stack := by
  rcases I.ok.stk with e | ⟨e, hf⟩
  · rw [e]; exact I.funs
  · rw [e]
    obtain ⟨m, hn, _⟩ := I.loc
    refine .cons (by rw [I.ok.kind]; decide) hf hn ?_ I.funs
    exact Heap.get?_none_of_le (Nat.le_trans I.ok.bsz I.ok.above)
theorem Inv.stkSub (I : Inv X pins σ H s) : ∀ b ∈ frs X.stack, b ∈ X.env.locals :: X.fs := fun b hb => by
  rcases I.ok.stk with e | ⟨e, hf⟩
  · rw [e] at hb; exact List.mem_cons_of_mem _ hb
  · rw [e] at hb
    unfold frs at hb
    rw [List.filterMap_cons, hf] at hb
    exact hb
theorem Inv.stkFree (I : Inv X pins σ H s) : ∀ b ∈ frs X.stack, H b = none := fun b hb => by
  rcases List.mem_cons.mp (I.stkSub b hb) with e | hb
  · rw [e]; exact I.free
  · obtain ⟨_, o, ho, _⟩ := I.ok.funs.mem hb
    exact I.base.free b o ho (I.ok.frf b hb) fun z => I.ok.exfs b z hb

/-- THE STEP: the untracked objects but the frame and the records at ch are kept (the callers' frames up to slots), the frame's map is kept, the new abstract heap is held -/
theorem Inv.step {g' : Array GenState} {t' : Nat} {d' : Drawn} {ch : List Addr} (I : Inv X pins σ H s)
    (hch : ∀ b ∈ ch, (b ∈ X.ex ∨ X.s₀.heap.objs.size ≤ b) ∧ b ≠ X.env.locals ∧ (∀ x c, X.env.cells.lookup x = some c → c ≠ b) ∧ ∀ p ∈ X.pn ++ pins, p.1 ≠ b)
    (keep : ∀ b o, b ≠ X.env.locals → b ∉ X.fs → b ∉ ch → s.heap.get? b = some o → H b = none → h'.get? b = some o)
    (slot : ∀ b o, b ≠ X.env.locals → b ∈ X.fs → b ∉ ch → s.heap.get? b = some o → H b = none → ∃ sl, h'.get? b = some { o with slots := sl }) (free : ∀ b o, b ∉ ch → s.heap.get? b = some o → H b = none → H' b = none)
    (there : ∀ b o, b ∉ ch → s.heap.get? b = some o → ∃ o', h'.get? b = some o')
    (tups : ∀ b xs, H b = some (.tup xs) → H' b = some (.tup xs)) (frzs : ∀ b o u, H b = some (.frz o u) → H' b = some (.frz o u)) (tbls : ∀ b ps, H b = some (.tbl ps) → ∃ more, H' b = some (.tbl (ps ++ more)))
    (ns : ∀ m, s.heap.Ns X.env.locals m → h'.Ns X.env.locals m) (hok : HOk X.prog X.w H' h') (hg : AllBare g') :
    Inv X pins σ H' { s with heap := h', gens := g', drawn := d', toks := t' } := by
  have neL : ∀ b o, X.s₀.heap.get? b = some o → b ≠ X.env.locals := fun b o e => Nat.ne_of_lt (Nat.lt_of_lt_of_le (Heap.lt_size e) I.ok.above)
  have neC : ∀ b o, X.s₀.heap.get? b = some o → b ∉ X.ex → b ∉ ch := fun b o e hx hb => by
    rcases (hch b hb).1 with z | z
    · exact hx z
    · exact absurd (Nat.lt_of_lt_of_le (Heap.lt_size e) z) (Nat.lt_irrefl _)
  have cellK : ∀ x c, X.env.cells.lookup x = some c → ∀ v, s.heap.IsCell c v → h'.IsCell c v := fun x c e v ⟨o, ho, hd⟩ => by
    have nch : c ∉ ch := fun z => (hch c z).2.2.1 x c e rfl
    by_cases hc : c ∈ X.fs
    · obtain ⟨sl, q⟩ := slot c o (I.cne x c e) hc nch ho (I.freeC x c e)
      exact ⟨_, q, hd⟩
    · exact ⟨o, keep c o (I.cne x c e) hc nch ho (I.freeC x c e), hd⟩
  refine ⟨I.ok, I.os, hg, ⟨fun b o e n hb hx => ?_, fun b o e n hb hx => ?_, fun b o e n hx => ?_, fun b o e hx => ?_, fun b xs e => tups b xs (I.base.tups b xs e), fun b o xs e => frzs b o xs (I.base.frzs b o xs e), fun b ps e => ?_⟩, ?_, fun x c e => ?_, ?_, fun x c e => ?_, fun p hp => ?_, hok, I.len⟩
  · exact keep b o (neL b o e) hb (neC b o e hx) (I.base.keep b o e n hb hx) (I.base.free b o e n hx)
  · obtain ⟨sl, e1⟩ := I.base.slot b o e n hb hx
    obtain ⟨sl', e2⟩ := slot b _ (neL b o e) hb (neC b o e hx) e1 (I.base.free b o e n hx)
    exact ⟨sl', e2⟩
  · obtain ⟨o', e1⟩ := I.base.there b o e hx
    exact free b o' (neC b o e hx) e1 (I.base.free b o e n hx)
  · obtain ⟨o', e1⟩ := I.base.there b o e hx
    exact there b o' (neC b o e hx) e1
  · obtain ⟨m1, e1⟩ := I.base.tbls b ps e
    obtain ⟨m2, e2⟩ := tbls b _ e1
    exact ⟨m1 ++ m2, by rw [e2, Array.append_assoc]⟩
  · obtain ⟨m, hn, hl⟩ := I.loc
    refine ⟨m, ns m hn, fun i x v e1 e2 e3 => ?_⟩
    obtain ⟨u, r, l⟩ := hl i x v e1 e2 e3
    refine ⟨u, r, ?_⟩
    rcases l with l | ⟨k, c, e, z⟩
    · exact .inl l
    · exact .inr ⟨k, c, e, cellK x c e _ z⟩
  · obtain ⟨v, z⟩ := I.cell x c e
    exact ⟨v, cellK x c e v z⟩
  · obtain ⟨m, ⟨o, _, _, ho, _⟩, _⟩ := I.loc
    exact free _ o (fun z => (hch _ z).2.1 rfl) ho I.free
  · obtain ⟨v, o, ho, hd⟩ := I.cell x c e
    exact free c o (fun z => (hch c z).2.2.1 x c e rfl) ho (I.freeC x c e)
  · obtain ⟨e, n, ne, nf, d⟩ := I.pin p hp
    have nch : p.1 ∉ ch := fun z => (hch p.1 z).2.2.2 p hp rfl
    exact ⟨keep p.1 p.2 ne nf nch e n, free p.1 p.2 nch e n, ne, nf, d⟩
/-- .. where the frame's own object is kept too -/
theorem Inv.un {t' : Nat} (I : Inv X pins σ H s) (u : Un X.fs [] H H' s.heap h') (hok : HOk X.prog X.w H' h') : Inv X pins σ H' { s with heap := h', toks := t' } := by
  obtain ⟨m, ⟨o, es, ep, ho, r⟩, _⟩ := id I.loc
  obtain ⟨sl, hL⟩ := u.any ho I.free (by simp)
  exact I.step (g' := s.gens) (d' := s.drawn) (ch := []) (fun _ z => nomatch z) (fun b o _ hb _ e n => u.keep b o e n hb (by simp)) (fun b o _ hb _ e n => u.slot b o e n hb (by simp)) (fun b o _ e n => u.free b o e n (by simp)) (fun b o _ e => u.there b o e (by simp)) u.tups u.frzs u.tbls (fun m' hm => by
    obtain ⟨o', es', ep', ho', r'⟩ := hm
    rw [ho] at ho'; cases ho'
    exact ⟨_, es', ep', hL, r'⟩) hok I.bare
/-- behind a call (or a comprehension's block): the slots of this frame may have changed too, the records at ch may have turned -/
theorem Inv.call {g' : Array GenState} {t' : Nat} {d' : Drawn} {ch : List Addr} (I : Inv X pins σ H s) (u : Un (frs X.stack) ch H H' s.heap h') (hok : HOk X.prog X.w H' h') (hg : AllBare g')
    (hch : ∀ b ∈ ch, (b ∈ X.ex ∨ X.s₀.heap.objs.size ≤ b) ∧ b ≠ X.env.locals ∧ (∀ x c, X.env.cells.lookup x = some c → c ≠ b) ∧ ∀ p ∈ X.pn ++ pins, p.1 ≠ b) :
    Inv X pins σ H' { s with heap := h', gens := g', drawn := d', toks := t' } := by
  obtain ⟨m, ⟨o, es, ep, ho, r⟩, _⟩ := id I.loc
  obtain ⟨sl, hL⟩ := u.any ho I.free fun z => (hch _ z).2.1 rfl
  exact I.step (ch := ch) hch (fun b o hL hb hc e n => u.keep b o e n (fun z => (List.mem_cons.mp (I.stkSub b z)).elim hL hb) hc) (fun b o _ _ hc e n => u.any e n hc) (fun b o hc e n => u.free b o e n hc) (fun b o hc e => u.there b o e hc) u.tups u.frzs u.tbls (fun m' hm => by
    obtain ⟨o', es', ep', ho', r'⟩ := hm
    rw [ho] at ho'; cases ho'
    exact ⟨_, es', ep', hL, r'⟩) hok hg
/-- an untracked record of ours (an iterator) has turned -/
theorem Inv.turned {t' : Nat} {it : Addr} (I : Inv X pins σ H s) (k : ∀ b o, b ≠ it → s.heap.get? b = some o → h'.get? b = some o) (hn : H it = none) (hL : it ≠ X.env.locals)
    (h1 : it ∈ X.ex ∨ X.s₀.heap.objs.size ≤ it) (h2 : ∀ x c, X.env.cells.lookup x = some c → c ≠ it) (h3 : ∀ p ∈ X.pn ++ pins, p.1 ≠ it) : Inv X pins σ H { s with heap := h', toks := t' } := by
  have nit : ∀ b u, H b = some u → b ≠ it := fun b u e z => by rw [z, hn] at e; cases e
  refine I.step (g' := s.gens) (d' := s.drawn) (ch := [it]) (fun b hb => ?_) (fun b o _ _ hc e _ => k b o (fun z => hc (by simp [z])) e) (fun b o _ _ hc e _ => ⟨o.slots, k b o (fun z => hc (by simp [z])) e⟩) (fun _ _ _ _ n => n)
    (fun b o hc e => ⟨o, k b o (fun z => hc (by simp [z])) e⟩) (fun _ _ e => e) (fun _ _ _ e => e) (fun b ps e => ⟨#[], by rw [e]; simp⟩) (fun m hm => ?_) (fun b u e => ?_) I.bare
  · have e : b = it := by simpa using hb
    subst e
    exact ⟨h1, hL, h2, h3⟩
  · obtain ⟨o, es, ep, ho, r⟩ := hm
    exact ⟨o, es, ep, k _ o (Ne.symm hL) ho, r⟩
  · refine (I.hok b u e).stay (fun c v hc q => k c v ?_ q) (fun _ q => q) fun _ _ q => q
    rcases hc with z | z
    · rw [z]; exact nit b u e
    · exact nit c _ z
theorem Inv.tok (I : Inv X pins σ H s) (t : Nat) : Inv X pins σ H { s with toks := t } := I.un (h' := s.heap) (t' := t) Un.refl I.hok
/-- all objects kept -/
theorem Inv.kept {t' : Nat} (I : Inv X pins σ H s) (k : ∀ b u, s.heap.get? b = some u → h'.get? b = some u) : Inv X pins σ H { s with heap := h', toks := t' } := I.un (Un.kept k) (I.hok.kept k)
/-- a new object laid and tracked -/
theorem Inv.laid {a : Addr} {o : HO} {t' : Nat} (I : Inv X pins σ H s) (k : ∀ b u, s.heap.get? b = some u → h'.get? b = some u) (hp : s.heap.objs.size ≤ a) (new : ObjOk X.prog X.w (upd H a o) h' a o) :
    Inv X pins σ (upd H a o) { s with heap := h', toks := t' } := I.un (Un.laid k hp (I.hok.fresh hp)) (I.hok.laid k hp new)
/-- an object written -/
theorem Inv.write {x e : Addr} {o : HO} {t' : Nat} (I : Inv X pins σ H s) (mu : Mut (H x)) (he : e = x ∨ H e = some (.own x)) (k : ∀ b u, b ≠ e → s.heap.get? b = some u → h'.get? b = some u) (heo : ∃ u, h'.get? e = some u)
    (new : ObjOk X.prog X.w (upd H x o) h' x o) : Inv X pins σ (upd H x o) { s with heap := h', toks := t' } := I.un (Un.write mu he k heo) (I.hok.write mu he k heo new)
/-- forgetting slots, pins -/
theorem Inv.weak {σ' : List (Option V)} (I : Inv X pins σ H s) (hl : σ'.length = σ.length) (w : ∀ (i : Nat) v, σ'[i]? = some (some v) → σ[i]? = some (some v)) : Inv X pins σ' H s :=
  ⟨I.ok, I.os, I.bare, I.base, let ⟨m, hn, hl'⟩ := I.loc; ⟨m, hn, fun i x v e1 e2 e3 => hl' i x v e1 (w i v e2) e3⟩, I.cell, I.free, I.freeC, I.pin, I.hok, hl.trans I.len⟩
theorem Inv.pins_of {pins' : List (Addr × Obj)} (I : Inv X pins σ H s) (h : ∀ p ∈ pins', s.heap.get? p.1 = some p.2 ∧ H p.1 = none ∧ p.1 ≠ X.env.locals ∧ p.1 ∉ X.fs ∧ ∀ v, p.2.data ≠ .cell v) : Inv X pins' σ H s :=
  ⟨I.ok, I.os, I.bare, I.base, I.loc, I.cell, I.free, I.freeC, fun p hp => (List.mem_append.mp hp).elim (fun z => I.pin p (List.mem_append_left _ z)) (h p), I.hok, I.len⟩

theorem nodup_ix {N : List Str} (hN : N.Nodup) {i j : Nat} {x : Str} (a : N[i]? = some x) (b : N[j]? = some x) : i = j := by
  obtain ⟨h1, e1⟩ := List.getElem?_eq_some_iff.mp a
  obtain ⟨h2, e2⟩ := List.getElem?_eq_some_iff.mp b
  exact (List.getElem_inj hN).mp (e1.trans e2.symm)

/-- a name is stored; what changed -/
theorem store_ok2 {M : Model} {A : Around} {E : Value → Shared → Prop} {i : Nat} {x : Str} {v : V} {u : Value} {Q : Unit → Shared → Prop} (I : Inv X pins σ H s) (hN : X.N.Nodup) (hi : X.N[i]? = some x) (hx : Loc X.env.scope x) (r : RelV v u)
    (h : ∀ s', Inv X pins (σ.set i (some v)) H s' → (∃ a, Heap.SameBut a s.heap s'.heap ∧ (a = X.env.locals ∨ X.env.cells.lookup x = some a)) → Q () s') (hf : X.fn x = true ∨ X.env.scope.names.lookup x = some .local := by first | exact .inl rfl | exact .inr rfl | assumption) : wpAny M A (storeName X.env x u) Q E s := by
  obtain ⟨m, hn, hl⟩ := id I.loc
  have hcls : (X.env.scope.kind == .class || (X.env.scope.kind == .module && X.env.locals != X.env.globals)) = false := by rw [I.ok.kind]; rfl
  have hiσ : i < σ.length := by rw [I.len]; exact (List.getElem?_eq_some_iff.mp hi).1
  have cne := I.cne
  have tracked : ∀ {a : Addr} {h' : Heap}, (∃ o, s.heap.get? a = some o ∧ H a = none) → Heap.SameBut a s.heap h' → HOk X.prog X.w H h' := fun {a h'} ha hs b ob e => by
    obtain ⟨_, _, hfree⟩ := ha
    refine (I.hok b ob e).stay (fun c w' hc q => (hs.2 c ?_).trans q) (fun _ q => q) fun _ _ q => q
    rintro rfl
    rcases hc with rfl | hc
    · rw [hfree] at e; cases e
    · rw [hfree] at hc; cases hc
  rcases hx with hk | hk
  · refine wpAny_storeName_local hk hn (fun h' hn' hs => ?_) hcls
    obtain ⟨oL, _, _, hoL, _⟩ := id hn
    refine h _ ⟨I.ok, I.os, I.bare, ⟨fun b o e n hb hx => ?_, fun b o e n hb hx => ?_, I.base.free, fun b o e hx => ?_, I.base.tups, I.base.frzs, I.base.tbls⟩, ⟨_, hn', fun j y v' e1 e2 e3 => ?_⟩, fun y c e => ?_, I.free, I.freeC, fun p hp => ?_, tracked ⟨oL, hoL, I.free⟩ hs, by simpa using I.len⟩ ⟨_, hs, .inl rfl⟩
    · exact (hs.2 b (Nat.ne_of_lt (Nat.lt_of_lt_of_le (Heap.lt_size e) I.ok.above))).trans (I.base.keep b o e n hb hx)
    · obtain ⟨sl, e1⟩ := I.base.slot b o e n hb hx
      exact ⟨sl, (hs.2 b (Nat.ne_of_lt (Nat.lt_of_lt_of_le (Heap.lt_size e) I.ok.above))).trans e1⟩
    · obtain ⟨o', e1⟩ := I.base.there b o e hx
      exact ⟨o', (hs.2 b (Nat.ne_of_lt (Nat.lt_of_lt_of_le (Heap.lt_size e) I.ok.above))).trans e1⟩
    · by_cases hj : j = i
      · subst hj
        rw [hi] at e1; cases e1
        rw [List.getElem?_set_self hiσ] at e2
        cases e2
        exact ⟨u, r, .inl ⟨hk, by simp⟩⟩
      · rw [List.getElem?_set_ne (Ne.symm hj)] at e2
        obtain ⟨u', r', q⟩ := hl j y v' e1 e2 e3
        refine ⟨u', r', ?_⟩
        rcases q with ⟨k, e⟩ | ⟨k, c, e, z⟩
        · refine .inl ⟨k, ?_⟩
          have : y ≠ x := fun e => hj (nodup_ix hN e1 (e ▸ hi))
          simp [this, e]
        · exact .inr ⟨k, c, e, z.sameBut hs (cne y c e)⟩
    · obtain ⟨w', z⟩ := I.cell y c e
      exact ⟨w', z.sameBut hs (cne y c e)⟩
    · obtain ⟨e, n, ne, nf, d⟩ := I.pin p hp
      exact ⟨(hs.2 p.1 ne).trans e, n, ne, nf, d⟩
  · have hfn : X.fn x = true := by
      rcases hf with z | z
      · exact z
      · rw [z] at hk; cases hk
    obtain ⟨c, hc⟩ := I.ok.has x (.inl hk)
    obtain ⟨w', z⟩ := I.cell x c hc
    refine wpAny_storeName_cell I.ok.kind hk hc z (fun h' hc' hs => ?_)
    obtain ⟨oc, hoc, hocd⟩ := id z
    refine h { s with heap := h' } ⟨I.ok, I.os, I.bare, ⟨fun b o e n hb hx => ?_, fun b o e n hb hx => ?_, I.base.free, fun b o e hx => ?_, I.base.tups, I.base.frzs, I.base.tbls⟩, ⟨m, hn.sameBut hs (Ne.symm (cne x c hc)), fun j y v' e1 e2 e3 => ?_⟩, fun y c' e => ?_, I.free, I.freeC, fun p hp => ?_, tracked ⟨oc, hoc, I.freeC x c hc⟩ hs, by simpa using I.len⟩ ⟨c, hs, .inr hc⟩
    · exact (hs.2 b (Nat.ne_of_lt (Nat.lt_of_lt_of_le (Heap.lt_size e) (I.ok.cab x c hfn hc)))).trans (I.base.keep b o e n hb hx)
    · obtain ⟨sl, e1⟩ := I.base.slot b o e n hb hx
      exact ⟨sl, (hs.2 b (Nat.ne_of_lt (Nat.lt_of_lt_of_le (Heap.lt_size e) (I.ok.cab x c hfn hc)))).trans e1⟩
    · obtain ⟨o', e1⟩ := I.base.there b o e hx
      exact ⟨o', (hs.2 b (Nat.ne_of_lt (Nat.lt_of_lt_of_le (Heap.lt_size e) (I.ok.cab x c hfn hc)))).trans e1⟩
    · by_cases hj : j = i
      · subst hj
        rw [hi] at e1; cases e1
        rw [List.getElem?_set_self hiσ] at e2
        cases e2
        exact ⟨u, r, .inr ⟨.inl hk, c, hc, hc'⟩⟩
      · rw [List.getElem?_set_ne (Ne.symm hj)] at e2
        obtain ⟨u', r', q⟩ := hl j y v' e1 e2 e3
        refine ⟨u', r', ?_⟩
        rcases q with q | ⟨k, c', e, z'⟩
        · exact .inl q
        · refine .inr ⟨k, c', e, z'.sameBut hs ?_⟩
          rintro rfl
          exact hj (nodup_ix hN e1 (I.ok.inj _ _ _ e hc ▸ hi))
    · by_cases hcc : c' = c
      · subst hcc; exact ⟨_, hc'⟩
      · obtain ⟨w2, z2⟩ := I.cell y c' e
        exact ⟨w2, z2.sameBut hs hcc⟩
    · obtain ⟨e, n, ne, nf, d⟩ := I.pin p hp
      refine ⟨(hs.2 p.1 ?_).trans e, n, ne, nf, d⟩
      intro q
      rw [q, hoc] at e
      have q' : oc = p.2 := Option.some.inj e
      exact d w' (by rw [← q']; exact hocd)
theorem store_ok {M : Model} {A : Around} {E : Value → Shared → Prop} {i : Nat} {x : Str} {v : V} {u : Value} {Q : Unit → Shared → Prop} (I : Inv X pins σ H s) (hN : X.N.Nodup) (hi : X.N[i]? = some x) (hx : Loc X.env.scope x) (r : RelV v u)
    (h : ∀ s', Inv X pins (σ.set i (some v)) H s' → Q () s') (hf : X.fn x = true ∨ X.env.scope.names.lookup x = some .local := by first | exact .inl rfl | exact .inr rfl | assumption) : wpAny M A (storeName X.env x u) Q E s :=
  store_ok2 I hN hi hx r (fun s' I' _ => h s' I') hf
/-- behind a call or a block, the state as it is -/
theorem Inv.call' {s' : Shared} {ch : List Addr} (I : Inv X pins σ H s) (ho : s'.os = s.os) (u : Un (frs X.stack) ch H H' s.heap s'.heap) (hok : HOk X.prog X.w H' s'.heap) (hg : AllBare s'.gens)
    (hch : ∀ b ∈ ch, (b ∈ X.ex ∨ X.s₀.heap.objs.size ≤ b) ∧ b ≠ X.env.locals ∧ (∀ x c, X.env.cells.lookup x = some c → c ≠ b) ∧ ∀ p ∈ X.pn ++ pins, p.1 ≠ b) : Inv X pins σ H' s' := by
  obtain ⟨h', g', d', t', o'⟩ := s'
  have e : o' = s.os := ho
  subst e
  exact I.call (g' := g') (t' := t') (d' := d') u hok hg hch
end

/-! ### the judgements -/
/-- an exception: its class, its own dict's address (where it has one), the abstract heap behind it -/
abbrev XK := Value → Option Addr → Hp → Prop
abbrev St := List (Option V)
abbrev VK := V → Hp → Prop
/-- an expression's reading; a test's; an argument list's -/
abbrev TE := St → Hp → VK → Prop
abbrev TT := St → Hp → (Bool → Hp → Prop) → Prop
abbrev TA := St → Hp → (List V → Hp → Prop) → Prop
/-- what is wanted behind a statement -/
structure Ends where
  nx : St → Hp → Prop
  rt : VK
  bk : St → Hp → Prop := fun _ _ => False
  ct : St → Hp → Prop := fun _ _ => False
abbrev TS := Ends → St → Hp → Prop

def EP (X : Cx) (pins : List (Addr × Obj)) (σ : St) (Q : VK) (u : Value) (s' : Shared) : Prop := ∃ v H', Inv X pins σ H' s' ∧ RelV v u ∧ Q v H'
def TP (X : Cx) (pins : List (Addr × Obj)) (σ : St) (Q : Bool → Hp → Prop) (b : Bool) (s' : Shared) : Prop := ∃ H', Inv X pins σ H' s' ∧ Q b H'
def AP (X : Cx) (pins : List (Addr × Obj)) (σ : St) (Q : List V → Hp → Prop) (us : List Value) (s' : Shared) : Prop := ∃ vs H', Inv X pins σ H' s' ∧ Vals vs us ∧ Q vs H'
def SP (X : Cx) (pins : List (Addr × Obj)) (D : Ends) (f : Flow) (s' : Shared) : Prop :=
  match f with
  | .next => ∃ σ' H', Inv X pins σ' H' s' ∧ D.nx σ' H'
  | .brk => ∃ σ' H', Inv X pins σ' H' s' ∧ D.bk σ' H'
  | .cont => ∃ σ' H', Inv X pins σ' H' s' ∧ D.ct σ' H'
  | .ret u => ∃ v σ' H', Inv X pins σ' H' s' ∧ RelV v u ∧ D.rt v H'

def PE (X : Cx) (e : Expr) (t : TE) : Prop :=
  ∀ (pins : List (Addr × Obj)) (s : Shared) (σ : St) (H : Hp) (Q : VK), Inv X pins σ H s → t σ H Q → wpAny (model X.prog X.w) X.A (eval e X.env) (EP X pins σ Q) X.xe s
def PT (X : Cx) (e : Expr) (t : TT) : Prop :=
  ∀ (pins : List (Addr × Obj)) (s : Shared) (σ : St) (H : Hp) (Q : Bool → Hp → Prop), Inv X pins σ H s → t σ H Q → wpAny (model X.prog X.w) X.A (isTrue e X.env (eval e X.env)) (TP X pins σ Q) X.xe s
/-- a test whatever its 'whole' is (and, or) -/
def PW (X : Cx) (e : Expr) (t : TT) : Prop :=
  ∀ (whole : Sem Value) (pins : List (Addr × Obj)) (s : Shared) (σ : St) (H : Hp) (Q : Bool → Hp → Prop), Inv X pins σ H s → t σ H Q → wpAny (model X.prog X.w) X.A (isTrue e X.env whole) (TP X pins σ Q) X.xe s
theorem PW.pt {X : Cx} {e : Expr} {t : TT} (h : PW X e t) : PT X e t := h _
/-- an argument list (no star), from the left -/
def PA (X : Cx) (es : List Expr) (t : TA) : Prop :=
  ∀ (pos : Pos) (pins : List (Addr × Obj)) (s : Shared) (σ : St) (H : Hp) (Q : List V → Hp → Prop), Inv X pins σ H s → t σ H Q → wpAny (model X.prog X.w) X.A (spliced (backTo pos (starEach es X.env))) (AP X pins σ Q) X.xe s
def PS (X : Cx) (st : Stmt) (t : TS) : Prop :=
  ∀ (pins : List (Addr × Obj)) (s : Shared) (σ : St) (H : Hp) (D : Ends), Inv X pins σ H s → t D σ H → wpAny (model X.prog X.w) X.A (exec st X.env) (SP X pins D) X.xe s
def PSs (X : Cx) (st : List Stmt) (t : TS) : Prop :=
  ∀ (pins : List (Addr × Obj)) (s : Shared) (σ : St) (H : Hp) (D : Ends), Inv X pins σ H s → t D σ H → wpAny (model X.prog X.w) X.A (execs st X.env) (SP X pins D) X.xe s
/-- weaken the end -/
theorem thn {α : Type} {t : Sem α} {Q Q' : α → Shared → Prop} {M : Model} {A : Around} {E : Value → Shared → Prop} {s : Shared} (h : wpAny M A t Q E s) (hQ : ∀ a s, Q a s → Q' a s) : wpAny M A t Q' E s := wpAny_mono h hQ fun _ _ x => x
end L2

namespace L2
open PySem PySem.Spec PyProof.Rows
section
variable {X : Cx}

/-- two expressions in a row -/
theorem bin {a b : Expr} {ta tb : TE} (ha : PE X a ta) (hb : PE X b tb) {pins : List (Addr × Obj)} {s : Shared} {σ : St} {H : Hp} {R : V → V → Hp → Prop} (I : Inv X pins σ H s) (h : ta σ H fun x H1 => tb σ H1 fun y H2 => R x y H2)
    {α : Type} {Q : α → Shared → Prop} {f : Value → Value → Sem α}
    (hf : ∀ v u s2 x y H2, Inv X pins σ H2 s2 → RelV x v → RelV y u → R x y H2 → wpAny (model X.prog X.w) X.A (f v u) Q X.xe s2) :
    wpAny (model X.prog X.w) X.A (eval a X.env) (fun v s₁ => wpAny (model X.prog X.w) X.A (eval b X.env) (fun u s₂ => wpAny (model X.prog X.w) X.A (f v u) Q X.xe s₂) X.xe s₁) X.xe s := by
  refine thn (ha pins s σ H _ I h) fun v s1 ⟨x, H1, I1, r1, q1⟩ => ?_
  refine thn (hb pins s1 σ H1 _ I1 q1) fun u s2 ⟨y, H2, I2, r2, q2⟩ => ?_
  exact hf v u s2 x y H2 I2 r1 r2 q2

/-! ### names and constants -/
def tVar (i : Nat) : TE := fun σ H Q => ∃ v, σ[i]? = some (some v) ∧ Q v H
def tC (v : V) : TE := fun _ H Q => Q v H
theorem pe_var {i : Nat} {x : Str} {pos : Pos} (hN : X.N[i]? = some x) (hv : Vis X.env.scope x) (hd : (x == ("__debug__" : Str)) = false := by decide) (hcd : (x == ("__classdict__" : Str)) = false := by decide) : PE X (.Name x pos) (tVar i) := by
  intro pins s σ H Q I h
  obtain ⟨v, e, h⟩ := h
  obtain ⟨m, hn, hl⟩ := I.loc
  obtain ⟨u, r, l⟩ := hl i x v hN e hv
  have fin : EP X pins σ Q u s := ⟨v, H, I, r, h⟩
  rcases l with ⟨hk, hm⟩ | ⟨hk, c, hc, hcell⟩
  · exact wpAny_Name (wpAny_loadName_local I.ok.kind hk hn hm fin) hd
  · rcases hk with hk | hk
    · exact wpAny_Name (wpAny_loadName_cell I.ok.kind hk hc hcell fin) hd
    · exact wpAny_Name (wpAny_loadName_free I.ok.kind hk hc hcell fin hcd) hd
theorem pe_int {i j pos} : PE X (.Constant (.int i) j pos) (tC (.int i)) := fun _ _ _ H _ I h => wpAny_Constant_int ⟨.int i, H, I.tok _, ⟨_, rfl⟩, h⟩
theorem pe_bl {b j pos} : PE X (.Constant (.bool b) j pos) (tC (.bl b)) := fun _ _ _ H _ I h => Constant_bool ⟨.bl b, H, I, rfl, h⟩
theorem pe_non {j pos} : PE X (.Constant .none j pos) (tC .non) := fun _ _ _ H _ I h => Constant_none ⟨.non, H, I, rfl, h⟩
theorem pe_str {x j pos} : PE X (.Constant (.str x) j pos) (tC (.str x)) := fun _ _ _ H _ I h => Calls.Constant_str ⟨.str x, H, I.tok _, ⟨_, rfl⟩, h⟩

/-- a global name of the def -/
def Gl (X : Cx) (x : Str) : Prop := X.env.kindOf x = some .globalImplicit
theorem ld_glob {E : Value → Shared → Prop} {pins : List (Addr × Obj)} {s : Shared} {σ : St} {H : Hp} {x : Str} {u : Value} {pos : Pos} {Q : Value → Shared → Prop} (I : Inv X pins σ H s) (hg : Gl X x) (hm : X.mg x = some u) (h : Q u s)
    (hd : (x == ("__debug__" : Str)) = false := by decide) : wpAny (model X.prog X.w) X.A (eval (.Name x pos) X.env) Q E s :=
  Calls.Name_function_global I.ok.kind hg (Calls.loadGlobal_global (by rw [I.ok.glob]; exact I.mod.glob.keeps I.bk) hm h) hd
theorem ld_blt {E : Value → Shared → Prop} {pins : List (Addr × Obj)} {s : Shared} {σ : St} {H : Hp} {x : Str} {u : Value} {pos : Pos} {Q : Value → Shared → Prop} (I : Inv X pins σ H s) (hg : Gl X x) (hm : X.mg x = none) (hv : bootBuiltins x = some u) (h : Q u s)
    (hn : x ≠ "__name__" := by decide) (hd : (x == ("__debug__" : Str)) = false := by decide) : wpAny (model X.prog X.w) X.A (eval (.Name x pos) X.env) Q E s := by
  obtain ⟨mb, h1, h2⟩ := I.mod.blt
  exact Calls.Name_function_global I.ok.kind hg (Calls.loadGlobal_builtin (by rw [I.ok.glob]; exact I.mod.glob.keeps I.bk) hm (by rw [I.ok.blt]; exact h1.keeps I.bk) ((h2 x hn).trans hv) h) hd
/-- a module's constant, a class, a function, as a value -/
theorem pe_glob {x : Str} {v : V} {u : Value} {pos : Pos} (hg : Gl X x) (hm : X.mg x = some u) (r : RelV v u) (hd : (x == ("__debug__" : Str)) = false := by decide) : PE X (.Name x pos) (tC v) :=
  fun _ _ _ H _ I h => ld_glob I hg hm ⟨v, H, I, r, h⟩ hd
theorem pe_bltn {x : Str} {v : V} {u : Value} {pos : Pos} (hg : Gl X x) (hm : X.mg x = none) (hv : bootBuiltins x = some u) (r : RelV v u) (hn : x ≠ "__name__" := by decide) (hd : (x == ("__debug__" : Str)) = false := by decide) : PE X (.Name x pos) (tC v) :=
  fun _ _ _ H _ I h => ld_blt I hg hm hv ⟨v, H, I, r, h⟩ hn hd

/-! ### arithmetic -/
/-- two ints -/
def t2I (ta tb : TE) (k : Int → Int → Hp → Prop) : St → Hp → Prop := fun σ H => ta σ H fun x H1 => tb σ H1 fun y H2 => ∃ i j, x = .int i ∧ y = .int j ∧ k i j H2
def tAdd (ta tb : TE) : TE := fun σ H Q => t2I ta tb (fun i j H2 => Q (.int (i + j)) H2) σ H
def tSub (ta tb : TE) : TE := fun σ H Q => t2I ta tb (fun i j H2 => Q (.int (i - j)) H2) σ H
/-- the left factor below 2^64 -/
def tMul (ta tb : TE) : TE := fun σ H Q => t2I ta tb (fun i j H2 => (-(2 ^ 64) < i ∧ i < 2 ^ 64) ∧ Q (.int (i * j)) H2) σ H
variable {a b : Expr} {ta tb : TE} {pos : Pos}
theorem pe_add (ha : PE X a ta) (hb : PE X b tb) : PE X (.BinOp a .Add b pos) (tAdd ta tb) := by
  intro pins s σ H Q I h
  refine wpAny_BinOp (bin ha hb I h fun v u s2 x y H2 I2 rx ry q => ?_)
  obtain ⟨i, j, rfl, rfl, q⟩ := q
  obtain ⟨t, rfl⟩ := rx
  obtain ⟨t', rfl⟩ := ry
  exact add_int ⟨.int _, H2, I2.tok _, ⟨_, rfl⟩, q⟩
theorem pe_sub (ha : PE X a ta) (hb : PE X b tb) : PE X (.BinOp a .Sub b pos) (tSub ta tb) := by
  intro pins s σ H Q I h
  refine wpAny_BinOp (bin ha hb I h fun v u s2 x y H2 I2 rx ry q => ?_)
  obtain ⟨i, j, rfl, rfl, q⟩ := q
  obtain ⟨t, rfl⟩ := rx
  obtain ⟨t', rfl⟩ := ry
  exact sub_int ⟨.int _, H2, I2.tok _, ⟨_, rfl⟩, q⟩
theorem pe_mul (ha : PE X a ta) (hb : PE X b tb) : PE X (.BinOp a .Mult b pos) (tMul ta tb) := by
  intro pins s σ H Q I h
  refine wpAny_BinOp (bin ha hb I h fun v u s2 x y H2 I2 rx ry q => ?_)
  obtain ⟨i, j, rfl, rfl, ⟨q1, q2⟩, q⟩ := q
  obtain ⟨t, rfl⟩ := rx
  obtain ⟨t', rfl⟩ := ry
  exact mul_int ⟨.int _, H2, I2.tok _, ⟨_, rfl⟩, q⟩ (.of_left (intBits_le_64 q1 q2))

/-! ### comparisons -/
def PC (X : Cx) (op : CmpOp) (a b : Expr) (t : TE) : Prop :=
  ∀ (pins : List (Addr × Obj)) (s : Shared) (σ : St) (H : Hp) (Q : VK), Inv X pins σ H s → t σ H Q →
    wpAny (model X.prog X.w) X.A (eval a X.env) (fun v s₁ => wpAny (model X.prog X.w) X.A (eval b X.env) (fun u s₂ => wpAny (model X.prog X.w) X.A (compareOp op v u) (EP X pins σ Q) X.xe s₂) X.xe s₁) X.xe s
theorem nobehind (b : Expr) {op : CmpOp} (h : op ≠ .In) (h2 : op ≠ .NotIn) : behindInMarks op b = false := by
  have e1 : (op == CmpOp.In) = false := by cases op <;> first | rfl | exact absurd rfl h
  have e2 : (op == CmpOp.NotIn) = false := by cases op <;> first | rfl | exact absurd rfl h2
  cases b <;> simp [behindInMarks, e1, e2]
def tCmp (p : Int → Int → Bool) (ta tb : TE) : TE := fun σ H Q => t2I ta tb (fun i j H2 => Q (.bl (p i j)) H2) σ H
abbrev tLt : TE → TE → TE := tCmp fun i j => decide (i < j)
abbrev tLe : TE → TE → TE := tCmp fun i j => decide (i ≤ j)
abbrev tGt : TE → TE → TE := tCmp fun i j => decide (j < i)
abbrev tGe : TE → TE → TE := tCmp fun i j => decide (j ≤ i)
abbrev tEqI : TE → TE → TE := tCmp fun i j => decide (i = j)
abbrev tNeI : TE → TE → TE := tCmp fun i j => !decide (i = j)
/-- a comparison of two ints, by its rule -/
theorem pc_int {op : CmpOp} {p : Int → Int → Bool} (ha : PE X a ta) (hb : PE X b tb)
    (rule : ∀ (i j : Int) (t u : Tok) (Q : Value → Shared → Prop) (s : Shared), Q (.bool (p i j)) s → wpAny (model X.prog X.w) X.A (compareOp op (.int i t) (.int j u)) Q X.xe s) : PC X op a b (tCmp p ta tb) := by
  intro pins s σ H Q I h
  refine bin ha hb I h fun v u s2 x y H2 I2 rx ry q => ?_
  obtain ⟨i, j, rfl, rfl, q⟩ := q
  obtain ⟨t, rfl⟩ := rx
  obtain ⟨t', rfl⟩ := ry
  exact rule i j t t' _ s2 ⟨.bl _, H2, I2, rfl, q⟩
theorem pc_lt (ha : PE X a ta) (hb : PE X b tb) : PC X .Lt a b (tLt ta tb) := pc_int ha hb fun _ _ _ _ _ _ h => lt_int h
theorem pc_le (ha : PE X a ta) (hb : PE X b tb) : PC X .LtE a b (tLe ta tb) := pc_int ha hb fun _ _ _ _ _ _ h => le_int h
theorem pc_gt (ha : PE X a ta) (hb : PE X b tb) : PC X .Gt a b (tGt ta tb) := pc_int ha hb fun _ _ _ _ _ _ h => gt_int h
theorem pc_ge (ha : PE X a ta) (hb : PE X b tb) : PC X .GtE a b (tGe ta tb) := pc_int ha hb fun _ _ _ _ _ _ h => ge_int h
theorem pc_eqI (ha : PE X a ta) (hb : PE X b tb) : PC X .Eq a b (tEqI ta tb) := pc_int ha hb fun _ _ _ _ _ _ h => eq_int (by rw [Bool.beq_eq_decide_eq]; exact h)
theorem pc_neI (ha : PE X a ta) (hb : PE X b tb) : PC X .NotEq a b (tNeI ta tb) := pc_int ha hb fun _ _ _ _ _ _ h => ne_int (by rw [bne, Bool.beq_eq_decide_eq]; exact h)
/-- is None -/
def tIsN (ta : TE) : TE := fun σ H Q => ta σ H fun x H1 => Q (.bl (decide (x = .non))) H1
def tNotN (ta : TE) : TE := fun σ H Q => ta σ H fun x H1 => Q (.bl (!decide (x = .non))) H1
theorem RelV.none_iff {x : V} {v : Value} (r : RelV x v) : (v == Value.none) = decide (x = .non) := by
  cases x with
  | non => cases r; rfl
  | bl _ => cases r; rfl
  | int _ => obtain ⟨t, rfl⟩ := r; rfl
  | str _ => obtain ⟨t, rfl⟩ := r; rfl
  | byt _ => obtain ⟨t, rfl⟩ := r; rfl
  | flt _ => obtain ⟨t, rfl⟩ := r; rfl
  | ref _ => cases r; rfl
  | ty _ => cases r; rfl
theorem pc_isN {j pos'} (ha : PE X a ta) : PC X .Is a (.Constant .none j pos') (tIsN ta) := by
  intro pins s σ H Q I h
  refine thn (ha pins s σ H _ I h) fun v s1 ⟨x, H1, I1, r1, q1⟩ => ?_
  exact Constant_none (is_none_gen ⟨.bl _, H1, I1, by rw [r1.none_iff]; rfl, q1⟩)
theorem pc_notN {j pos'} (ha : PE X a ta) : PC X .IsNot a (.Constant .none j pos') (tNotN ta) := by
  intro pins s σ H Q I h
  refine thn (ha pins s σ H _ I h) fun v s1 ⟨x, H1, I1, r1, q1⟩ => ?_
  exact Constant_none (isnot_none_gen ⟨.bl _, H1, I1, by rw [r1.none_iff]; rfl, q1⟩)
/-- a comparison as a value, as a test -/
def tB (t : TE) : TT := fun σ H Q => t σ H fun x H1 => ∃ c, x = .bl c ∧ Q c H1
theorem pe_cmp {op : CmpOp} {t : TE} (h : PC X op a b t) (h1 : behindInMarks op b = false := by first | exact nobehind _ (by decide) (by decide) | rfl) : PE X (.Compare a [op] [b] pos) t := fun pins s σ H Q I hw => wpAny_Compare1 (h pins s σ H Q I hw) h1
theorem pt_cmp {op : CmpOp} {t : TE} (h : PC X op a b t) (h1 : behindInMarks op b = false := by first | exact nobehind _ (by decide) (by decide) | rfl) : PT X (.Compare a [op] [b] pos) (tB t) := by
  intro pins s σ H Q I hw
  refine wpAny_isTrue_Compare1 (thn (h pins s σ H _ I hw) fun v s1 h1 => thn h1 fun u s2 h2 => thn h2 fun c s3 ⟨x, H1, I1, r1, q1⟩ => ?_) h1
  obtain ⟨d, rfl, q⟩ := q1
  cases r1
  exact wpAny_truthy_bool ⟨H1, I1, q⟩
/-- an expression whose value is a bool, as a test -/
theorem pt_val {e : Expr} {t : TE} (h : PE X e t) (he : ∀ whole, isTrue e X.env whole = (do let v ← whole; standAt e.pos; holding [v] (truthy v)) := by intro _; rfl) : PT X e (tB t) := by
  intro pins s σ H Q I hw
  refine isTrue_plain (thn (h pins s σ H _ I hw) fun v s1 ⟨x, H1, I1, r1, q1⟩ => ?_) (he _)
  obtain ⟨d, rfl, q⟩ := q1
  cases r1
  exact wpAny_truthy_bool ⟨H1, I1, q⟩

/-! ### and, or, not -/
variable {tA tB' : TT} {rest : List Expr}
def tAnd (t u : TT) : TT := fun σ H Q => t σ H fun c H1 => if c = true then u σ H1 Q else Q false H1
def tOr (t u : TT) : TT := fun σ H Q => t σ H fun c H1 => if c = true then Q true H1 else u σ H1 Q
def tNot (t : TT) : TT := fun σ H Q => t σ H fun c H1 => Q (!c) H1
theorem pw_and1 (ha : PT X a tA) : PW X (.BoolOp .And [a] pos) tA := by
  intro wh pins s σ H Q I h
  refine isTrue_and (thn (ha pins s σ H Q I h) fun c s1 e => ?_)
  cases c with
  | true => exact isTrue_and_nil e
  | false => exact e
theorem pw_or1 (ha : PT X a tA) : PW X (.BoolOp .Or [a] pos) tA := by
  intro wh pins s σ H Q I h
  refine isTrue_or (thn (ha pins s σ H Q I h) fun c s1 e => ?_)
  cases c with
  | false => exact isTrue_or_nil e
  | true => exact e
theorem pw_and (ha : PT X a tA) (hb : PW X (.BoolOp .And (b :: rest) pos) tB') : PW X (.BoolOp .And (a :: b :: rest) pos) (tAnd tA tB') := by
  intro wh pins s σ H Q I h
  refine isTrue_and (thn (ha pins s σ H _ I h) fun c s1 ⟨H1, I1, q1⟩ => ?_)
  cases c with
  | true => exact hb wh pins s1 σ H1 Q I1 q1
  | false => exact ⟨H1, I1, q1⟩
theorem pw_or (ha : PT X a tA) (hb : PW X (.BoolOp .Or (b :: rest) pos) tB') : PW X (.BoolOp .Or (a :: b :: rest) pos) (tOr tA tB') := by
  intro wh pins s σ H Q I h
  refine isTrue_or (thn (ha pins s σ H _ I h) fun c s1 ⟨H1, I1, q1⟩ => ?_)
  cases c with
  | true => exact ⟨H1, I1, q1⟩
  | false => exact hb wh pins s1 σ H1 Q I1 q1
theorem pt_not (ha : PT X a tA) : PT X (.UnaryOp .Not a pos) (tNot tA) := by
  intro pins s σ H Q I h
  exact isTrue_not (ha pins s σ H (fun c H1 => Q (!c) H1) I h)
/-- .. as values (bools) -/
def tAndV (ta tb : TE) : TE := fun σ H Q => ta σ H fun x H1 => ∃ c, x = .bl c ∧ if c = true then tb σ H1 Q else Q (.bl false) H1
def tOrV (ta tb : TE) : TE := fun σ H Q => ta σ H fun x H1 => ∃ c, x = .bl c ∧ if c = true then Q (.bl true) H1 else tb σ H1 Q
def tNotV (ta : TE) : TE := fun σ H Q => ta σ H fun x H1 => ∃ c, x = .bl c ∧ Q (.bl (!c)) H1
theorem pe_one {op} {t : TE} (h : PE X a t) : PE X (.BoolOp op [a] pos) t := fun pins s σ H Q I hw => BoolOp_one (h pins s σ H Q I hw)
theorem pe_and (ha : PE X a ta) (hb : PE X (.BoolOp .And (b :: rest) pos) tb) : PE X (.BoolOp .And (a :: b :: rest) pos) (tAndV ta tb) := by
  intro pins s σ H Q I h
  refine BoolOp_and (thn (ha pins s σ H _ I h) fun v s1 ⟨x, H1, I1, r1, q1⟩ => ?_)
  obtain ⟨c, rfl, q1⟩ := q1
  cases r1
  refine wpAny_truthy_bool ?_
  cases c with
  | true => exact hb pins s1 σ H1 Q I1 q1
  | false => exact ⟨.bl false, H1, I1, rfl, q1⟩
theorem pe_or (ha : PE X a ta) (hb : PE X (.BoolOp .Or (b :: rest) pos) tb) : PE X (.BoolOp .Or (a :: b :: rest) pos) (tOrV ta tb) := by
  intro pins s σ H Q I h
  refine BoolOp_or (thn (ha pins s σ H _ I h) fun v s1 ⟨x, H1, I1, r1, q1⟩ => ?_)
  obtain ⟨c, rfl, q1⟩ := q1
  cases r1
  refine wpAny_truthy_bool ?_
  cases c with
  | false => exact hb pins s1 σ H1 Q I1 q1
  | true => exact ⟨.bl true, H1, I1, rfl, q1⟩
theorem pe_not (ha : PE X a ta) : PE X (.UnaryOp .Not a pos) (tNotV ta) := by
  intro pins s σ H Q I h
  refine UnaryOp_ (thn (ha pins s σ H _ I h) fun v s1 ⟨x, H1, I1, r1, q1⟩ => ?_)
  obtain ⟨c, rfl, q1⟩ := q1
  cases r1
  exact not_of (wpAny_truthy_bool ⟨.bl (!c), H1, I1, rfl, q1⟩)
/-- a if t else b -/
def tIf (t : TT) (ta tb : TE) : TE := fun σ H Q => t σ H fun c H1 => if c = true then ta σ H1 Q else tb σ H1 Q
theorem pe_ifExp {c : Expr} (hc : PT X c tA) (ha : PE X a ta) (hb : PE X b tb) : PE X (.IfExp c a b pos) (tIf tA ta tb) := by
  intro pins s σ H Q I h
  refine wpAny_IfExp (thn (hc pins s σ H _ I h) fun d s1 ⟨H1, I1, q1⟩ => ?_)
  cases d with
  | true => exact ha pins s1 σ H1 Q I1 q1
  | false => exact hb pins s1 σ H1 Q I1 q1
end
end L2

namespace L2
open PySem PySem.Spec PyProof.Rows

/-! ### a list, a tuple that is read: tracked, frozen, or an object of the module -/
def SqL (K : PySem.W.Frag) (H : Hp) (a : Addr) (xs : List V) : Prop :=
  Rd H a (.lst xs) ∨
    ∃ (o : Obj) (its : Array Value) (n : Nat), K.lookup a = some o ∧ o.cls = .type "list" ∧ o.dict = none ∧ o.data = .seq its n ∧ its.size ≤ sizeLine ∧ Vals xs its.toList
def SqT (K : PySem.W.Frag) (H : Hp) (a : Addr) (xs : List V) : Prop :=
  Rd H a (.tup xs) ∨
    ∃ (o : Obj) (its : Array Value) (n : Nat), K.lookup a = some o ∧ o.cls = .type "tuple" ∧ o.data = .seq its n ∧ its.size ≤ sizeLine ∧ Vals xs its.toList
def absV : Value → Option V
  | .none => some .non
  | .bool b => some (.bl b)
  | .int i _ => some (.int i)
  | .str x _ => some (.str x)
  | .bytes b _ => some (.byt b)
  | .float b _ => some (.flt b)
  | .ref a => some (.ref a)
  | .type n => some (.ty n)
  | _ => none
theorem RelV.abs {x : V} {u : Value} (r : RelV x u) : absV u = some x := by
  cases x with
  | non => cases r; rfl
  | bl _ => cases r; rfl
  | int _ => obtain ⟨t, rfl⟩ := r; rfl
  | str _ => obtain ⟨t, rfl⟩ := r; rfl
  | byt _ => obtain ⟨t, rfl⟩ := r; rfl
  | flt _ => obtain ⟨t, rfl⟩ := r; rfl
  | ref _ => cases r; rfl
  | ty _ => cases r; rfl
theorem RelV.inj {x y : V} {u : Value} (r : RelV x u) (q : RelV y u) : x = y := Option.some.inj (r.abs.symm.trans q.abs)
theorem Vals.inj : ∀ {xs ys : List V} {us : List Value}, Vals xs us → Vals ys us → xs = ys
  | _, _, _, .nil, .nil => rfl
  | _, _, _, .cons r t, .cons r' t' => by rw [r.inj r', Vals.inj t t']
section
variable {X : Cx} {pins : List (Addr × Obj)} {σ : St} {H : Hp} {s : Shared} {a : Addr} {xs ys : List V}
theorem SqL.of {K : PySem.W.Frag} (h : H a = some (.lst xs)) : SqL K H a xs := .inl (.inl h)
theorem SqT.of {K : PySem.W.Frag} (h : H a = some (.tup xs)) : SqT K H a xs := .inl (.inl h)
theorem Inv.list (I : Inv X pins σ H s) (h : SqL X.K H a xs) : ∃ its : List Value, Vals xs its ∧ PlainL s.heap a its.toArray ∧ xs.length ≤ sizeLine := by
  rcases h with h | ⟨o, its, n, hk, hc, hd, hs, hz, r⟩
  · obtain ⟨z, its, n, r, e⟩ := h.ok I.hok
    exact ⟨its, r, ⟨_, n, e, rfl, rfl, rfl⟩, z⟩
  · refine ⟨its.toList, r, ⟨o, n, I.kIn a o hk, hc, hd, by simpa using hs⟩, ?_⟩
    have e := r.length
    simp only [Array.length_toList] at e
    omega
theorem Inv.tuple (I : Inv X pins σ H s) (h : SqT X.K H a xs) : ∃ its : List Value, Vals xs its ∧ IsTup s.heap a its.toArray ∧ xs.length ≤ sizeLine := by
  rcases h with h | ⟨o, its, n, hk, hc, hs, hz, r⟩
  · obtain ⟨z, its, r, p⟩ := h.ok I.hok
    exact ⟨its, r, p, z⟩
  · refine ⟨its.toList, r, ⟨o, I.kIn a o hk, hc, n, by simpa using hs⟩, ?_⟩
    have e := r.length
    simp only [Array.length_toList] at e
    omega
theorem Inv.list_inj (I : Inv X pins σ H s) (h : SqL X.K H a xs) (h' : SqL X.K H a ys) : xs = ys := by
  obtain ⟨its, r, ⟨o, n, e, _, _, d⟩, _⟩ := I.list h
  obtain ⟨its', r', ⟨o', n', e', _, _, d'⟩, _⟩ := I.list h'
  rw [e] at e'; cases e'
  rw [d] at d'
  injection d' with d1 _
  have : its = its' := by simpa using congrArg Array.toList d1
  subst this
  exact r.inj r'
theorem Inv.tuple_inj (I : Inv X pins σ H s) (h : SqT X.K H a xs) (h' : SqT X.K H a ys) : xs = ys := by
  obtain ⟨its, r, ⟨o, e, _, n, d⟩, _⟩ := I.tuple h
  obtain ⟨its', r', ⟨o', e', _, n', d'⟩, _⟩ := I.tuple h'
  rw [e] at e'; cases e'
  rw [d] at d'
  injection d' with d1 _
  have : its = its' := by simpa using congrArg Array.toList d1
  subst this
  exact r.inj r'
end

/-! ### another wish about exceptions -/
abbrev Cx.wish (X : Cx) (E : Value → Shared → Prop) : Cx := { X with xe := E }
/-- no exception leaves -/
abbrev Cx.nox (X : Cx) : Cx := X.wish fun _ _ => False
theorem Cx.Ok.wish {X : Cx} (ok : X.Ok) (E : Value → Shared → Prop) : (X.wish E).Ok :=
  ⟨ok.mod, ok.kind, ok.glob, ok.blt, ok.above, ok.inj, ok.has, ok.cab, ok.hd, ok.frames, ok.stk, ok.exf, ok.bs, ok.bsz, ok.noex, ok.exfs, ok.funs, ok.frf⟩
theorem Cx.Ok.unwish {X : Cx} {E : Value → Shared → Prop} (ok : (X.wish E).Ok) : X.Ok :=
  ⟨ok.mod, ok.kind, ok.glob, ok.blt, ok.above, ok.inj, ok.has, ok.cab, ok.hd, ok.frames, ok.stk, ok.exf, ok.bs, ok.bsz, ok.noex, ok.exfs, ok.funs, ok.frf⟩
section
variable {X : Cx} {pins : List (Addr × Obj)} {σ : St} {H : Hp} {s : Shared} {E : Value → Shared → Prop}
theorem Inv.wish (I : Inv X pins σ H s) (E : Value → Shared → Prop) : Inv (X.wish E) pins σ H s := ⟨I.ok.wish E, I.os, I.bare, I.base, I.loc, I.cell, I.free, I.freeC, I.pin, I.hok, I.len⟩
theorem Inv.unwish (I : Inv (X.wish E) pins σ H s) : Inv X pins σ H s := ⟨I.ok.unwish, I.os, I.bare, I.base, I.loc, I.cell, I.free, I.freeC, I.pin, I.hok, I.len⟩
theorem SP.unwish {D : Ends} {f : Flow} {s' : Shared} (h : SP (X.wish E) pins D f s') : SP X pins D f s' := by
  cases f with
  | next => obtain ⟨σ', H', I, q⟩ := h; exact ⟨σ', H', I.unwish, q⟩
  | brk => obtain ⟨σ', H', I, q⟩ := h; exact ⟨σ', H', I.unwish, q⟩
  | cont => obtain ⟨σ', H', I, q⟩ := h; exact ⟨σ', H', I.unwish, q⟩
  | ret u => obtain ⟨v, σ', H', I, r, q⟩ := h; exact ⟨v, σ', H', I.unwish, r, q⟩
theorem PE.nox {e : Expr} {t : TE} (h : PE X.nox e t) : PE X e t := fun pins s σ H Q I hw =>
  wpAny_mono (h pins s σ H Q (I.wish _) hw) (fun _ _ ⟨v, H', I', r, q⟩ => ⟨v, H', I'.unwish, r, q⟩) fun _ _ z => False.elim z
theorem PT.nox {e : Expr} {t : TT} (h : PT X.nox e t) : PT X e t := fun pins s σ H Q I hw =>
  wpAny_mono (h pins s σ H Q (I.wish _) hw) (fun _ _ ⟨H', I', q⟩ => ⟨H', I'.unwish, q⟩) fun _ _ z => False.elim z
theorem PSs.nox {st : List Stmt} {t : TS} (h : PSs X.nox st t) : PSs X st t := fun pins s σ H D I hw =>
  wpAny_mono (h pins s σ H D (I.wish _) hw) (fun _ _ q => q.unwish) fun _ _ z => False.elim z
end

/-! ### blocks and small statements -/
section
variable {X : Cx} {st : Stmt} {rest : List Stmt} {t u : TS} {e : Expr} {te : TE} {pos : Pos}
def tNext : TS := fun D σ H => D.nx σ H
def tSeq (t u : TS) : TS := fun D σ H => t { D with nx := u D } σ H
theorem pss_nil : PSs X [] tNext := fun _ _ σ H _ I h => wpAny_execs_nil ⟨σ, H, I, h⟩
theorem pss_cons (h1 : PS X st t) (h2 : PSs X rest u) : PSs X (st :: rest) (tSeq t u) := by
  intro pins s σ H D I h
  refine wpAny_execs_cons (thn (h1 pins s σ H { D with nx := u D } I h) fun f s1 q => ?_)
  cases f with
  | next =>
    obtain ⟨σ', H', I', q⟩ := q
    exact h2 pins s1 σ' H' D I' q
  | ret v => exact q
  | brk => exact q
  | cont => exact q
theorem pss_one (h1 : PS X st t) : PSs X [st] t := by
  intro pins s σ H D I h
  refine wpAny_execs_cons (thn (h1 pins s σ H D I h) fun f s1 q => ?_)
  cases f with
  | next => exact wpAny_execs_nil q
  | ret v => exact q
  | brk => exact q
  | cont => exact q
def tBreak : TS := fun D σ H => D.bk σ H
def tCont : TS := fun D σ H => D.ct σ H
theorem ps_pass : PS X (.Pass pos) tNext := fun _ _ σ H _ I h => wpAny_Pass ⟨σ, H, I, h⟩
theorem ps_break : PS X (.Break pos) tBreak := fun _ _ σ H _ I h => wpAny_Break ⟨σ, H, I, h⟩
theorem ps_continue : PS X (.Continue pos) tCont := fun _ _ σ H _ I h => wpAny_Continue ⟨σ, H, I, h⟩
/-- in a def's body nothing is shown -/
theorem Inv.quiet {pins : List (Addr × Obj)} {σ : St} {H : Hp} {s : Shared} (I : Inv X pins σ H s) : interactive X.env = false := by simp [interactive, I.ok.kind]
/-- a docstring -/
theorem ps_doc {x j pos pos'} : PS X (.Expr (.Constant (.str x) j pos) pos') tNext := fun _ s σ H _ I h => wpAny_Expr (Calls.Constant_str (show SP X _ _ .next { s with toks := s.toks + 1 } from ⟨σ, H, I.tok _, h⟩)) I.quiet
/-- an expression whose value is dropped -/
def tDrop (te : TE) : TS := fun D σ H => te σ H fun _ H1 => D.nx σ H1
theorem ps_expr (he : PE X e te) (hs : swapsWith e none pos.line X.env = pure false := by rfl) : PS X (.Expr e pos) (tDrop te) := by
  intro pins s σ H D I h
  exact wpAny_Expr_any (thn (he pins s σ H _ I h) fun v s1 ⟨x, H1, I1, r1, q1⟩ => ⟨σ, H1, I1, q1⟩) I.quiet hs
def tRet (te : TE) : TS := fun D σ H => te σ H D.rt
theorem ps_ret (he : PE X e te) : PS X (.Return (some e) pos) (tRet te) := by
  intro pins s σ H D I h
  exact wpAny_Return_some (thn (he pins s σ H _ I h) fun v s1 ⟨x, H1, I1, r1, q1⟩ => ⟨x, σ, H1, I1, r1, q1⟩)
def tRetN : TS := fun D _ H => D.rt .non H
theorem ps_retN : PS X (.Return none pos) tRetN := fun _ _ σ H _ I h => wpAny_Return_none ⟨.non, σ, H, I, rfl, h⟩
def tIfS (c : TT) (t u : TS) : TS := fun D σ H => c σ H fun b H1 => if b = true then t D σ H1 else u D σ H1
theorem ps_if {c : Expr} {a b : List Stmt} {tc : TT} (hc : PT X c tc) (ha : PSs X a t) (hb : PSs X b u) : PS X (.If c a b pos) (tIfS tc t u) := by
  intro pins s σ H D I h
  refine wpAny_If (thn (hc pins s σ H _ I h) fun d s1 ⟨H1, I1, q1⟩ => ?_)
  cases d with
  | true => exact ha pins s1 σ H1 D I1 q1
  | false => exact hb pins s1 σ H1 D I1 q1
/-- code that the proof never comes to -/
def tNever : TS := fun _ _ _ => False
theorem ps_never : PS X st tNever := fun _ _ _ _ _ _ h => h.elim
theorem pss_never {sts : List Stmt} : PSs X sts tNever := fun _ _ _ _ _ _ h => h.elim
end

/-! ### targets -/
abbrev TG := V → St → Hp → (St → Hp → Prop) → Prop
abbrev TGs := List V → St → Hp → (St → Hp → Prop) → Prop
def PG (X : Cx) (target : Expr) (t : TG) : Prop :=
  ∀ (pins : List (Addr × Obj)) (s : Shared) (σ : St) (H : Hp) (v : V) (u : Value) (Q : St → Hp → Prop), Inv X pins σ H s → RelV v u → t v σ H Q →
    wpAny (model X.prog X.w) X.A (assign target X.env u) (fun _ s' => ∃ σ' H', Inv X pins σ' H' s' ∧ Q σ' H') X.xe s
/-- several targets, one after another -/
def PGs (X : Cx) (ts : List Expr) (t : TGs) : Prop :=
  ∀ (pins : List (Addr × Obj)) (s : Shared) (σ : St) (H : Hp) (vs : List V) (us : List Value) (Q : St → Hp → Prop), Inv X pins σ H s → Vals vs us → t vs σ H Q →
    wpAny (model X.prog X.w) X.A (assignInOrder ((assignEach ts X.env).map (·.2)) us) (fun _ s' => ∃ σ' H', Inv X pins σ' H' s' ∧ Q σ' H') X.xe s
/-- o[i] = v, by values -/
abbrev TSet := V → V → V → Hp → (Hp → Prop) → Prop
def PSet (X : Cx) (t : TSet) : Prop :=
  ∀ (pins : List (Addr × Obj)) (s : Shared) (σ : St) (H : Hp) (o i v : V) (ov iv u : Value) (Q : Hp → Prop), Inv X pins σ H s → RelV o ov → RelV i iv → RelV v u → t o i v H Q →
    wpAny (model X.prog X.w) X.A (setItem ov iv u) (fun _ s' => ∃ H', Inv X pins σ H' s' ∧ Q H') X.xe s
/-- a op= b, by values -/
abbrev TIp := V → V → Hp → VK → Prop
def PIp (X : Cx) (op : Operator) (t : TIp) : Prop :=
  ∀ (pins : List (Addr × Obj)) (s : Shared) (σ : St) (H : Hp) (x y : V) (v u : Value) (Q : VK), Inv X pins σ H s → RelV x v → RelV y u → t x y H Q →
    wpAny (model X.prog X.w) X.A (inplaceOp op v u) (EP X pins σ Q) X.xe s
section
variable {X : Cx} {pos : Pos}
def gName (i : Nat) : TG := fun v σ H Q => Q (σ.set i (some v)) H
theorem pg_name {i : Nat} {x : Str} (hN : X.N.Nodup) (hi : X.N[i]? = some x) (hx : Loc X.env.scope x) (hf : X.fn x = true ∨ X.env.scope.names.lookup x = some .local := by first | exact .inl rfl | exact .inr rfl | assumption) : PG X (.Name x pos) (gName i) := by
  intro pins s σ H v u Q I r h
  exact wpAny_assign_Name (store_ok I hN hi hx r (fun s' I' => ⟨_, H, I', h⟩) hf)
def gNil : TGs := fun vs σ H Q => vs = [] ∧ Q σ H
def gCons (t : TG) (u : TGs) : TGs := fun vs σ H Q => ∃ v r, vs = v :: r ∧ t v σ H fun σ' H' => u r σ' H' Q
theorem pgs_nil : PGs X [] gNil := by
  intro pins s σ H vs us Q I r h
  obtain ⟨e, h⟩ := h
  subst e
  cases r
  exact assignInOrder_nil ⟨σ, H, I, h⟩
theorem pgs_cons {e : Expr} {es : List Expr} {t : TG} {u : TGs} (h1 : PG X e t) (h2 : PGs X es u)
    (hs : (assignEach (e :: es) X.env).map (·.2) = assign e X.env :: (assignEach es X.env).map (·.2) := by rfl) : PGs X (e :: es) (gCons t u) := by
  intro pins s σ H vs us Q I r h
  obtain ⟨v, vr, e1, h⟩ := h
  subst e1
  cases r with
  | cons r rr =>
    rw [hs]
    refine assignInOrder_cons (thn (h1 pins s σ H _ _ _ I r h) fun _ s1 ⟨σ1, H1, I1, q1⟩ => ?_)
    exact h2 pins s1 σ1 H1 _ _ Q I1 rr q1
/-- (a, b, ..) = a tuple of that length -/
def gTup (K : PySem.W.Frag) (n : Nat) (t : TGs) : TG := fun v σ H Q => ∃ a xs, v = .ref a ∧ SqT K H a xs ∧ xs.length = n ∧ t xs σ H Q
theorem pg_tup {es : List Expr} {k : Nat} {t : TGs} {n : Nat} (hc : X.calm = true) (h : PGs X es t)
    (hn : (assignEach es X.env).length = n := by rfl) (hst : (assignEach es X.env).findIdx? (·.1) = none := by rfl) : PG X (.Tuple es k pos) (gTup X.K n t) := by
  intro pins s σ H v u Q I r hw
  obtain ⟨a, xs, e1, hq, hl, hw⟩ := hw
  subst e1
  cases r
  obtain ⟨its, rv, ht, hz⟩ := I.tuple hq
  refine assign_Tuple_tuple (I.ok.hd hc) ht (by simp [hn, ← hl, rv.length]) hst fun h' hx => ?_
  have I1 : Inv X pins σ H { s with heap := h' } := I.kept (t' := s.toks) fun b o e => hx b o (Nat.ne_of_lt (Heap.lt_size e)) e
  exact h pins _ σ H xs _ Q I1 (by simpa using rv) hw
/-- o[i] = .. -/
def gSub (to ti : TE) (t : TSet) : TG := fun v σ H Q => to σ H fun o H1 => ti σ H1 fun i H2 => t o i v H2 fun H3 => Q σ H3
theorem pg_sub {o i : Expr} {to ti : TE} {t : TSet} (ho : PE X o to) (hi : PE X i ti) (hs : PSet X t)
    (ha : ∀ v, assign (.Subscript o i pos) X.env v = (do
      let ov ← holding [v] (eval o X.env)
      let iv ← holding [v, ov] (eval i X.env)
      standAt pos
      holding [v, ov, iv] (setItem ov iv v)
      release [v, ov, iv] []) := by intro _; rfl) : PG X (.Subscript o i pos) (gSub to ti t) := by
  intro pins s σ H v u Q I r h
  rw [ha]
  refine wpAny_bind (wpAny_holding (thn (ho pins s σ H _ I h) fun ov s1 ⟨x, H1, I1, r1, q1⟩ => ?_))
  refine wpAny_bind (wpAny_holding (thn (hi pins s1 σ H1 _ I1 q1) fun iv s2 ⟨y, H2, I2, r2, q2⟩ => ?_))
  refine wpAny_bind (wpAny_standAt (wpAny_bind (wpAny_holding (thn (hs pins s2 σ H2 x y v ov iv u _ I2 r1 r2 r q2) fun _ s3 ⟨H3, I3, q3⟩ => ?_))))
  exact wpAny_release ⟨σ, H3, I3, q3⟩
/-- target = value -/
def tAsg (te : TE) (g : TG) : TS := fun D σ H => te σ H fun x H1 => g x σ H1 D.nx
theorem ps_asg {tg e : Expr} {te : TE} {g : TG} (he : PE X e te) (hg : PG X tg g) (hs : swapsWithSole [tg] e pos.line X.env = pure false := by rfl) (hw : swappedStores [tg] e X.env = pure none := by rfl)
    (h1 : (assignEach [tg] X.env).map (·.2) = [assign tg X.env] := by rfl) : PS X (.Assign [tg] e pos) (tAsg te g) := by
  intro pins s σ H D I h
  refine wpAny_Assign_stores (thn (he pins s σ H _ I h) fun v s1 ⟨x, H1, I1, r1, q1⟩ => ?_) hs hw
  rw [h1]
  exact thn (hg pins s1 σ H1 x v _ I1 r1 q1) fun _ s2 q => q
/-- name = value -/
theorem ps_set {i : Nat} {x : Str} {e : Expr} {te : TE} {pos' : Pos} (hN : X.N.Nodup) (hi : X.N[i]? = some x) (hx : Loc X.env.scope x) (he : PE X e te) (hs : swapsWith e (some (.Name x pos')) pos.line X.env = pure false := by rfl) (hf : X.fn x = true ∨ X.env.scope.names.lookup x = some .local := by first | exact .inl rfl | exact .inr rfl | assumption) :
    PS X (.Assign [.Name x pos'] e pos) (tAsg te (gName i)) := by
  intro pins s σ H D I h
  refine wpAny_Assign_Name (thn (he pins s σ H _ I h) fun v s1 ⟨y, H1, I1, r1, q1⟩ => ?_) hs
  exact store_ok I1 hN hi hx r1 (fun s2 I2 => ⟨_, H1, I2, q1⟩) hf
/-- a, b = x, y with plain local names: stored from the right; the pair itself is not tracked (the opening rows as in PyProof/Rows/TupAssign.lean:23) -/
def tPar (i j : Nat) (ta : TA) : TS := fun D σ H => ta σ H fun vs H1 => ∃ v w, vs = [v, w] ∧ D.nx ((σ.set i (some v)).set j (some w)) H1
theorem ps_par {i j : Nat} {x y : Str} {a b : Expr} {ta : TA} {px py pt : Pos} {kt k2 pt2} (hc : X.calm = true) (hN : X.N.Nodup) (hi : X.N[i]? = some x) (hj : X.N[j]? = some y) (hij : i ≠ j)
    (hx : X.env.scope.names.lookup x = some .local) (hy : X.env.scope.names.lookup y = some .local) (ha : PA X [a, b] ta)
    (hw : swappedStores [.Tuple [.Name x px, .Name y py] kt pt] (.Tuple [a, b] k2 pt2) X.env = pure (some [x, y]))
    (hs : swapsWithSole [.Tuple [.Name x px, .Name y py] kt pt] (.Tuple [a, b] k2 pt2) pos.line X.env = pure false := by rfl) :
    PS X (.Assign [.Tuple [.Name x px, .Name y py] kt pt] (.Tuple [a, b] k2 pt2) pos) (tPar i j ta) := by
  intro pins s σ H D I h
  rw [exec_Assign_arm]
  refine wpAny_bind (wpAny_standAt ?_)
  rw [hs]
  refine wpAny_bind (wpAny_pure ?_)
  rw [if_neg (by decide)]
  refine wpAny_bind (Tuple_ (thn (ha _ pins s σ H _ I h) fun us s1 ⟨vs, H1, I1, r1, q1⟩ => ?_))
  obtain ⟨v, w, e1, q1⟩ := q1
  subst e1
  obtain ⟨u1, u2, rfl, rv, rw'⟩ : ∃ u1 u2, us = [u1, u2] ∧ RelV v u1 ∧ RelV w u2 := by
    cases r1 with
    | cons p q =>
      cases q with
      | cons p' q' =>
        cases q'
        exact ⟨_, _, rfl, p, p'⟩
  refine wpAny_newObj_type ?_ (by show 2 ≤ sizeLine; decide)
  have I2 : Inv X pins σ H1 { s1 with heap := s1.heap.push { cls := .type "tuple", data := .seq [u1, u2].toArray } } := I1.kept (t' := s1.toks) fun b o e => Heap.get?_push_of_some _ e
  rw [hw]
  refine wpAny_bind (wpAny_pure ?_)
  show wpAny (model X.prog X.w) X.A (do rule "assign.swapped-stores"; let items ← unpackItems (.ref s1.heap.objs.size) 2 none; assignInOrder [fun v => bindName X.env y v, fun v => bindName X.env x v] items.reverse; pure Flow.next) _ _ _
  refine wpAny_bind (wpAny_rule (wpAny_bind (unpackItems_tuple (items := #[u1, u2]) (I.ok.hd hc) (IsTup.new s1.heap _) fun h' hx' => ?_)))
  have I3 := I2.kept (h' := h') (t' := s1.toks) fun b o e => hx' b o (Nat.ne_of_lt (Heap.lt_size e)) e
  show wpAny _ _ (assignInOrder [fun v => bindName X.env y v, fun v => bindName X.env x v] [u2, u1] >>= fun _ => pure Flow.next) _ _ _
  refine wpAny_bind (assignInOrder_cons (wpAny_bindName (store_ok I3 hN hj (.inl hy) rw' (fun s2 I4 => ?_) (.inr hy))))
  refine assignInOrder_cons (wpAny_bindName (store_ok I4 hN hi (.inl hx) rv (fun s3 I5 => assignInOrder_nil (wpAny_pure ?_)) (.inr hx)))
  rw [List.set_comm _ _ (Ne.symm hij)] at I5
  exact ⟨_, H1, I5, q1⟩
/-- name op= e -/
def tAug (i : Nat) (te : TE) (ti : TIp) : TS := fun D σ H => ∃ x, σ[i]? = some (some x) ∧ te σ H fun y H1 => ti x y H1 fun z H2 => D.nx (σ.set i (some z)) H2
theorem ps_aug {i : Nat} {x : Str} {e : Expr} {te : TE} {op : Operator} {ti : TIp} {pos' : Pos} (hN : X.N.Nodup) (hi : X.N[i]? = some x) (hx : Loc X.env.scope x) (he : PE X e te) (ho : PIp X op ti) (hf : X.fn x = true ∨ X.env.scope.names.lookup x = some .local := by first | exact .inl rfl | exact .inr rfl | assumption) :
    PS X (.AugAssign (.Name x pos') op e pos) (tAug i te ti) := by
  intro pins s σ H D I h
  obtain ⟨v, e1, h⟩ := h
  obtain ⟨m, hn, hl⟩ := I.loc
  have vis : Vis X.env.scope x := by rcases hx with k | k; exact .inl k; exact .inr (.inl k)
  obtain ⟨u, r, l⟩ := hl i x v hi e1 vis
  refine wpAny_AugAssign_Name ?_
  have go : wpAny (model X.prog X.w) X.A (eval e X.env) (fun w s₂ => wpAny (model X.prog X.w) X.A (inplaceOp op u w) (fun r s₃ => wpAny (model X.prog X.w) X.A (storeName X.env x r) (fun _ => SP X pins D .next) X.xe s₃) X.xe s₂) X.xe s := by
    refine thn (he pins s σ H _ I h) fun w s1 ⟨y, H1, I1, r1, q1⟩ => ?_
    refine thn (ho pins s1 σ H1 v y u w _ I1 r r1 q1) fun z s2 ⟨zv, H2, I2, r2, q2⟩ => ?_
    exact store_ok I2 hN hi hx r2 (fun s3 I3 => ⟨_, H2, I3, q2⟩) hf
  rcases l with ⟨hk, hm⟩ | ⟨hk, c, hc, hcell⟩
  · exact wpAny_loadName_local I.ok.kind hk hn hm go
  · rcases hk with hk | hk
    · exact wpAny_loadName_cell I.ok.kind hk hc hcell go
    · rcases hx with k | k
      · have : X.env.scope.names.lookup x = some .free := hk
        rw [k] at this; cases this
      · have : X.env.scope.names.lookup x = some .free := hk
        rw [k] at this; cases this
/-- o[i] op= e -/
def tAugS (to ti te : TE) (tget : V → V → Hp → VK → Prop) (tip : TIp) (tset : TSet) : TS := fun D σ H => to σ H fun o H1 => ti σ H1 fun i H2 => tget o i H2 fun x H3 => te σ H3 fun y H4 => tip x y H4 fun z H5 => tset o i z H5 fun H6 => D.nx σ H6
/-- o[i], by values -/
def PGet (X : Cx) (t : V → V → Hp → VK → Prop) : Prop :=
  ∀ (pins : List (Addr × Obj)) (s : Shared) (σ : St) (H : Hp) (o i : V) (ov iv : Value) (Q : VK), Inv X pins σ H s → RelV o ov → RelV i iv → t o i H Q →
    wpAny (model X.prog X.w) X.A (getItem ov iv) (EP X pins σ Q) X.xe s
theorem ps_augS {o i e : Expr} {to ti te : TE} {tget : V → V → Hp → VK → Prop} {tip : TIp} {tset : TSet} {op : Operator} {tpos : Pos} (ho : PE X o to) (hi : PE X i ti) (hg : PGet X tget) (he : PE X e te) (hp : PIp X op tip) (hs : PSet X tset)
    (ha : ∀ ov iv new, augStore i ov iv new = (do holding [new, ov, iv] (setItem ov iv new); release [new, ov, iv] []; pure .next) := by intros; rfl) : PS X (.AugAssign (.Subscript o i tpos) op e pos) (tAugS to ti te tget tip tset) := by
  intro pins s σ H D I h
  refine wpAny_AugAssign_SubscriptAny (thn (ho pins s σ H _ I h) fun ov s1 ⟨x1, H1, I1, r1, q1⟩ => ?_) ha
  refine thn (hi pins s1 σ H1 _ I1 q1) fun iv s2 ⟨x2, H2, I2, r2, q2⟩ => ?_
  refine thn (hg pins s2 σ H2 x1 x2 ov iv _ I2 r1 r2 q2) fun old s3 ⟨x3, H3, I3, r3, q3⟩ => ?_
  refine thn (he pins s3 σ H3 _ I3 q3) fun v s4 ⟨x4, H4, I4, r4, q4⟩ => ?_
  refine thn (hp pins s4 σ H4 x3 x4 old v _ I4 r3 r4 q4) fun new s5 ⟨x5, H5, I5, r5, q5⟩ => ?_
  exact thn (hs pins s5 σ H5 x1 x2 x5 ov iv new _ I5 r1 r2 r5 q5) fun _ s6 ⟨H6, I6, q6⟩ => ⟨σ, H6, I6, q6⟩
/-- ints -/
def ipI (f : Int → Int → Int) : TIp := fun x y H Q => ∃ i j, x = .int i ∧ y = .int j ∧ Q (.int (f i j)) H
theorem ip_add : PIp X .Add (ipI fun i j => i + j) := by
  intro pins s σ H x y v u Q I r1 r2 h
  obtain ⟨i, j, e1, e2, q⟩ := h
  subst e1; subst e2
  obtain ⟨t, rfl⟩ := r1
  obtain ⟨t', rfl⟩ := r2
  exact iadd_int ⟨.int _, H, I.tok _, ⟨_, rfl⟩, q⟩
theorem ip_sub : PIp X .Sub (ipI fun i j => i - j) := by
  intro pins s σ H x y v u Q I r1 r2 h
  obtain ⟨i, j, e1, e2, q⟩ := h
  subst e1; subst e2
  obtain ⟨t, rfl⟩ := r1
  obtain ⟨t', rfl⟩ := r2
  exact isub_int ⟨.int _, H, I.tok _, ⟨_, rfl⟩, q⟩
end

/-! ### while -/
section
variable {X : Cx} {pos : Pos}
/-- the invariant W with its measure -/
def tWhile (c : TT) (tb : TS) : TS := fun D σ H => ∃ W : Nat → St → Hp → Prop, (∃ m, W m σ H) ∧ ∀ m σ H, W m σ H →
  c σ H fun b H1 => if b = true then ∃ N : St → Hp → Prop, (∀ σ' H', N σ' H' → ∃ m', m' < m ∧ W m' σ' H') ∧ tb { D with nx := N, ct := N, bk := D.nx } σ H1 else D.nx σ H1
theorem ps_while {c : Expr} {body : List Stmt} {tc : TT} {tb : TS} (hp : PassesOwn (model X.prog X.w) X.A X.env X.xe) (hc : PT X c tc) (hb : PSs X body tb) : PS X (.While c body [] pos) (tWhile tc tb) := by
  intro pins s σ H D I h
  obtain ⟨W, ⟨m0, w0⟩, turn⟩ := h
  refine wpAny_While (codeAny_whileLoop (fun n s' => ∃ σ' H', Inv X pins σ' H' s' ∧ W n σ' H') ?_ m0 ⟨σ, H, I, w0⟩)
  rintro n s1 ⟨σ1, H1, I1, w1⟩
  refine wpAny_passesOwn hp (thn (hc pins s1 σ1 H1 _ I1 (turn n σ1 H1 w1)) fun b s2 ⟨H2, I2, q2⟩ => ?_)
  cases b with
  | true =>
    obtain ⟨N, hN, q2⟩ := q2
    rw [if_pos rfl]
    refine wpAny_passesOwn hp (thn (hb pins s2 σ1 H2 _ I2 q2) fun f s3 q3 => ?_)
    cases f with
    | next =>
      obtain ⟨σ3, H3, I3, n3⟩ := q3
      obtain ⟨m', hm, w3⟩ := hN σ3 H3 n3
      exact ⟨m', hm, σ3, H3, I3, w3⟩
    | cont =>
      obtain ⟨σ3, H3, I3, n3⟩ := q3
      obtain ⟨m', hm, w3⟩ := hN σ3 H3 n3
      exact ⟨m', hm, σ3, H3, I3, w3⟩
    | brk => exact q3
    | ret v => exact q3
  | false =>
    rw [if_neg Bool.false_ne_true]
    exact wpAny_execs_nil ⟨σ1, H2, I2, q2⟩
end

/-! ### what a loop or a comprehension walks -/
/-- at turn i: it yields x (the heap may grow), or it stops -/
structure It where
  go : Nat → Hp → Prop
  yld : Nat → Hp → V → Hp → Prop
  stop : Nat → Hp → Prop
/-- the iterator's own objects may turn: they are not the frame's, not pinned, younger than the entry (or a comprehension's own) -/
def FpOk (X : Cx) (pins : List (Addr × Obj)) (H : Hp) (b : Addr) : Prop :=
  H b = none ∧ b ≠ X.env.locals ∧ b ∉ X.fs ∧ (b ∈ X.ex ∨ X.s₀.heap.objs.size ≤ b) ∧ (∀ x c, X.env.cells.lookup x = some c → c ≠ b) ∧ ∀ p ∈ X.pn ++ pins, p.1 ≠ b
theorem Inv.fpOk {X : Cx} {pins : List (Addr × Obj)} {σ : St} {H H' : Hp} {s : Shared} {b : Addr} (I : Inv X pins σ H s) (hb : s.heap.objs.size ≤ b) (hn : H' b = none) : FpOk X pins H' b := by
  refine ⟨hn, Nat.ne_of_gt (Nat.lt_of_lt_of_le I.lt hb), I.nofs hb, .inr (Nat.le_trans I.sz hb), fun x c e z => ?_, fun p hp z => ?_⟩
  · obtain ⟨v, q⟩ := I.cell x c e
    exact absurd (Nat.lt_of_lt_of_le q.lt (by rw [z]; exact hb)) (Nat.lt_irrefl _)
  · exact absurd (Nat.lt_of_lt_of_le (Heap.lt_size (I.pin p hp).1) (by rw [z]; exact hb)) (Nat.lt_irrefl _)
structure Turn (P : Program) (w : World) (K : PySem.W.Frag) (tg : Expr) (J : It) (fp : List Addr) (it : Addr) (tn : Nat → Heap → Prop) : Prop where
  mem : it ∈ fp
  obj : ∀ i h, tn i h → ∀ b ∈ fp, ∃ o, h.get? b = some o ∧ ∀ v, o.data ≠ .cell v
  keep : ∀ i h h', tn i h → (∀ b ∈ fp, ∀ o, h.get? b = some o → h'.get? b = some o) → tn i h'
  item : ∀ (X : Cx), X.prog = P → X.w = w → X.K = K → X.calm = true → ∀ (i : Nat) (pins : List (Addr × Obj)) (s : Shared) (σ : St) (H : Hp) (E : Value → Shared → Prop), Inv X pins σ H s → (∀ b ∈ fp, FpOk X pins H b) → tn i s.heap → J.go i H →
    wpAny (model P w) X.A (pyNext (.ref it)) (fun r s1 => ∃ u, r = some u ∧
      wpAny (model P w) X.A (letOwnedTupleGo tg (.ref it) u) (fun _ s2 => ∃ x H', Inv X pins σ H' s2 ∧ RelV x u ∧ J.yld i H x H' ∧ tn (i + 1) s2.heap ∧ ∀ b ∈ fp, H' b = none) E s1) E s
  done : ∀ (X : Cx), X.prog = P → X.w = w → X.K = K → X.calm = true → ∀ (i : Nat) (pins : List (Addr × Obj)) (s : Shared) (σ : St) (H : Hp) (E : Value → Shared → Prop), Inv X pins σ H s → (∀ b ∈ fp, FpOk X pins H b) → tn i s.heap → J.stop i H →
    wpAny (model P w) X.A (pyNext (.ref it)) (fun r s1 => r = none ∧ Inv X pins σ H s1) E s
  self : ∀ (A : Around) (i : Nat) (s : Shared) (Q : Value → Shared → Prop) (E : Value → Shared → Prop), tn i s.heap → Q (.ref it) s → wpAny (model P w) A (pyIter (.ref it)) Q E s
abbrev TI := St → Hp → (It → Hp → Prop) → Prop
/-- an iterator has come -/
def PIE (X : Cx) (pins : List (Addr × Obj)) (σ : St) (tg : Expr) (R : It → Hp → Prop) (itv : Value) (s2 : Shared) : Prop :=
  ∃ (it : Addr) (fp : List Addr) (tn : Nat → Heap → Prop) (J : It) (H' : Hp), itv = .ref it ∧ Inv X pins σ H' s2 ∧ Turn X.prog X.w X.K tg J fp it tn ∧ tn 0 s2.heap ∧ (∀ b ∈ fp, FpOk X pins H' b) ∧ R J H'
def PI (X : Cx) (tg iter : Expr) (wi : TI) : Prop :=
  ∀ (pins : List (Addr × Obj)) (s : Shared) (σ : St) (H : Hp) (R : It → Hp → Prop), Inv X pins σ H s → wi σ H R →
    wpAny (model X.prog X.w) X.A (eval iter X.env) (fun v s1 => wpAny (model X.prog X.w) X.A (pyIter v) (PIE X pins σ tg R) X.xe s1) X.xe s

/-- the step ahead of the store is nothing for an iterator that keeps no tuple -/
theorem go_of {M : Model} {A : Around} {E : Value → Shared → Prop} {s : Shared} {tg : Expr} {it : Addr} {u : Value} {o : Obj} {n : String} {vs : Array Value} {Q : Unit → Shared → Prop} (ho : s.heap.get? it = some o) (hc : o.cls = .type n) (hd : o.data = .fields vs)
    (hn : ["enumerate", "zip", "dict_itemiterator", "dict_reverseitemiterator", "odict_iterator", "itertools.zip_longest", "itertools.pairwise"].contains n = false) (hQ : Q () s) : wpAny M A (letOwnedTupleGo tg (.ref it) u) Q E s := by
  unfold letOwnedTupleGo
  cases tg <;> first
    | exact wpAny_pure hQ
    | (cases u <;> first
        | exact wpAny_pure hQ
        | (refine wpAny_bind (wpAny_load ho ?_)
           rw [hc, hd]
           show wpAny M A (if (["enumerate", "zip", "dict_itemiterator", "dict_reverseitemiterator", "odict_iterator", "itertools.zip_longest", "itertools.pairwise"].contains n && vs[0]? == some (rawInt _)) = true then _ else _) Q E s
           rw [if_neg (by intro h; rw [hn, Bool.false_and] at h; cases h)]
           exact wpAny_pure hQ))

/-- the list at a, as it stands at each turn (a loop may append to it) -/
def Itl (K : PySem.W.Frag) (a : Addr) : It :=
  ⟨fun i H => ∃ xs x, SqL K H a xs ∧ xs[i]? = some x, fun i H x H' => H' = H ∧ ∀ xs, SqL K H a xs → xs[i]? = some x, fun i H => ∃ xs, SqL K H a xs ∧ xs.length ≤ i⟩
def Itt (K : PySem.W.Frag) (a : Addr) : It :=
  ⟨fun i H => ∃ xs x, SqT K H a xs ∧ xs[i]? = some x, fun i H x H' => H' = H ∧ ∀ xs, SqT K H a xs → xs[i]? = some x, fun i H => ∃ xs, SqT K H a xs ∧ xs.length ≤ i⟩
/-- lo, lo + 1, .. (n of them) -/
def Itr (lo : Int) (n : Nat) : It := ⟨fun i _ => i < n, fun i H x H' => H' = H ∧ x = .int (lo + i), fun i _ => n ≤ i⟩
theorem turn_list {P : Program} {w : World} {K : PySem.W.Frag} {tg : Expr} (a it : Addr) : Turn P w K tg (Itl K a) [it] it (fun i h => h.IsListIter it a i) where
  mem := by simp
  obj := fun i h st b hb => by
    have e : b = it := by simpa using hb
    subst e
    obtain ⟨o, e, c, d⟩ := st
    exact ⟨o, e, fun v z => by rw [d] at z; cases z⟩
  keep := fun i h h' st k => st.at fun o e => k it (by simp) o e
  item := by
    intro X hP hw hK hc i pins s σ H E I hf st hg
    subst hP hw hK
    obtain ⟨xs, x, hq, hx⟩ := hg
    obtain ⟨its, rv, p, hz⟩ := I.list hq
    obtain ⟨u, hu, ru⟩ := rv.get hx
    obtain ⟨f0, f1, f2, f3, f4, f5⟩ := hf it (by simp)
    refine wpAny_pyNext_list_item st p.isList (x := u) (by simpa using hu) fun h' st' sb => ?_
    have I1 : Inv X pins σ H { s with heap := h' } := I.turned (t' := s.toks) (fun b o hb e => (sb.2 b hb).trans e) f0 f1 f3 f4 f5
    obtain ⟨o, e, c, d⟩ := id st'
    exact ⟨u, rfl, go_of (s := { s with heap := h' }) e c d (by decide) ⟨x, H, I1, ru, ⟨rfl, fun ys hy => by rw [I.list_inj hy hq]; exact hx⟩, st', fun b hb => (hf b hb).1⟩⟩
  done := by
    intro X hP hw hK hc i pins s σ H E I hf st hg
    subst hP hw hK
    obtain ⟨xs, hq, hx⟩ := hg
    obtain ⟨its, rv, p, hz⟩ := I.list hq
    obtain ⟨f0, f1, f2, f3, f4, f5⟩ := hf it (by simp)
    have hl := rv.length
    exact wpAny_pyNext_list_end (I.ok.hd hc) st p.isList (by simp; omega) fun h' eb => ⟨rfl, I.turned (t' := s.toks) (fun b o hb e => eb b o hb e) f0 f1 f3 f4 f5⟩
  self := fun _ _ _ _ _ st h => wpAny_pyIter_listiter st h
theorem turn_tuple {P : Program} {w : World} {K : PySem.W.Frag} {tg : Expr} (a it : Addr) : Turn P w K tg (Itt K a) [it] it (fun i h => h.IsTupleIter it a i) where
  mem := by simp
  obj := fun i h st b hb => by
    have e : b = it := by simpa using hb
    subst e
    obtain ⟨o, e, c, d⟩ := st
    exact ⟨o, e, fun v z => by rw [d] at z; cases z⟩
  keep := fun i h h' st k => st.at fun o e => k it (by simp) o e
  item := by
    intro X hP hw hK hc i pins s σ H E I hf st hg
    subst hP hw hK
    obtain ⟨xs, x, hq, hx⟩ := hg
    obtain ⟨its, rv, p, hz⟩ := I.tuple hq
    obtain ⟨u, hu, ru⟩ := rv.get hx
    obtain ⟨f0, f1, f2, f3, f4, f5⟩ := hf it (by simp)
    refine wpAny_pyNext_tuple_item st (show s.heap.IsTuple a its.toArray from p) (x := u) (by simpa using hu) fun h' st' sb => ?_
    have I1 : Inv X pins σ H { s with heap := h' } := I.turned (t' := s.toks) (fun b o hb e => (sb.2 b hb).trans e) f0 f1 f3 f4 f5
    obtain ⟨o, e, c, d⟩ := id st'
    exact ⟨u, rfl, go_of (s := { s with heap := h' }) e c d (by decide) ⟨x, H, I1, ru, ⟨rfl, fun ys hy => by rw [I.tuple_inj hy hq]; exact hx⟩, st', fun b hb => (hf b hb).1⟩⟩
  done := by
    intro X hP hw hK hc i pins s σ H E I hf st hg
    subst hP hw hK
    obtain ⟨xs, hq, hx⟩ := hg
    obtain ⟨its, rv, p, hz⟩ := I.tuple hq
    obtain ⟨f0, f1, f2, f3, f4, f5⟩ := hf it (by simp)
    have hl := rv.length
    exact wpAny_pyNext_tuple_end (I.ok.hd hc) st (show s.heap.IsTuple a its.toArray from p) (by simp; omega) fun h' eb => ⟨rfl, I.turned (t' := s.toks) (fun b o hb e => eb b o hb e) f0 f1 f3 f4 f5⟩
  self := fun _ _ _ _ _ st h => wpAny_pyIter_tupleiter st h
theorem turn_range {P : Program} {w : World} {K : PySem.W.Frag} {tg : Expr} (it : Addr) (lo : Int) (n : Nat) : Turn P w K tg (Itr lo n) [it] it (fun i h => IsRangeIter h it (lo + (i : Nat) * 1) ((n : Int) - (i : Nat)) 1) where
  mem := by simp
  obj := fun i h st b hb => by
    have e : b = it := by simpa using hb
    subst e
    exact ⟨_, st, fun v z => by
      have z' : Data.fields _ = Data.cell v := z
      cases z'⟩
  keep := fun i h h' st k => k it (by simp) _ st
  item := by
    intro X hP hw hK hc i pins s σ H E I hf st hg
    subst hP hw hK
    obtain ⟨f0, f1, f2, f3, f4, f5⟩ := hf it (by simp)
    have W := Walks.range (prog := X.prog) (w := X.w) (I.ok.hd hc) it lo 1 n
    refine W.item i s _ _ hg st fun v h' tk hv st' kk => ?_
    obtain ⟨t, rfl⟩ := hv
    have I1 : Inv X pins σ H { s with heap := h', toks := tk } := I.turned (fun b o hb e => kk b o (by simpa using hb) e) f0 f1 f3 f4 f5
    refine ⟨_, rfl, go_of (s := { s with heap := h', toks := tk }) (n := "range_iterator") st' rfl rfl (by decide) ⟨.int (lo + i), H, I1, ⟨t, ?_⟩, ⟨rfl, rfl⟩, st', fun b hb => (hf b hb).1⟩⟩
    rw [Int.mul_one]
  done := by
    intro X hP hw hK hc i pins s σ H E I hf st hg
    subst hP hw hK
    obtain ⟨f0, f1, f2, f3, f4, f5⟩ := hf it (by simp)
    exact wpAny_pyNext_range_end (I.ok.hd hc) st (by have : n ≤ i := hg; omega) fun h' eb => ⟨rfl, I.turned (t' := s.toks) (fun b o hb e => eb b o hb e) f0 f1 f3 f4 f5⟩
  self := fun _ _ _ _ _ st h => wpAny_pyIter_rangeiter st h
end L2

namespace L2
open PySem PySem.Spec PyProof.Rows
section
variable {X : Cx} {tg : Expr}
def iList (K : PySem.W.Frag) (tl : TE) : TI := fun σ H R => tl σ H fun x H1 => ∃ a, x = .ref a ∧ (∃ xs, SqL K H1 a xs) ∧ R (Itl K a) H1
def iTup (K : PySem.W.Frag) (tl : TE) : TI := fun σ H R => tl σ H fun x H1 => ∃ a, x = .ref a ∧ (∃ xs, SqT K H1 a xs) ∧ R (Itt K a) H1
theorem pi_list {l : Expr} {tl : TE} (hl : PE X l tl) : PI X tg l (iList X.K tl) := by
  intro pins s σ H R I h
  refine thn (hl pins s σ H _ I h) fun v s1 ⟨x, H1, I1, r1, q1⟩ => ?_
  obtain ⟨a, e, ⟨xs, hq⟩, q⟩ := q1
  subst e
  cases r1
  obtain ⟨its, rv, p, hz⟩ := I1.list hq
  refine wpAny_pyIter_list p.isList ?_
  refine ⟨s1.heap.objs.size, [s1.heap.objs.size], _, _, H1, rfl, I1.kept (t' := s1.toks) fun b o e => Heap.get?_push_of_some _ e, turn_list a _, ⟨_, Heap.get?_push_size _ rfl, rfl, rfl⟩, fun b hb => ?_, q⟩
  have e : b = s1.heap.objs.size := by simpa using hb
  subst e
  exact I1.fpOk (Nat.le_refl _) (I1.hok.fresh (Nat.le_refl _))
theorem pi_tup {l : Expr} {tl : TE} (hl : PE X l tl) : PI X tg l (iTup X.K tl) := by
  intro pins s σ H R I h
  refine thn (hl pins s σ H _ I h) fun v s1 ⟨x, H1, I1, r1, q1⟩ => ?_
  obtain ⟨a, e, ⟨xs, hq⟩, q⟩ := q1
  subst e
  cases r1
  obtain ⟨its, rv, p, hz⟩ := I1.tuple hq
  refine wpAny_pyIter_tuple (show s1.heap.IsTuple a its.toArray from p) ?_
  refine ⟨s1.heap.objs.size, [s1.heap.objs.size], _, _, H1, rfl, I1.kept (t' := s1.toks) fun b o e => Heap.get?_push_of_some _ e, turn_tuple a _, ⟨_, Heap.get?_push_size _ rfl, rfl, rfl⟩, fun b hb => ?_, q⟩
  have e : b = s1.heap.objs.size := by simpa using hb
  subst e
  exact I1.fpOk (Nat.le_refl _) (I1.hok.fresh (Nat.le_refl _))
/-- a range object just made, walked -/
theorem range_it {pins : List (Addr × Obj)} {σ : St} {H : Hp} {s : Shared} {R : It → Hp → Prop} {E : Value → Shared → Prop} {lo hi : Int} {t u v : Tok} {tk : Nat} (I : Inv X pins σ H s) (h1 : -(2 ^ 62) ≤ lo) (h2 : lo < 2 ^ 62) (h3 : -(2 ^ 62) ≤ hi) (h4 : hi < 2 ^ 62)
    (q : R (Itr lo (hi - lo).toNat) H) : wpAny (model X.prog X.w) X.A (pyIter (.ref s.heap.objs.size)) (PIE X pins σ tg R) E { s with heap := s.heap.push { cls := .type "range", data := .fields #[.int lo t, .int hi u, .int 1 v] }, toks := tk } := by
  refine wpAny_pyIter_range (IsRange.new ..) (small_one h1 h2 h3 h4) ?_
  have I1 : Inv X pins σ H { s with heap := s.heap.push { cls := .type "range", data := .fields #[.int lo t, .int hi u, .int 1 v] }, toks := tk } := I.kept fun b o e => Heap.get?_push_of_some _ e
  refine ⟨(s.heap.push { cls := .type "range", data := .fields #[.int lo t, .int hi u, .int 1 v] }).objs.size, [(s.heap.push { cls := .type "range", data := .fields #[.int lo t, .int hi u, .int 1 v] }).objs.size], _, _, H, rfl,
    I1.kept (t' := tk) fun b o e => Heap.get?_push_of_some _ e, turn_range _ lo (hi - lo).toNat, ?_, fun b hb => ?_, q⟩
  · have e1 : lo + ((0 : Nat) : Int) * 1 = lo := by simp
    have e2 : (((hi - lo).toNat : Nat) : Int) - ((0 : Nat) : Int) = Builtin.Range.rangeSize lo hi 1 := by rw [rangeSize_one]; split <;> omega
    show IsRangeIter _ _ (lo + ((0 : Nat) : Int) * 1) ((((hi - lo).toNat : Nat) : Int) - ((0 : Nat) : Int)) 1
    rw [e1, e2]
    exact Heap.get?_push_size _ rfl
  · have e : b = (s.heap.push { cls := .type "range", data := .fields #[.int lo t, .int hi u, .int 1 v] }).objs.size := by simpa using hb
    subst e
    exact I1.fpOk (Nat.le_refl _) (I1.hok.fresh (Nat.le_refl _))
def iRng1 (ta : TA) : TI := fun σ H R => ta σ H fun vs H1 => ∃ j : Int, vs = [.int j] ∧ -(2 ^ 62) ≤ j ∧ j < 2 ^ 62 ∧ R (Itr 0 j.toNat) H1
def iRng2 (ta : TA) : TI := fun σ H R => ta σ H fun vs H1 => ∃ i j : Int, vs = [.int i, .int j] ∧ (-(2 ^ 62) ≤ i ∧ i < 2 ^ 62 ∧ -(2 ^ 62) ≤ j ∧ j < 2 ^ 62) ∧ R (Itr i (j - i).toNat) H1
theorem pi_range1 {a : Expr} {ta : TA} {p pos : Pos} (hg : Gl X "range") (hm : X.mg "range" = none) (ha : PA X [a] ta) (hs : starEach [a] X.env = [(false, eval a X.env)] := by rfl) : PI X tg (.Call (.Name "range" p) [a] [] pos) (iRng1 ta) := by
  intro pins s σ H R I h
  refine Call_ (ld_blt I hg hm boot_range (PyProof.Rows.callWith_type1 (thn (ha pos pins s σ H _ I h) fun us s1 ⟨vs, H1, I1, r1, q1⟩ => ?_) hs rfl))
  obtain ⟨j, e, q1, q2, q⟩ := q1
  subst e
  cases r1 with
  | cons r rr =>
    cases rr
    obtain ⟨t, rfl⟩ := r
    exact call_range_1 (range_it I1 (by omega) (by omega) q1 q2 (by simpa using q))
theorem pi_range2 {a b : Expr} {ta : TA} {p pos : Pos} (hg : Gl X "range") (hm : X.mg "range" = none) (ha : PA X [a, b] ta) (hs : starEach [a, b] X.env = [(false, eval a X.env), (false, eval b X.env)] := by rfl) (hs2 : starEach [b] X.env = [(false, eval b X.env)] := by rfl) :
    PI X tg (.Call (.Name "range" p) [a, b] [] pos) (iRng2 ta) := by
  intro pins s σ H R I h
  refine Call_ (ld_blt I hg hm boot_range (PyProof.Rows.callWith_type1 (thn (ha pos pins s σ H _ I h) fun us s1 ⟨vs, H1, I1, r1, q1⟩ => ?_) (by rw [hs, hs2]) (by rw [hs2]; rfl)))
  obtain ⟨i, j, e, ⟨q1, q2, q3, q4⟩, q⟩ := q1
  subst e
  cases r1 with
  | cons r rr =>
    cases rr with
    | cons r' rr =>
      cases rr
      obtain ⟨t, rfl⟩ := r
      obtain ⟨t', rfl⟩ := r'
      exact call_range_2 (range_it I1 q1 q2 q3 q4 q)

/-! ### for -/
/-- W: the invariant by the turn and a measure; N: what the body is to reach -/
def tFor (wi : TI) (g : TG) (tb : TS) : TS := fun D σ H => wi σ H fun J H1 => ∃ W : Nat → Nat → St → Hp → Prop, (∃ m, W 0 m σ H1) ∧ ∀ i m σ H, W i m σ H →
  (J.stop i H ∧ D.nx σ H) ∨ (J.go i H ∧ ∃ N : St → Hp → Prop, (∀ σ' H', N σ' H' → ∃ m', m' < m ∧ W (i + 1) m' σ' H') ∧ ∀ x H', J.yld i H x H' → g x σ H' fun σ2 H2 => tb { D with nx := N, ct := N, bk := D.nx } σ2 H2)
/-- the records at fp as they stand -/
def pinsAt (fp : List Addr) (h : Heap) : List (Addr × Obj) := fp.filterMap fun b => (h.get? b).map fun o => (b, o)
theorem mem_pinsAt {fp : List Addr} {h : Heap} {b : Addr} {o : Obj} (hb : b ∈ fp) (e : h.get? b = some o) : (b, o) ∈ pinsAt fp h := List.mem_filterMap.mpr ⟨b, hb, by rw [e]; rfl⟩
theorem of_pinsAt {fp : List Addr} {h : Heap} {p : Addr × Obj} (hp : p ∈ pinsAt fp h) : p.1 ∈ fp ∧ h.get? p.1 = some p.2 := by
  obtain ⟨b, hb, e⟩ := List.mem_filterMap.mp hp
  cases q : h.get? b with
  | none => rw [q] at e; cases e
  | some o =>
    rw [q] at e
    have e' : (b, o) = p := Option.some.inj e
    subst e'
    exact ⟨hb, q⟩
theorem Inv.pinned {pins : List (Addr × Obj)} {σ : St} {H : Hp} {s : Shared} {fp : List Addr} (I : Inv X pins σ H s) (hf : ∀ b ∈ fp, FpOk X pins H b) (ho : ∀ b ∈ fp, ∃ o, s.heap.get? b = some o ∧ ∀ v, o.data ≠ .cell v) : Inv X (pins ++ pinsAt fp s.heap) σ H s :=
  I.pins_of fun p hp => (List.mem_append.mp hp).elim (fun z => I.pin p (List.mem_append_right _ z)) fun z => by
    obtain ⟨hb, e⟩ := of_pinsAt z
    obtain ⟨f0, f1, f2, _⟩ := hf p.1 hb
    obtain ⟨o, e', d⟩ := ho p.1 hb
    rw [e] at e'; cases e'
    exact ⟨e, f0, f1, f2, d⟩
theorem Inv.unpinned {pins pl : List (Addr × Obj)} {σ : St} {H : Hp} {s : Shared} (I : Inv X (pins ++ pl) σ H s) : Inv X pins σ H s := I.pins_of fun p hp => I.pin p (List.mem_append_right _ (List.mem_append_left _ hp))
theorem ps_for {iter : Expr} {body : List Stmt} {wi : TI} {g : TG} {tb : TS} {pos : Pos} (hp : PassesOwn (model X.prog X.w) X.A X.env X.xe) (hc : X.calm = true) (hi : PI X tg iter wi) (hg : PG X tg g) (hb : PSs X body tb)
    (hs : ∀ x, foldedSetIterable iter X.env x = pure x := by intro _; rfl) : PS X (.For tg iter body [] pos) (tFor wi g tb) := by
  intro pins s σ H D I h
  refine wpAny_For (thn (hi pins s σ H _ I h) fun v s1 h1 => thn h1 fun itv s2 h2 => ?_) hs
  obtain ⟨it, fp, tn, J, H2, e, I2, T, st2, f2, W, ⟨m0, w0⟩, turn⟩ := h2
  subst e
  -- what stays true of the iterator's objects through the loop
  have stat : ∀ {H' : Hp}, (∀ b ∈ fp, H' b = none) → ∀ b ∈ fp, FpOk X pins H' b := fun hn b hb => ⟨hn b hb, (f2 b hb).2⟩
  refine codeAny_forLoop_any (fun n s' => ∃ i σ' H', Inv X pins σ' H' s' ∧ tn i s'.heap ∧ (∀ b ∈ fp, H' b = none) ∧ W i n σ' H') ?_ m0 ⟨0, σ, H2, I2, st2, fun b hb => (f2 b hb).1, w0⟩
  rintro n s3 ⟨i, σ3, H3, I3, st3, fr3, w3⟩
  rcases turn i n σ3 H3 w3 with ⟨stop, qn⟩ | ⟨go, N, hN, step⟩
  · refine wpAny_passesOwn hp (thn (T.done X rfl rfl rfl hc i pins s3 σ3 H3 X.xe I3 (stat fr3) st3 stop) fun r s4 ⟨hr, I4⟩ => ?_)
    subst hr
    exact wpAny_execs_nil ⟨σ3, H3, I4, qn⟩
  · refine wpAny_passesOwn hp (thn (T.item X rfl rfl rfl hc i pins s3 σ3 H3 X.xe I3 (stat fr3) st3 go) fun r s4 ⟨u, hr, h4⟩ => ?_)
    subst hr
    refine wpAny_passesOwn hp (thn h4 fun _ s5 ⟨x, H5, I5, r5, y5, st5, fr5⟩ => ?_)
    have I5' := I5.pinned (stat fr5) (T.obj _ _ st5)
    refine wpAny_passesOwn hp (thn (hg _ s5 σ3 H5 x u _ I5' r5 (step x H5 y5)) fun _ s6 ⟨σ6, H6, I6, q6⟩ => ?_)
    refine wpAny_passesOwn hp (thn (hb _ s6 σ6 H6 _ I6 q6) fun f s7 q7 => ?_)
    have again : ∀ {σ7 : St} {H7 : Hp}, Inv X (pins ++ pinsAt fp s5.heap) σ7 H7 s7 → N σ7 H7 → ∃ m, m < n ∧ ∃ i σ' H', Inv X pins σ' H' s7 ∧ tn i s7.heap ∧ (∀ b ∈ fp, H' b = none) ∧ W i m σ' H' := fun {σ7 H7} I7 n7 => by
      obtain ⟨m', hm, w7⟩ := hN σ7 H7 n7
      refine ⟨m', hm, i + 1, σ7, H7, I7.unpinned, T.keep _ _ _ st5 fun b hb o e => (I7.pin (b, o) (List.mem_append_right _ (List.mem_append_right _ (mem_pinsAt hb e)))).1, fun b hb => ?_, w7⟩
      obtain ⟨o, e, d⟩ := T.obj _ _ st5 b hb
      exact (I7.pin (b, o) (List.mem_append_right _ (List.mem_append_right _ (mem_pinsAt hb e)))).2.1
    cases f with
    | next => obtain ⟨σ7, H7, I7, n7⟩ := q7; exact again I7 n7
    | cont => obtain ⟨σ7, H7, I7, n7⟩ := q7; exact again I7 n7
    | brk => obtain ⟨σ7, H7, I7, q7⟩ := q7; exact ⟨σ7, H7, I7.unpinned, q7⟩
    | ret v => obtain ⟨x7, σ7, H7, I7, r7, q7⟩ := q7; exact ⟨x7, σ7, H7, I7.unpinned, r7, q7⟩
end

/-! ### the forms one uses -/
/-- over a list that the body leaves as it is -/
theorem for_list {K : PySem.W.Frag} {a : Addr} {xs : List V} {g : TG} {tb : TS} {D : Ends} {σ : St} {H : Hp} (Pv : Nat → St → Hp → Prop) (h0 : Pv 0 σ H) (hl : ∀ i σ H, i ≤ xs.length → Pv i σ H → SqL K H a xs)
    (hs : ∀ i x σ H, xs[i]? = some x → Pv i σ H → g x σ H fun σ2 H2 => tb { D with nx := Pv (i + 1), ct := Pv (i + 1), bk := D.nx } σ2 H2) (hd : ∀ σ H, Pv xs.length σ H → D.nx σ H) :
    ∃ W : Nat → Nat → St → Hp → Prop, (∃ m, W 0 m σ H) ∧ ∀ i m σ H, W i m σ H →
      ((Itl K a).stop i H ∧ D.nx σ H) ∨ ((Itl K a).go i H ∧ ∃ N : St → Hp → Prop, (∀ σ' H', N σ' H' → ∃ m', m' < m ∧ W (i + 1) m' σ' H') ∧ ∀ x H', (Itl K a).yld i H x H' → g x σ H' fun σ2 H2 => tb { D with nx := N, ct := N, bk := D.nx } σ2 H2) := by
  refine ⟨fun i m σ H => m = xs.length - i ∧ i ≤ xs.length ∧ Pv i σ H, ⟨xs.length, by simp, Nat.zero_le _, h0⟩, ?_⟩
  rintro i m σ H ⟨rfl, hi, p⟩
  have q := hl i σ H hi p
  by_cases hlt : i < xs.length
  · refine .inr ⟨⟨xs, xs[i], q, by simp [hlt]⟩, Pv (i + 1), fun σ' H' p' => ⟨xs.length - (i + 1), by omega, rfl, hlt, p'⟩, fun x H' y => ?_⟩
    obtain ⟨e, y⟩ := y
    subst e
    exact hs i x σ _ (y xs q) p
  · have e : i = xs.length := by omega
    subst e
    exact .inl ⟨⟨xs, q, Nat.le_refl _⟩, hd σ H p⟩
theorem for_tup {K : PySem.W.Frag} {a : Addr} {xs : List V} {g : TG} {tb : TS} {D : Ends} {σ : St} {H : Hp} (Pv : Nat → St → Hp → Prop) (h0 : Pv 0 σ H) (hl : ∀ i σ H, i ≤ xs.length → Pv i σ H → SqT K H a xs)
    (hs : ∀ i x σ H, xs[i]? = some x → Pv i σ H → g x σ H fun σ2 H2 => tb { D with nx := Pv (i + 1), ct := Pv (i + 1), bk := D.nx } σ2 H2) (hd : ∀ σ H, Pv xs.length σ H → D.nx σ H) :
    ∃ W : Nat → Nat → St → Hp → Prop, (∃ m, W 0 m σ H) ∧ ∀ i m σ H, W i m σ H →
      ((Itt K a).stop i H ∧ D.nx σ H) ∨ ((Itt K a).go i H ∧ ∃ N : St → Hp → Prop, (∀ σ' H', N σ' H' → ∃ m', m' < m ∧ W (i + 1) m' σ' H') ∧ ∀ x H', (Itt K a).yld i H x H' → g x σ H' fun σ2 H2 => tb { D with nx := N, ct := N, bk := D.nx } σ2 H2) := by
  refine ⟨fun i m σ H => m = xs.length - i ∧ i ≤ xs.length ∧ Pv i σ H, ⟨xs.length, by simp, Nat.zero_le _, h0⟩, ?_⟩
  rintro i m σ H ⟨rfl, hi, p⟩
  have q := hl i σ H hi p
  by_cases hlt : i < xs.length
  · refine .inr ⟨⟨xs, xs[i], q, by simp [hlt]⟩, Pv (i + 1), fun σ' H' p' => ⟨xs.length - (i + 1), by omega, rfl, hlt, p'⟩, fun x H' y => ?_⟩
    obtain ⟨e, y⟩ := y
    subst e
    exact hs i x σ _ (y xs q) p
  · have e : i = xs.length := by omega
    subst e
    exact .inl ⟨⟨xs, q, Nat.le_refl _⟩, hd σ H p⟩
theorem for_range {lo : Int} {n : Nat} {g : TG} {tb : TS} {D : Ends} {σ : St} {H : Hp} (Pv : Nat → St → Hp → Prop) (h0 : Pv 0 σ H)
    (hs : ∀ i σ H, i < n → Pv i σ H → g (.int (lo + i)) σ H fun σ2 H2 => tb { D with nx := Pv (i + 1), ct := Pv (i + 1), bk := D.nx } σ2 H2) (hd : ∀ σ H, Pv n σ H → D.nx σ H) :
    ∃ W : Nat → Nat → St → Hp → Prop, (∃ m, W 0 m σ H) ∧ ∀ i m σ H, W i m σ H →
      ((Itr lo n).stop i H ∧ D.nx σ H) ∨ ((Itr lo n).go i H ∧ ∃ N : St → Hp → Prop, (∀ σ' H', N σ' H' → ∃ m', m' < m ∧ W (i + 1) m' σ' H') ∧ ∀ x H', (Itr lo n).yld i H x H' → g x σ H' fun σ2 H2 => tb { D with nx := N, ct := N, bk := D.nx } σ2 H2) := by
  refine ⟨fun i m σ H => m = n - i ∧ i ≤ n ∧ Pv i σ H, ⟨n, by simp, Nat.zero_le _, h0⟩, ?_⟩
  rintro i m σ H ⟨rfl, hi, p⟩
  by_cases hlt : i < n
  · refine .inr ⟨hlt, Pv (i + 1), fun σ' H' p' => ⟨n - (i + 1), by omega, rfl, hlt, p'⟩, fun x H' y => ?_⟩
    obtain ⟨e, y⟩ := y
    subst e y
    exact hs i σ _ hlt p
  · have e : i = n := by omega
    subst e
    exact .inl ⟨Nat.le_refl _, hd σ H p⟩
/-- while, by a word and a measure of the state -/
theorem while_by {c : TT} {tb : TS} {D : Ends} {σ : St} {H : Hp} (Pv : St → Hp → Prop) (μ : St → Hp → Nat) (h0 : Pv σ H)
    (hs : ∀ σ H, Pv σ H → c σ H fun b H1 => if b = true then tb { D with nx := fun σ' H' => Pv σ' H' ∧ μ σ' H' < μ σ H, ct := fun σ' H' => Pv σ' H' ∧ μ σ' H' < μ σ H, bk := D.nx } σ H1 else D.nx σ H1)
    (mono : ∀ σ H Q Q', (∀ b H1, Q b H1 → Q' b H1) → c σ H Q → c σ H Q') : tWhile c tb D σ H := by
  refine ⟨fun m σ H => m = μ σ H ∧ Pv σ H, ⟨_, rfl, h0⟩, ?_⟩
  rintro m σ H ⟨rfl, p⟩
  refine mono σ H _ _ (fun b H1 q => ?_) (hs σ H p)
  cases b with
  | true => exact ⟨_, fun σ' H' ⟨p', l⟩ => ⟨_, l, rfl, p'⟩, q⟩
  | false => exact q
end L2

namespace L2
open PySem PySem.Spec PyProof.Rows

abbrev R2 := V → V → Hp → VK → Prop
/-- a two-place operation on values: f is binaryOp op, inplaceOp op or compareOp op -/
def OpR (X : Cx) (f : Value → Value → Sem Value) (r : R2) : Prop :=
  ∀ (pins : List (Addr × Obj)) (s : Shared) (σ : St) (H : Hp) (x y : V) (v u : Value) (Q : VK), Inv X pins σ H s → RelV x v → RelV y u → r x y H Q →
    wpAny (model X.prog X.w) X.A (f v u) (EP X pins σ Q) X.xe s
/-- a one-place operation -/
def UnR (X : Cx) (f : Value → Sem Value) (r : V → Hp → VK → Prop) : Prop :=
  ∀ (pins : List (Addr × Obj)) (s : Shared) (σ : St) (H : Hp) (x : V) (v : Value) (Q : VK), Inv X pins σ H s → RelV x v → r x H Q →
    wpAny (model X.prog X.w) X.A (f v) (EP X pins σ Q) X.xe s
/-- a call of a value that is known (a builtin, a type) with values -/
def CallR (X : Cx) (f : Value) (r : List V → Hp → VK → Prop) : Prop :=
  ∀ (pins : List (Addr × Obj)) (s : Shared) (σ : St) (H : Hp) (xs : List V) (us : List Value) (Q : VK), Inv X pins σ H s → Vals xs us → r xs H Q →
    wpAny (model X.prog X.w) X.A (call f us) (EP X pins σ Q) X.xe s
/-- a value's truth -/
def TruR (X : Cx) (r : V → Hp → (Bool → Hp → Prop) → Prop) : Prop :=
  ∀ (pins : List (Addr × Obj)) (s : Shared) (σ : St) (H : Hp) (x : V) (v : Value) (Q : Bool → Hp → Prop), Inv X pins σ H s → RelV x v → r x H Q →
    wpAny (model X.prog X.w) X.A (truthy v) (TP X pins σ Q) X.xe s

def tOp (r : R2) (ta tb : TE) : TE := fun σ H Q => ta σ H fun x H1 => tb σ H1 fun y H2 => r x y H2 Q
def tUn (r : V → Hp → VK → Prop) (ta : TE) : TE := fun σ H Q => ta σ H fun x H1 => r x H1 Q
/-- ints in, under C, and a value out -/
def rI (C : Int → Int → Prop) (g : Int → Int → V) : R2 := fun x y H Q => ∃ i j, x = .int i ∧ y = .int j ∧ C i j ∧ Q (g i j) H
def rI0 (g : Int → Int → V) : R2 := fun x y H Q => ∃ i j, x = .int i ∧ y = .int j ∧ Q (g i j) H
def rU (g : Int → V) : V → Hp → VK → Prop := fun x H Q => ∃ i, x = .int i ∧ Q (g i) H

section
variable {X : Cx} {a b c : Expr} {ta tb tc : TE} {pos : Pos}

theorem binT (ha : PE X a ta) (hb : PE X b tb) {pins : List (Addr × Obj)} {s : Shared} {σ : St} {H : Hp} {R : V → V → Hp → Prop} (I : Inv X pins σ H s)
    (h : ta σ H fun x H1 => tb σ H1 fun y H2 => R x y H2) {Q : Value → Shared → Prop} {f : Value → Value → Sem Value}
    (hf : ∀ v u s2 x y H2, Inv X pins σ H2 s2 → RelV x v → RelV y u → R x y H2 → wpAny (model X.prog X.w) X.A (f v u) Q X.xe s2) :
    wpAny (model X.prog X.w) X.A (eval a X.env) (fun v s₁ => wpAny (model X.prog X.w) X.A (eval b X.env) (fun u s₂ => wpAny (model X.prog X.w) X.A (f v u) Q X.xe s₂) X.xe s₁) X.xe s := by
  refine thn (ha pins s σ H _ I h) fun v s1 ⟨x, H1, I1, r1, q1⟩ => ?_
  refine thn (hb pins s1 σ H1 _ I1 q1) fun u s2 ⟨y, H2, I2, r2, q2⟩ => ?_
  exact hf v u s2 x y H2 I2 r1 r2 q2

theorem pe_op {op : Operator} {r : R2} (ho : OpR X (binaryOp op) r) (ha : PE X a ta) (hb : PE X b tb) : PE X (.BinOp a op b pos) (tOp r ta tb) := by
  intro pins s σ H Q I h
  exact wpAny_BinOp (binT ha hb I h fun v u s2 x y H2 I2 rx ry q => ho pins s2 σ H2 x y v u Q I2 rx ry q)
theorem pe_un {op : UnaryOp} {r : V → Hp → VK → Prop} (ho : UnR X (unaryOp op) r) (ha : PE X a ta) : PE X (.UnaryOp op a pos) (tUn r ta) := by
  intro pins s σ H Q I h
  exact UnaryOp_ (thn (ha pins s σ H _ I h) fun v s1 ⟨x, H1, I1, r1, q1⟩ => ho pins s1 σ H1 x v Q I1 r1 q1)
/-- a op= e at a name: the name's slot i -/
theorem augR {op : Operator} {r : R2} (ho : OpR X (inplaceOp op) r) {pins : List (Addr × Obj)} {s : Shared} {σ : St} {H : Hp} {x y : V} {v u : Value} {Q : VK} (I : Inv X pins σ H s)
    (rx : RelV x v) (ry : RelV y u) (q : r x y H Q) : wpAny (model X.prog X.w) X.A (inplaceOp op v u) (EP X pins σ Q) X.xe s := ho pins s σ H x y v u Q I rx ry q

/-! ### ints -/
theorem opI {f : Value → Value → Sem Value} {C : Int → Int → Prop} {g : Int → Int → Int}
    (rule : ∀ (i j : Int) (t u : Tok) (s : Shared) (Q : Value → Shared → Prop) (E : Value → Shared → Prop), C i j → Q (.int (g i j) s.toks) { s with toks := s.toks + 1 } → wpAny (model X.prog X.w) X.A (f (.int i t) (.int j u)) Q E s) :
    OpR X f (rI C fun i j => .int (g i j)) := by
  intro pins s σ H x y v u Q I rx ry h
  obtain ⟨i, j, rfl, rfl, hc, q⟩ := h
  obtain ⟨t, rfl⟩ := rx
  obtain ⟨t', rfl⟩ := ry
  exact rule i j t t' s _ _ hc ⟨.int (g i j), H, I.tok _, ⟨_, rfl⟩, q⟩
theorem opI0 {f : Value → Value → Sem Value} {g : Int → Int → Int}
    (rule : ∀ (i j : Int) (t u : Tok) (s : Shared) (Q : Value → Shared → Prop) (E : Value → Shared → Prop), Q (.int (g i j) s.toks) { s with toks := s.toks + 1 } → wpAny (model X.prog X.w) X.A (f (.int i t) (.int j u)) Q E s) :
    OpR X f (rI0 fun i j => .int (g i j)) := by
  intro pins s σ H x y v u Q I rx ry h
  obtain ⟨i, j, rfl, rfl, q⟩ := h
  obtain ⟨t, rfl⟩ := rx
  obtain ⟨t', rfl⟩ := ry
  exact rule i j t t' s _ _ ⟨.int (g i j), H, I.tok _, ⟨_, rfl⟩, q⟩
theorem opB0 {f : Value → Value → Sem Value} {g : Int → Int → Bool}
    (rule : ∀ (i j : Int) (t u : Tok) (s : Shared) (Q : Value → Shared → Prop) (E : Value → Shared → Prop), Q (.bool (g i j)) s → wpAny (model X.prog X.w) X.A (f (.int i t) (.int j u)) Q E s) :
    OpR X f (rI0 fun i j => .bl (g i j)) := by
  intro pins s σ H x y v u Q I rx ry h
  obtain ⟨i, j, rfl, rfl, q⟩ := h
  obtain ⟨t, rfl⟩ := rx
  obtain ⟨t', rfl⟩ := ry
  exact rule i j t t' s _ _ ⟨.bl (g i j), H, I, rfl, q⟩

def CDiv (i j : Int) : Prop := 0 < j ∧ j < 1073741824
def CDivN (i j : Int) : Prop := j ≠ 0 ∧ j.natAbs < 1073741824
def CPow (i j : Int) : Prop := 0 ≤ j ∧ j ≤ 1000000 ∧ i.natAbs < 2 ^ 64
def CMul (i j : Int) : Prop := (-(2 ^ 64) < i ∧ i < 2 ^ 64) ∨ (-(2 ^ 64) < j ∧ j < 2 ^ 64)
theorem CMul.ok {i j : Int} (h : CMul i j) : IntMulOk i j := by
  rcases h with ⟨h1, h2⟩ | ⟨h1, h2⟩
  · exact .of_left (intBits_le_64 h1 h2)
  · exact .of_right (intBits_le_64 h1 h2)
theorem two_pow_nn (k : Nat) : (0 : Int) ≤ 2 ^ k := by
  rw [two_pow_cast]
  exact Int.natCast_nonneg _

theorem op_add : OpR X (binaryOp .Add) (rI0 fun i j => .int (i + j)) := opI0 fun _ _ _ _ _ _ _ q => add_int q
theorem op_sub : OpR X (binaryOp .Sub) (rI0 fun i j => .int (i - j)) := opI0 fun _ _ _ _ _ _ _ q => sub_int q
theorem op_mul : OpR X (binaryOp .Mult) (rI CMul fun i j => .int (i * j)) := opI fun _ _ _ _ _ _ _ hc q => mul_int q hc.ok
/-- // by a positive divisor -/
theorem op_fdiv : OpR X (binaryOp .FloorDiv) (rI CDiv fun i j => .int (i / j)) := opI fun i j _ _ _ _ _ hc q => by
  have h1 : (0 : Int) < j := hc.1
  have h2 : j < 1073741824 := hc.2
  exact floordiv_int (by omega) (by rw [Int.fdiv_eq_ediv_of_nonneg i (by omega)]; exact q) (.inl (PyProof.noPylong_small (by omega)))
theorem op_fdivN : OpR X (binaryOp .FloorDiv) (rI CDivN fun i j => .int (i.fdiv j)) := opI fun _ _ _ _ _ _ _ hc q => floordiv_int hc.1 q (.inl (PyProof.noPylong_small hc.2))
/-- % by a positive divisor of any size -/
theorem op_mod : OpR X (binaryOp .Mod) (rI (fun _ j => 0 < j) fun i j => .int (i % j)) := opI fun i j _ _ _ _ _ hc q => by
  have h1 : (0 : Int) < j := hc
  exact mod_int' (by omega) (by rw [Int.fmod_eq_emod_of_nonneg i (by omega)]; exact q)
theorem op_modN : OpR X (binaryOp .Mod) (rI (fun _ j => j ≠ 0) fun i j => .int (i.fmod j)) := opI fun _ _ _ _ _ _ _ hc q => mod_int' hc q
theorem op_pow : OpR X (binaryOp .Pow) (rI CPow fun i j => .int (i ^ j.toNat)) := opI fun _ _ _ _ _ _ _ hc q => pow_int_small hc.1 hc.2.1 hc.2.2 q
theorem op_shl : OpR X (binaryOp .LShift) (rI CPow fun i j => .int (i * 2 ^ j.toNat)) := opI fun _ _ _ _ _ _ _ hc q => lshift_int_small hc.1 hc.2.1 hc.2.2 q
theorem op_shr : OpR X (binaryOp .RShift) (rI (fun _ j => 0 ≤ j) fun i j => .int (i / 2 ^ j.toNat)) := opI fun i j _ _ _ _ _ hc q =>
  rshift_int hc (by rw [Int.fdiv_eq_ediv_of_nonneg i (two_pow_nn _)]; exact q)
theorem op_and : OpR X (binaryOp .BitAnd) (rI0 fun i j => .int (Builtin.bitAnd i j)) := opI0 fun _ _ _ _ _ _ _ q => and_int q
theorem op_or : OpR X (binaryOp .BitOr) (rI0 fun i j => .int (Builtin.bitOr i j)) := opI0 fun _ _ _ _ _ _ _ q => or_int q
theorem op_xor : OpR X (binaryOp .BitXor) (rI0 fun i j => .int (Builtin.bitXor i j)) := opI0 fun _ _ _ _ _ _ _ q => xor_int q

theorem iop_add : OpR X (inplaceOp .Add) (rI0 fun i j => .int (i + j)) := opI0 fun _ _ _ _ _ _ _ q => iadd_int q
theorem iop_sub : OpR X (inplaceOp .Sub) (rI0 fun i j => .int (i - j)) := opI0 fun _ _ _ _ _ _ _ q => isub_int q
theorem iop_mul : OpR X (inplaceOp .Mult) (rI CMul fun i j => .int (i * j)) := opI fun _ _ _ _ _ _ _ hc q => imul_int q hc.ok
theorem iop_fdiv : OpR X (inplaceOp .FloorDiv) (rI CDiv fun i j => .int (i / j)) := opI fun i j _ _ _ _ _ hc q => by
  have h1 : (0 : Int) < j := hc.1
  have h2 : j < 1073741824 := hc.2
  exact ifloordiv_int (by omega) (by rw [Int.fdiv_eq_ediv_of_nonneg i (by omega)]; exact q) (.inl (PyProof.noPylong_small (by omega)))
theorem iop_mod : OpR X (inplaceOp .Mod) (rI (fun _ j => 0 < j) fun i j => .int (i % j)) := opI fun i j _ _ _ _ _ hc q => by
  have h1 : (0 : Int) < j := hc
  exact imod_int (by omega) (by rw [Int.fmod_eq_emod_of_nonneg i (by omega)]; exact q)
theorem iop_shl : OpR X (inplaceOp .LShift) (rI CPow fun i j => .int (i * 2 ^ j.toNat)) := opI fun _ _ _ _ _ _ _ hc q => ilshift_int_small hc.1 hc.2.1 hc.2.2 q
theorem iop_shr : OpR X (inplaceOp .RShift) (rI (fun _ j => 0 ≤ j) fun i j => .int (i / 2 ^ j.toNat)) := opI fun i j _ _ _ _ _ hc q =>
  irshift_int hc (by rw [Int.fdiv_eq_ediv_of_nonneg i (two_pow_nn _)]; exact q)
theorem iop_and : OpR X (inplaceOp .BitAnd) (rI0 fun i j => .int (Builtin.bitAnd i j)) := opI0 fun _ _ _ _ _ _ _ q => iand_int q
theorem iop_or : OpR X (inplaceOp .BitOr) (rI0 fun i j => .int (Builtin.bitOr i j)) := opI0 fun _ _ _ _ _ _ _ q => ior_int q
theorem iop_xor : OpR X (inplaceOp .BitXor) (rI0 fun i j => .int (Builtin.bitXor i j)) := opI0 fun _ _ _ _ _ _ _ q => ixor_int q

theorem unI {f : Value → Sem Value} {g : Int → Int}
    (rule : ∀ (i : Int) (t : Tok) (s : Shared) (Q : Value → Shared → Prop) (E : Value → Shared → Prop), Q (.int (g i) s.toks) { s with toks := s.toks + 1 } → wpAny (model X.prog X.w) X.A (f (.int i t)) Q E s) :
    UnR X f (rU fun i => .int (g i)) := by
  intro pins s σ H x v Q I rx h
  obtain ⟨i, rfl, q⟩ := h
  obtain ⟨t, rfl⟩ := rx
  exact rule i t s _ _ ⟨.int (g i), H, I.tok _, ⟨_, rfl⟩, q⟩
theorem un_neg : UnR X (unaryOp .USub) (rU fun i => .int (-i)) := unI fun _ _ _ _ _ q => neg_int q
theorem un_inv : UnR X (unaryOp .Invert) (rU fun i => .int (Builtin.bitNot i)) := unI fun _ _ _ _ _ q => invert_int q

/-! ### bools among ints: n += (a < b) -/
theorem op_add_ib : OpR X (binaryOp .Add) (fun x y H Q => ∃ i k, x = .int i ∧ y = .bl k ∧ Q (.int (i + b2i k)) H) := by
  intro pins s σ H x y v u Q I rx ry h
  obtain ⟨i, k, rfl, rfl, q⟩ := h
  obtain ⟨t, rfl⟩ := rx
  cases ry
  exact add_int_bool ⟨.int (i + b2i k), H, I.tok _, ⟨_, rfl⟩, q⟩
end

/-! ### comparisons -/
/-- the scalars that == tells apart as data does -/
def scal : V → V → Bool
  | .non, .non => true | .non, .int _ => true | .int _, .non => true | .non, .bl _ => true | .bl _, .non => true | .non, .str _ => true | .str _, .non => true
  | .int _, .int _ => true | .bl _, .bl _ => true | .str _, .str _ => true | .byt _, .byt _ => true
  | .int _, .str _ => true | .str _, .int _ => true | .bl _, .str _ => true | .str _, .bl _ => true
  | _, _ => false
def rEq : R2 := fun x y H Q => scal x y = true ∧ Q (.bl (decide (x = y))) H
def rNe : R2 := fun x y H Q => scal x y = true ∧ Q (.bl (!decide (x = y))) H

theorem dec_int {i j : Int} : decide (V.int i = V.int j) = (i == j) := by
  rw [Bool.eq_iff_iff]
  simp
theorem dec_bl {i j : Bool} : decide (V.bl i = V.bl j) = (i == j) := by
  rw [Bool.eq_iff_iff]
  simp
theorem dec_str {i j : Str} : decide (V.str i = V.str j) = (i == j) := by
  rw [Bool.eq_iff_iff]
  simp
theorem dec_byt {i j : Array UInt8} : decide (V.byt i = V.byt j) = (i.toList == j.toList) := by
  rw [Bool.eq_iff_iff]
  cases i
  cases j
  simp

section
variable {X : Cx} {a b c : Expr} {ta tb tc : TE} {pos : Pos}
theorem fin_bl {pins : List (Addr × Obj)} {σ : St} {H : Hp} {s : Shared} {Q : VK} {k k' : Bool} (I : Inv X pins σ H s) (q : Q (.bl k) H) (e : k = k') : EP X pins σ Q (.bool k') s := by
  subst e
  exact ⟨.bl k, H, I, rfl, q⟩
theorem op_eq : OpR X (compareOp .Eq) rEq := by
  intro pins s σ H x y v u Q I rx ry h
  obtain ⟨hs, q⟩ := h
  cases x with
  | non =>
    cases rx
    cases y with
    | non => cases ry; exact PySem.EqNone.eq_none_none (fin_bl I q (by simp))
    | bl j => cases ry; exact PySem.EqNone.eq_none_bool (fin_bl I q (by simp))
    | int j => obtain ⟨t', rfl⟩ := ry; exact PySem.EqNone.eq_none_int (fin_bl I q (by simp))
    | str j => obtain ⟨t', rfl⟩ := ry; exact PySem.EqNone.eq_none_str (fin_bl I q (by simp))
    | _ => exact absurd (show false = true from hs) Bool.false_ne_true
  | bl i =>
    cases rx
    cases y with
    | non => cases ry; exact PySem.EqNone.eq_bool_none (fin_bl I q (by simp))
    | bl j => cases ry; exact eq_bool (fin_bl I q dec_bl)
    | str j => obtain ⟨t', rfl⟩ := ry; exact PySem.EqMixed.eq_bool_str (fin_bl I q (by simp))
    | _ => exact absurd (show false = true from hs) Bool.false_ne_true
  | int i =>
    obtain ⟨t, rfl⟩ := rx
    cases y with
    | non => cases ry; exact PySem.EqNone.eq_int_none (fin_bl I q (by simp))
    | int j => obtain ⟨t', rfl⟩ := ry; exact eq_int (fin_bl I q dec_int)
    | str j => obtain ⟨t', rfl⟩ := ry; exact PySem.EqMixed.eq_int_str (fin_bl I q (by simp))
    | _ => exact absurd (show false = true from hs) Bool.false_ne_true
  | str i =>
    obtain ⟨t, rfl⟩ := rx
    cases y with
    | non => cases ry; exact PySem.EqNone.eq_str_none (fin_bl I q (by simp))
    | bl j => cases ry; exact PySem.EqMixed.eq_str_bool (fin_bl I q (by simp))
    | int j => obtain ⟨t', rfl⟩ := ry; exact PySem.EqMixed.eq_str_int (fin_bl I q (by simp))
    | str j => obtain ⟨t', rfl⟩ := ry; exact eq_str (fin_bl I q dec_str)
    | _ => exact absurd (show false = true from hs) Bool.false_ne_true
  | byt i =>
    obtain ⟨t, rfl⟩ := rx
    cases y with
    | byt j => obtain ⟨t', rfl⟩ := ry; exact PySem.W.eq_bytes (fin_bl I q dec_byt)
    | _ => exact absurd (show false = true from hs) Bool.false_ne_true
  | _ => cases y <;> exact absurd (show false = true from hs) Bool.false_ne_true
theorem op_ne : OpR X (compareOp .NotEq) rNe := by
  intro pins s σ H x y v u Q I rx ry h
  obtain ⟨hs, q⟩ := h
  cases x with
  | non =>
    cases rx
    cases y with
    | non => cases ry; exact PySem.EqNone.ne_none_none (fin_bl I q (by simp))
    | bl j => cases ry; exact PySem.EqNone.ne_none_bool (fin_bl I q (by simp))
    | int j => obtain ⟨t', rfl⟩ := ry; exact PySem.EqNone.ne_none_int (fin_bl I q (by simp))
    | str j => obtain ⟨t', rfl⟩ := ry; exact PySem.EqNone.ne_none_str (fin_bl I q (by simp))
    | _ => exact absurd (show false = true from hs) Bool.false_ne_true
  | bl i =>
    cases rx
    cases y with
    | non => cases ry; exact PySem.EqNone.ne_bool_none (fin_bl I q (by simp))
    | bl j => cases ry; exact ne_bool (fin_bl I q (congrArg not dec_bl))
    | str j => obtain ⟨t', rfl⟩ := ry; exact PySem.EqMixed.ne_bool_str (fin_bl I q (by simp))
    | _ => exact absurd (show false = true from hs) Bool.false_ne_true
  | int i =>
    obtain ⟨t, rfl⟩ := rx
    cases y with
    | non => cases ry; exact PySem.EqNone.ne_int_none (fin_bl I q (by simp))
    | int j => obtain ⟨t', rfl⟩ := ry; exact ne_int (fin_bl I q (congrArg not dec_int))
    | str j => obtain ⟨t', rfl⟩ := ry; exact PySem.EqMixed.ne_int_str (fin_bl I q (by simp))
    | _ => exact absurd (show false = true from hs) Bool.false_ne_true
  | str i =>
    obtain ⟨t, rfl⟩ := rx
    cases y with
    | non => cases ry; exact PySem.EqNone.ne_str_none (fin_bl I q (by simp))
    | bl j => cases ry; exact PySem.EqMixed.ne_str_bool (fin_bl I q (by simp))
    | int j => obtain ⟨t', rfl⟩ := ry; exact PySem.EqMixed.ne_str_int (fin_bl I q (by simp))
    | str j => obtain ⟨t', rfl⟩ := ry; exact ne_str (fin_bl I q (congrArg not dec_str))
    | _ => exact absurd (show false = true from hs) Bool.false_ne_true
  | byt i =>
    obtain ⟨t, rfl⟩ := rx
    cases y with
    | byt j => obtain ⟨t', rfl⟩ := ry; exact PySem.W.ne_bytes (fin_bl I q (congrArg not dec_byt))
    | _ => exact absurd (show false = true from hs) Bool.false_ne_true
  | _ => cases y <;> exact absurd (show false = true from hs) Bool.false_ne_true

theorem op_lt : OpR X (compareOp .Lt) (rI0 fun i j => .bl (decide (i < j))) := opB0 fun _ _ _ _ _ _ _ q => lt_int q
theorem op_le : OpR X (compareOp .LtE) (rI0 fun i j => .bl (decide (i ≤ j))) := opB0 fun _ _ _ _ _ _ _ q => le_int q
theorem op_gt : OpR X (compareOp .Gt) (rI0 fun i j => .bl (decide (j < i))) := opB0 fun _ _ _ _ _ _ _ q => gt_int q
theorem op_ge : OpR X (compareOp .GtE) (rI0 fun i j => .bl (decide (j ≤ i))) := opB0 fun _ _ _ _ _ _ _ q => ge_int q
theorem op_lt_str : OpR X (compareOp .Lt) (fun x y H Q => ∃ i j, x = .str i ∧ y = .str j ∧ Q (.bl (decide (i.cps.toList < j.cps.toList))) H) := by
  intro pins s σ H x y v u Q I rx ry h
  obtain ⟨i, j, rfl, rfl, q⟩ := h
  obtain ⟨t, rfl⟩ := rx
  obtain ⟨t', rfl⟩ := ry
  exact lt_str (fin_bl I q rfl)
/-- the one string within the other -/
theorem op_in_str : OpR X (compareOp .In) (fun x y H Q => ∃ i j, x = .str i ∧ y = .str j ∧ Q (.bl (!(Builtin.Str.occurrences j i 0 j.length 1).isEmpty)) H) := by
  intro pins s σ H x y v u Q I rx ry h
  obtain ⟨i, j, rfl, rfl, q⟩ := h
  obtain ⟨t, rfl⟩ := rx
  obtain ⟨t', rfl⟩ := ry
  exact in_str (fin_bl I q rfl)

/-- is None, is not None: the right side a value none -/
theorem op_isN : OpR X (compareOp .Is) (fun x y H Q => y = .non ∧ Q (.bl (decide (x = .non))) H) := by
  intro pins s σ H x y v u Q I rx ry h
  obtain ⟨rfl, q⟩ := h
  cases ry
  refine is_none_gen (fin_bl I q ?_)
  cases x <;> first
    | (cases rx; rfl)
    | (obtain ⟨t, rfl⟩ := rx; rfl)
theorem op_notN : OpR X (compareOp .IsNot) (fun x y H Q => y = .non ∧ Q (.bl (!decide (x = .non))) H) := by
  intro pins s σ H x y v u Q I rx ry h
  obtain ⟨rfl, q⟩ := h
  cases ry
  refine isnot_none_gen (fin_bl I q ?_)
  cases x <;> first
    | (cases rx; rfl)
    | (obtain ⟨t, rfl⟩ := rx; rfl)

theorem op_notin_str : OpR X (compareOp .NotIn) (fun x y H Q => ∃ i j, x = .str i ∧ y = .str j ∧ Q (.bl (!(!(Builtin.Str.occurrences j i 0 j.length 1).isEmpty))) H) := by
  intro pins s σ H x y v u Q I rx ry h
  obtain ⟨i, j, rfl, rfl, q⟩ := h
  obtain ⟨t, rfl⟩ := rx
  obtain ⟨t', rfl⟩ := ry
  exact notIn_str (fin_bl I q rfl)
/-- is, is not of two objects that are tracked lists or instances -/
def isObj : HO → Bool
  | .lst _ => true
  | .ins _ _ _ => true
  | _ => false
theorem obj_there {pins : List (Addr × Obj)} {s : Shared} {σ : St} {H : Hp} {a : Addr} {o : HO} (I : Inv X pins σ H s) (h : H a = some o) (p : isObj o = true) : ∃ ob, s.heap.get? a = some ob ∧ ob.cls ≠ .type "tuple" := by
  cases o with
  | lst xs =>
    obtain ⟨_, its, n, _, e⟩ : xs.length ≤ sizeLine ∧ ∃ (its : List Value) (n : Nat), Vals xs its ∧ s.heap.get? a = some { cls := .type "list", data := .seq its.toArray n } := I.hok a _ h
    exact ⟨_, e, (by show Value.type "list" ≠ .type "tuple"; decide +kernel)⟩
  | ins C dx fs =>
    have x := I.hok a _ h
    obtain ⟨_, _, _, e, _⟩ := x
    exact ⟨_, e, (by show Value.ref C ≠ .type "tuple"; exact fun z => by cases z)⟩
  | _ => exact absurd (show false = true from p) Bool.false_ne_true
theorem op_is_ref : OpR X (compareOp .Is) (fun x y H Q => ∃ a b oa ob, x = .ref a ∧ y = .ref b ∧ H a = some oa ∧ isObj oa = true ∧ H b = some ob ∧ isObj ob = true ∧ Q (.bl (decide (a = b))) H) := by
  intro pins s σ H x y v u Q I rx ry h
  obtain ⟨a, b, oa, ob, rfl, rfl, ha, pa, hb, pb, q⟩ := h
  cases rx
  cases ry
  obtain ⟨o1, e1, n1⟩ := obj_there I ha pa
  obtain ⟨o2, e2, _⟩ := obj_there I hb pb
  by_cases z : a = b
  · subst z
    exact wpAny_is_ref_self (fin_bl I q (by simp))
  · exact wpAny_is_ref_other z e1 e2 n1 (fin_bl I q (by simp [z]))
theorem op_isnot_ref : OpR X (compareOp .IsNot) (fun x y H Q => ∃ a b oa ob, x = .ref a ∧ y = .ref b ∧ H a = some oa ∧ isObj oa = true ∧ H b = some ob ∧ isObj ob = true ∧ Q (.bl (!decide (a = b))) H) := by
  intro pins s σ H x y v u Q I rx ry h
  obtain ⟨a, b, oa, ob, rfl, rfl, ha, pa, hb, pb, q⟩ := h
  cases rx
  cases ry
  obtain ⟨o1, e1, n1⟩ := obj_there I ha pa
  obtain ⟨o2, e2, _⟩ := obj_there I hb pb
  by_cases z : a = b
  · subst z
    exact wpAny_isNot_ref_self (fin_bl I q (by simp))
  · exact wpAny_isNot_ref_other z e1 e2 n1 (fin_bl I q (by simp [z]))

/-- two rules for one operation: by cases -/
theorem OpR.or {f : Value → Value → Sem Value} {r r' : R2} (h : OpR X f r) (h' : OpR X f r') : OpR X f (fun x y H Q => r x y H Q ∨ r' x y H Q) := by
  intro pins s σ H x y v u Q I rx ry q
  rcases q with q | q
  · exact h pins s σ H x y v u Q I rx ry q
  · exact h' pins s σ H x y v u Q I rx ry q

theorem nomark (b : Expr) {op : CmpOp} (h : op ≠ .In := by decide) (h2 : op ≠ .NotIn := by decide) : behindInMarks op b = false := by
  have e1 : (op == CmpOp.In) = false := by cases op <;> first | rfl | exact absurd rfl h
  have e2 : (op == CmpOp.NotIn) = false := by cases op <;> first | rfl | exact absurd rfl h2
  cases b <;> simp [behindInMarks, e1, e2]
/-- a comparison as a value; hm: nomark b, or (for in, not in) by with_unfolding_all rfl -/
theorem pe_cmpR {op : CmpOp} {r : R2} (ho : OpR X (compareOp op) r) (ha : PE X a ta) (hb : PE X b tb) (hm : behindInMarks op b = false) : PE X (.Compare a [op] [b] pos) (tOp r ta tb) := by
  intro pins s σ H Q I h
  exact wpAny_Compare1 (binT ha hb I h fun v u s2 x y H2 I2 rx ry q => ho pins s2 σ H2 x y v u Q I2 rx ry q) hm
/-- a reading of a value as a test -/
def tTest (t : TE) : TT := fun σ H Q => t σ H fun x H' => ∃ k, x = .bl k ∧ Q k H'
theorem pt_cmpR {op : CmpOp} {r : R2} (ho : OpR X (compareOp op) r) (ha : PE X a ta) (hb : PE X b tb) (hm : behindInMarks op b = false) : PT X (.Compare a [op] [b] pos) (tTest (tOp r ta tb)) := by
  intro pins s σ H Q I h
  refine wpAny_isTrue_Compare1 (thn (ha pins s σ H _ I h) fun v s1 ⟨x, H1, I1, r1, q1⟩ => thn (hb pins s1 σ H1 _ I1 q1) fun u s2 ⟨y, H2, I2, r2, q2⟩ =>
    thn (ho pins s2 σ H2 x y v u _ I2 r1 r2 q2) fun c s3 ⟨z, H3, I3, r3, k, e, q3⟩ => ?_) hm
  subst e
  cases r3
  exact wpAny_truthy_bool ⟨H3, I3, q3⟩
/-- a op1 b op2 c -/
def tChain (r r' : R2) (ta tb tc : TE) : TE := fun σ H Q => ta σ H fun x H1 => tb σ H1 fun y H2 => r x y H2 fun z H3 => ∃ k, z = .bl k ∧
  (if k = true then tc σ H3 fun w' H4 => r' y w' H4 Q else Q (.bl false) H3)
theorem pe_chain {op op' : CmpOp} {r r' : R2} (ho : OpR X (compareOp op) r) (ho' : OpR X (compareOp op') r') (ha : PE X a ta) (hb : PE X b tb) (hc : PE X c tc)
    (hm : lastMarks [op, op'] [b, c] = false := by with_unfolding_all rfl) : PE X (.Compare a [op, op'] [b, c] pos) (tChain r r' ta tb tc) := by
  intro pins s σ H Q I h
  refine Compare_chain (thn (ha pins s σ H _ I h) fun v s1 ⟨x, H1, I1, r1, q1⟩ => chain_link (thn (hb pins s1 σ H1 _ I1 q1) fun u s2 ⟨y, H2, I2, r2, q2⟩ =>
    thn (ho pins s2 σ H2 x y v u _ I2 r1 r2 q2) fun d s3 ⟨z, H3, I3, r3, k, e, q3⟩ => ?_)) hm
  subst e
  cases r3
  refine wpAny_truthy_bool ?_
  cases k with
  | false => exact ite_ff ⟨.bl false, H3, I3, rfl, q3⟩
  | true => exact ite_tt (chain_last (thn (hc pins s3 σ H3 _ I3 q3) fun w' s4 ⟨z', H4, I4, r4, q4⟩ => ho' pins s4 σ H4 y z' u w' Q I4 r2 r4 q4))
theorem pt_chain {op op' : CmpOp} {r r' : R2} (ho : OpR X (compareOp op) r) (ho' : OpR X (compareOp op') r') (ha : PE X a ta) (hb : PE X b tb) (hc : PE X c tc)
    (hm : lastMarks [op, op'] [b, c] = false := by with_unfolding_all rfl) : PT X (.Compare a [op, op'] [b, c] pos) (tTest (tChain r r' ta tb tc)) := by
  intro pins s σ H Q I h
  refine isTrue_chain (thn (ha pins s σ H _ I h) fun v s1 ⟨x, H1, I1, r1, q1⟩ => test_link (thn (hb pins s1 σ H1 _ I1 q1) fun u s2 ⟨y, H2, I2, r2, q2⟩ =>
    thn (ho pins s2 σ H2 x y v u _ I2 r1 r2 q2) fun d s3 ⟨z, H3, I3, r3, k, e, q3⟩ => ?_)) hm
  subst e
  cases r3
  refine wpAny_truthy_bool ?_
  cases k with
  | false =>
    obtain ⟨k', e', q'⟩ := q3
    cases e'
    exact ite_ff ⟨H3, I3, q'⟩
  | true =>
    refine ite_tt (test_last (thn (hc pins s3 σ H3 _ I3 q3) fun w' s4 ⟨z', H4, I4, r4, q4⟩ => thn (ho' pins s4 σ H4 y z' u w' _ I4 r2 r4 q4) fun d' s5 ⟨z2, H5, I5, r5, k2, e2, q5⟩ => ?_))
    subst e2
    cases r5
    exact wpAny_truthy_bool ⟨H5, I5, q5⟩

/-! ### truth -/
/-- a value's truth by the abstract heap -/
def TruV (K : PySem.W.Frag) (x : V) (H : Hp) (k : Bool) : Prop :=
  match x with
  | .non => k = false
  | .bl b => k = b
  | .int i => k = (i != 0)
  | .str y => y.length ≤ sizeLine ∧ k = ((y.length : Int) != 0)
  | .byt y => y.size ≤ sizeLine ∧ k = ((y.size : Int) != 0)
  | .ref p => (∃ xs, SqL K H p xs ∧ k = !xs.isEmpty) ∨ (∃ xs, SqT K H p xs ∧ k = !xs.isEmpty) ∨ ∃ kvs, H p = some (.dK kvs) ∧ k = !kvs.isEmpty
  | _ => False
theorem isEmpty_kv {κ : Type} {kvs : List (κ × V)} {vs : List (κ × Value)} (r : KV kvs vs) : (!vs.isEmpty) = !kvs.isEmpty := by
  cases r <;> rfl
theorem isEmpty_of {xs : List V} {its : List Value} (r : Vals xs its) : (!its.toArray.isEmpty) = !xs.isEmpty := by
  cases r <;> simp
theorem line63 : (sizeLine : Nat) < 2 ^ 63 := by rw [sizeLine_eq]; decide
theorem tru_ok : TruR X (fun x H Q => ∃ k, TruV X.K x H k ∧ Q k H) := by
  intro pins s σ H x v Q I rx h
  obtain ⟨k, e, q⟩ := h
  have hl := line63
  have hs : sizeLine = 16777216 := sizeLine_eq
  cases x with
  | non =>
    cases rx
    have e' : k = false := e
    subst e'
    exact truthy_none ⟨H, I, q⟩
  | bl b =>
    cases rx
    have e' : k = b := e
    subst e'
    exact wpAny_truthy_bool ⟨H, I, q⟩
  | int i =>
    obtain ⟨t, rfl⟩ := rx
    have e' : k = (i != 0) := e
    subst e'
    exact PySem.P.truthy_int ⟨H, I, q⟩
  | str y =>
    obtain ⟨t, rfl⟩ := rx
    obtain ⟨hy, e'⟩ : y.length ≤ sizeLine ∧ k = ((y.length : Int) != 0) := e
    subst e'
    exact PySem.P.truthy_str (by omega) ⟨H, I.tok _, q⟩
  | byt y =>
    obtain ⟨t, rfl⟩ := rx
    obtain ⟨hy, e'⟩ : y.size ≤ sizeLine ∧ k = ((y.size : Int) != 0) := e
    subst e'
    exact PySem.W.truthy_bytes (by omega) ⟨H, I.tok _, q⟩
  | ref p =>
    cases rx
    have e' : (∃ xs, SqL X.K H p xs ∧ k = !xs.isEmpty) ∨ (∃ xs, SqT X.K H p xs ∧ k = !xs.isEmpty) ∨ ∃ kvs, H p = some (.dK kvs) ∧ k = !kvs.isEmpty := e
    rcases e' with ⟨xs, hx, e'⟩ | ⟨xs, hx, e'⟩ | ⟨kvs, hx, e'⟩
    · subst e'
      obtain ⟨its, r, pl, hz⟩ := I.list hx
      have hlen := r.length
      exact wpAny_truthy_list pl.isList (by simp only [List.size_toArray]; omega) ⟨H, I.tok _, by rw [isEmpty_of r]; exact q⟩
    · subst e'
      obtain ⟨its, r, pl, hz⟩ := I.tuple hx
      have hlen := r.length
      exact truthy_tuple pl (by simp only [List.size_toArray]; omega) ⟨H, I.tok _, by rw [isEmpty_of r]; exact q⟩
    · subst e'
      obtain ⟨hz, hS, vs, r, m⟩ : kvs.length ≤ sizeLine ∧ (p == sysModules) = false ∧ ∃ vs, KV kvs vs ∧ s.heap.DictOf (mixKind X.prog X.w) p vs := I.hok p _ hx
      have hlen : kvs.length = vs.length := Paired.length r
      exact wpAny_truthy_dict hS m (by omega) ⟨H, I.tok _, by rw [isEmpty_kv r]; exact q⟩
  | _ => exact (show False from e).elim
/-- any expression whose test is its value's truth (a name, a call, a subscript, a field ..: he by fun _ => rfl) -/
theorem pt_truth (ha : PE X a ta) (he : ∀ whole, isTrue a X.env whole = (do let v ← whole; standAt a.pos; holding [v] (truthy v))) :
    PT X a (fun σ H Q => ta σ H fun x H' => ∃ k, TruV X.K x H' k ∧ Q k H') := by
  intro pins s σ H Q I h
  exact isTrue_plain (thn (ha pins s σ H _ I h) fun v s1 ⟨x, H1, I1, r1, q1⟩ => tru_ok pins s1 σ H1 x v Q I1 r1 q1) (he _)

/-! ### strs and bytes -/
theorem pe_byt {x : List UInt8} {k : Nat} : PE X (.Constant (.bytes x) k pos) (fun _ H Q => Q (.byt x.toArray) H) := fun _ _ _ H _ I h => PySem.W.Constant_bytes ⟨.byt x.toArray, H, I.tok _, ⟨_, rfl⟩, h⟩
theorem op_add_str : OpR X (binaryOp .Add) (fun x y H Q => ∃ i j, x = .str i ∧ y = .str j ∧ i.length + j.length ≤ sizeLine ∧ Q (.str (i ++ j)) H) := by
  intro pins s σ H x y v u Q I rx ry h
  obtain ⟨i, j, rfl, rfl, hz, q⟩ := h
  obtain ⟨t, rfl⟩ := rx
  obtain ⟨t', rfl⟩ := ry
  exact add_str (fun t' tk => ⟨.str (i ++ j), H, I.tok _, ⟨_, rfl⟩, q⟩) hz
theorem iop_add_str : OpR X (inplaceOp .Add) (fun x y H Q => ∃ i j, x = .str i ∧ y = .str j ∧ i.length + j.length ≤ sizeLine ∧ Q (.str (i ++ j)) H) := by
  intro pins s σ H x y v u Q I rx ry h
  obtain ⟨i, j, rfl, rfl, hz, q⟩ := h
  obtain ⟨t, rfl⟩ := rx
  obtain ⟨t', rfl⟩ := ry
  exact iadd_str (fun t' tk => ⟨.str (i ++ j), H, I.tok _, ⟨_, rfl⟩, q⟩) hz
theorem op_add_byt : OpR X (binaryOp .Add) (fun x y H Q => ∃ i j, x = .byt i ∧ y = .byt j ∧ i.size + j.size ≤ 16777216 ∧ Q (.byt (i ++ j)) H) := by
  intro pins s σ H x y v u Q I rx ry h
  obtain ⟨i, j, rfl, rfl, hz, q⟩ := h
  obtain ⟨t, rfl⟩ := rx
  obtain ⟨t', rfl⟩ := ry
  exact PySem.W.KBy.add_bytes hz (fun t' tk => ⟨.byt (i ++ j), H, I.tok _, ⟨_, rfl⟩, q⟩)

def PlainIxT (b : Expr) : Prop := ∀ o i, subscripted b false o i = operate [o, i] (getItem o i)
/-- s[i], 0 ≤ i < len -/
theorem pe_item_str (ha : PE X a ta) (hb : PE X b tb) (hs : PlainIxT b) :
    PE X (.Subscript a b pos) (tOp (fun x y H Q => ∃ z i c, x = .str z ∧ y = .int i ∧ 0 ≤ i ∧ i < 2 ^ 63 ∧ i < z.length ∧ z.cps[i.toNat]? = some c ∧ Q (.str ⟨#[c]⟩) H) ta tb) := by
  intro pins s σ H Q I h
  refine Subscript_ (binT ha hb I h fun v u s2 x y H2 I2 rx ry q => ?_)
  obtain ⟨z, i, c, rfl, rfl, h0, h63, h1, hc, q⟩ := q
  obtain ⟨t, rfl⟩ := rx
  obtain ⟨t', rfl⟩ := ry
  have e : seqIndex? i z.length = some i.toNat := PySem.StrLaws.seqIndex_nonneg h0 h1
  exact tail_any (typeIs_str s2 z t) slot_str_getitem.lookup (getItem_str (c := c) (by
    have e1 : decide (i < -(2 ^ 63 : Int)) = false := decide_eq_false (by omega)
    have e2 : decide (i ≥ 2 ^ 63) = false := decide_eq_false (by omega)
    rw [e1, e2] <;> rfl) (by rw [e]; exact hc) ⟨.str ⟨#[c]⟩, H2, I2.tok _, ⟨_, rfl⟩, q⟩) (hs _ _)
/-- b[i], 0 ≤ i < len -/
theorem pe_item_byt (ha : PE X a ta) (hb : PE X b tb) (hs : PlainIxT b) :
    PE X (.Subscript a b pos) (tOp (fun x y H Q => ∃ (z : List UInt8) (i : Int), x = .byt z.toArray ∧ y = .int i ∧ z.length ≤ sizeLine ∧ 0 ≤ i ∧ i < z.length ∧ Q (.int ((z.getD i.toNat 0).toNat : Nat)) H) ta tb) := by
  intro pins s σ H Q I h
  refine Subscript_ (binT ha hb I h fun v u s2 x y H2 I2 rx ry q => ?_)
  obtain ⟨z, i, rfl, rfl, hz, h0, h1, q⟩ := q
  obtain ⟨t, rfl⟩ := rx
  obtain ⟨t', rfl⟩ := ry
  have hl : sizeLine = 16777216 := sizeLine_eq
  exact tail_any (PySem.W.typeIs_bytes s2 z.toArray t) PySem.W.FB.slot_bytes_getitem.lookup (PySem.W.getItem_bytes (by omega) h0 h1 ⟨.int ((z.getD i.toNat 0).toNat : Nat), H2, I2.tok _, ⟨_, rfl⟩, q⟩) (hs _ _)

/-! ### scalar builtins, by CallR -/
theorem vals1 {x : V} {us : List Value} (r : Vals [x] us) : ∃ u, us = [u] ∧ RelV x u := by
  cases r with
  | cons r1 r2 => cases r2; exact ⟨_, rfl, r1⟩
theorem vals2 {x y : V} {us : List Value} (r : Vals [x, y] us) : ∃ u w', us = [u, w'] ∧ RelV x u ∧ RelV y w' := by
  cases r with
  | cons r1 r2 =>
    cases r2 with
    | cons r3 r4 => cases r4; exact ⟨_, _, rfl, r1, r3⟩
theorem call_abs : CallR X (.builtin "abs") (fun xs H Q => ∃ i, xs = [.int i] ∧ Q (.int (if i < 0 then -i else i)) H) := by
  intro pins s σ H xs us Q I r h
  obtain ⟨i, rfl, q⟩ := h
  obtain ⟨u, rfl, t, rfl⟩ := vals1 r
  exact call_abs_int fun u tk => ⟨.int (if i < 0 then -i else i), H, I.tok _, ⟨_, rfl⟩, q⟩
theorem call_max2 (hc : X.calm = true) : CallR X (.builtin "max") (fun xs H Q => ∃ i j, xs = [.int i, .int j] ∧ Q (.int (if j > i then j else i)) H) := by
  intro pins s σ H xs us Q I r h
  obtain ⟨i, j, rfl, q⟩ := h
  obtain ⟨u, w', rfl, ⟨t, rfl⟩, ⟨t', rfl⟩⟩ := vals2 r
  refine max_two_ints (I.ok.hd hc) fun h' tk k => ⟨_, H, I.kept k, ?_, q⟩
  by_cases hj : j > i
  · rw [if_pos hj, if_pos hj]; exact ⟨_, rfl⟩
  · rw [if_neg hj, if_neg hj]; exact ⟨_, rfl⟩
theorem call_min2 (hc : X.calm = true) : CallR X (.builtin "min") (fun xs H Q => ∃ i j, xs = [.int i, .int j] ∧ Q (.int (if j < i then j else i)) H) := by
  intro pins s σ H xs us Q I r h
  obtain ⟨i, j, rfl, q⟩ := h
  obtain ⟨u, w', rfl, ⟨t, rfl⟩, ⟨t', rfl⟩⟩ := vals2 r
  refine min_two_ints (I.ok.hd hc) fun h' tk k => ⟨_, H, I.kept k, ?_, q⟩
  by_cases hj : j < i
  · rw [if_pos hj, if_pos hj]; exact ⟨_, rfl⟩
  · rw [if_neg hj, if_neg hj]; exact ⟨_, rfl⟩
theorem call_int1 : CallR X (.type "int") (fun xs H Q => (∃ i, xs = [.int i] ∧ Q (.int i) H) ∨ ∃ k, xs = [.bl k] ∧ Q (.int (if k then 1 else 0)) H) := by
  intro pins s σ H xs us Q I r h
  rcases h with ⟨i, rfl, q⟩ | ⟨k, rfl, q⟩
  · obtain ⟨u, rfl, t, rfl⟩ := vals1 r
    exact call_int_int ⟨.int i, H, I, ⟨_, rfl⟩, q⟩
  · obtain ⟨u, rfl, r1⟩ := vals1 r
    cases r1
    exact call_int_bool ⟨.int (if k then 1 else 0), H, I.tok _, ⟨_, rfl⟩, q⟩
theorem call_bool1 : CallR X (.type "bool") (fun xs H Q => (∃ i, xs = [.int i] ∧ Q (.bl (i != 0)) H) ∨ ∃ k, xs = [.bl k] ∧ Q (.bl k) H) := by
  intro pins s σ H xs us Q I r h
  rcases h with ⟨i, rfl, q⟩ | ⟨k, rfl, q⟩
  · obtain ⟨u, rfl, t, rfl⟩ := vals1 r
    exact call_bool_int ⟨.bl (i != 0), H, I, rfl, q⟩
  · obtain ⟨u, rfl, r1⟩ := vals1 r
    cases r1
    exact call_bool_bool ⟨.bl k, H, I, rfl, q⟩
theorem call_str_int : CallR X (.type "str") (fun xs H Q => ∃ i, xs = [.int i] ∧ i.natAbs.log2 < 1920 ∧ Q (.str (toString i)) H) := by
  intro pins s σ H xs us Q I r h
  obtain ⟨i, rfl, hz, q⟩ := h
  obtain ⟨u, rfl, t, rfl⟩ := vals1 r
  exact PySem.P.str_of_int hz ⟨.str _, H, I.tok _, ⟨_, rfl⟩, q⟩
theorem call_ord : CallR X (.builtin "ord") (fun xs H Q => ∃ x, xs = [.str x] ∧ x.length = 1 ∧ Q (.int (x.cps.getD 0 0 : Nat)) H) := by
  intro pins s σ H xs us Q I r h
  obtain ⟨x, rfl, hz, q⟩ := h
  obtain ⟨u, rfl, t, rfl⟩ := vals1 r
  exact ord_of_one hz ⟨.int _, H, I.tok _, ⟨_, rfl⟩, q⟩
theorem call_chr : CallR X (.builtin "chr") (fun xs H Q => ∃ i, xs = [.int i] ∧ 0 ≤ i ∧ i ≤ 1114111 ∧ Q (.str ⟨#[i.toNat]⟩) H) := by
  intro pins s σ H xs us Q I r h
  obtain ⟨i, rfl, h0, h1, q⟩ := h
  obtain ⟨u, rfl, t, rfl⟩ := vals1 r
  exact chr_of_range h0 h1 ⟨.str _, H, I.tok _, ⟨_, rfl⟩, q⟩
/-- len of a str, a bytes, a list, a tuple -/
def LenV (K : PySem.W.Frag) (x : V) (H : Hp) (n : Nat) : Prop :=
  match x with
  | .str y => y.length ≤ sizeLine ∧ n = y.length
  | .byt y => y.size ≤ sizeLine ∧ n = y.size
  | .ref p => (∃ xs, SqL K H p xs ∧ n = xs.length) ∨ ∃ xs, SqT K H p xs ∧ n = xs.length
  | _ => False
theorem call_len : CallR X (.builtin "len") (fun xs H Q => ∃ x n, xs = [x] ∧ LenV X.K x H n ∧ Q (.int n) H) := by
  intro pins s σ H xs us Q I r h
  obtain ⟨x, n, rfl, e, q⟩ := h
  obtain ⟨u, rfl, rx⟩ := vals1 r
  have hl := line63
  have hs : sizeLine = 16777216 := sizeLine_eq
  cases x with
  | str y =>
    obtain ⟨t, rfl⟩ := rx
    obtain ⟨hy, e'⟩ : y.length ≤ sizeLine ∧ n = y.length := e
    subst e'
    exact len_str (by omega) ⟨.int _, H, I.tok _, ⟨_, rfl⟩, q⟩
  | byt y =>
    obtain ⟨t, rfl⟩ := rx
    obtain ⟨hy, e'⟩ : y.size ≤ sizeLine ∧ n = y.size := e
    subst e'
    exact PySem.W.len_bytes (by omega) ⟨.int _, H, I.tok _, ⟨_, rfl⟩, q⟩
  | ref p =>
    cases rx
    have e' : (∃ xs, SqL X.K H p xs ∧ n = xs.length) ∨ ∃ xs, SqT X.K H p xs ∧ n = xs.length := e
    rcases e' with ⟨xs, hx, e'⟩ | ⟨xs, hx, e'⟩
    · subst e'
      obtain ⟨its, r', pl, hz⟩ := I.list hx
      have hlen := r'.length
      exact Calls.call_len_list pl.isList (by simp only [List.size_toArray]; omega) ⟨.int xs.length, H, I.tok _, ⟨_, by simp only [List.size_toArray]; rw [hlen]⟩, q⟩
    · subst e'
      obtain ⟨its, r', pl, hz⟩ := I.tuple hx
      have hlen := r'.length
      exact len_tuple pl (by simp only [List.size_toArray]; omega) ⟨.int xs.length, H, I.tok _, ⟨_, by simp only [List.size_toArray]; rw [hlen]⟩, q⟩
  | _ => exact (show False from e).elim
/-- divmod: a new tuple -/
theorem call_divmod : CallR X (.builtin "divmod") (fun xs H Q => ∃ i j, xs = [.int i, .int j] ∧ CDiv i j ∧ ∀ p, H p = none → Q (.ref p) (upd H p (.tup [.int (i / j), .int (i % j)]))) := by
  intro pins s σ H xs us Q I r h
  obtain ⟨i, j, rfl, ⟨h1, h2⟩, q⟩ := h
  obtain ⟨u, w', rfl, ⟨t, rfl⟩, ⟨t', rfl⟩⟩ := vals2 r
  refine divmod_int (by omega) ?_ (.inl (PyProof.noPylong_small (by omega)))
  rw [Int.fdiv_eq_ediv_of_nonneg i (by omega), Int.fmod_eq_emod_of_nonneg i (by omega)]
  have hn : H s.heap.objs.size = none := I.hok.fresh (Nat.le_refl _)
  refine ⟨.ref s.heap.objs.size, _, ?_, rfl, q _ hn⟩
  refine I.laid (fun b o e => Heap.get?_push_of_some _ e) (Nat.le_refl _) ⟨by simp only [List.length_cons, List.length_nil]; rw [sizeLine_eq]; decide, [.int (i / j) s.toks, .int (i % j) (s.toks + 1)], .cons ⟨_, rfl⟩ (.cons ⟨_, rfl⟩ .nil), ?_⟩
  exact ⟨_, Heap.get?_push_size s.heap rfl, rfl, 0, rfl⟩
end
end L2

namespace L2
open PySem PySem.Spec PyProof.Rows

/-! ### an instance, its attributes a map -/
structure ObjM (h : Heap) (x dx C : Addr) (mA : Str → Option Value) : Prop where
  obj : h.get? x = some (PySem.W.instObj C dx)
  ns : h.Ns1 dx mA
  ne : dx ≠ x

theorem lookIn_ns {h : Heap} {dx : Addr} {mA : Str → Option Value} (n : h.Ns1 dx mA) : ∃ od, h.get? dx = some od ∧ ∀ name, PySem.W.lookIn name od = some (mA name) := by
  obtain ⟨o, es, ep, ho, hd, hk, _, hm⟩ := n
  refine ⟨o, ho, fun name => ?_⟩
  have e := hm name
  unfold nsFind findBy at e
  rw [← Array.find?_toList] at e
  unfold PySem.W.lookIn
  rw [hd]
  dsimp only
  split
  · rename_i y q
    rw [q] at e
    exact congrArg some e
  · rename_i q
    rw [q] at e
    have a : es.toList.any (·.refKey) = false := by
      rw [List.any_eq_false]
      intro y hy
      obtain ⟨z, t, hkey⟩ := hk y (Array.mem_toList_iff.mp hy)
      simp [DictEntry.refKey, hkey]
    have a' : ¬ es.toList.any (·.refKey) = true := by rw [a]; exact Bool.false_ne_true
    rw [if_neg a']
    exact congrArg some e

theorem ObjM.look {h : Heap} {x dx C : Addr} {mA : Str → Option Value} (I : ObjM h x dx C mA) : ∃ od, PySem.W.InstAt h x (PySem.W.instObj C dx) C (some od) ∧ ∀ name, PySem.W.lookIn name od = some (mA name) :=
  let ⟨od, ho, hl⟩ := lookIn_ns I.ns
  ⟨od, ⟨I.obj, rfl, rfl, ho⟩, hl⟩

section
variable {prog : Program} {w : World} {A : Around} {E : Value → Shared → Prop} {s : Shared} {K : PySem.W.Frag} {x dx C f : Addr} {mA : Str → Option Value} {name : Str} {v : Value}

theorem get_map {expr : Bool} {Q : Value → Shared → Prop} (X : K.In s.heap) (I : ObjM s.heap x dx C mA) (hg : PySem.W.plainGet K C name = true) (hh : PySem.W.hasDictIn K C = true)
    (ha : PySem.W.findIn K (.ref C) name = some none) (hv : mA name = some v) (hv' : PySem.W.handedIn v = true) (h : Q v { s with toks := s.toks + 1 }) :
    wpAny (model prog w) A (getAttr (.ref x) name expr) Q E s := by
  obtain ⟨od, J, hl⟩ := I.look
  exact PySem.W.get_value X J (PySem.W.plainGet_of hg).1 (PySem.W.findObj_own hh ha rfl (by rw [hl, hv])) hv' h

theorem get_const {expr : Bool} {a : Value} {Q : Value → Shared → Prop} (X : K.In s.heap) (I : ObjM s.heap x dx C mA) (hg : PySem.W.plainGet K C name = true) (hh : PySem.W.hasDictIn K C = true)
    (ha : PySem.W.findIn K (.ref C) name = some (some a)) (hn : PySem.W.specialIn K a "__get__" = some none) (hc : PySem.W.copiedNames.contains name = false) (hv : mA name = none) (hv' : PySem.W.handedIn a = true)
    (h : Q a { s with toks := s.toks + 1 }) : wpAny (model prog w) A (getAttr (.ref x) name expr) Q E s := by
  obtain ⟨od, J, hl⟩ := I.look
  exact PySem.W.get_value X J (PySem.W.plainGet_of hg).1 (PySem.W.findObj_cls hh ha hn hv' hc (by rw [hl, hv])) hv' h

theorem get_meth {pl : Sem Bool} {Q : Value × List Value → Shared → Prop} (X : K.In s.heap) (I : ObjM s.heap x dx C mA) (hg : PySem.W.plainGet K C name = true)
    (hf : PySem.W.findIn K (.ref C) name = some (some (.ref f))) (ht : PySem.W.isFn K (.ref f) = true) (hv : mA name = none) (h : Q (.ref f, [.ref x]) s) :
    wpAny (model prog w) A (getMethod (.ref x) name pl) Q E s := by
  obtain ⟨od, J, hl⟩ := I.look
  exact PySem.W.method_fn X J (PySem.W.plainGet_of hg).1 (PySem.W.plainGet_of hg).2 hf (beq_iff_eq.mp ht) (by show (PySem.W.lookIn name od).map (·.isSome) = some false; rw [hl, hv]; rfl) h

theorem set_map {ns : List Str} {Q : Unit → Shared → Prop} (X : K.In s.heap) (I : ObjM s.heap x dx C mA)
    (hs : PySem.W.findIn K (.ref C) "__setattr__" = some (some (.builtin "object.__setattr__"))) (hp : PySem.W.plainOver K C = true) (ht : PySem.W.takerIn K C name = some none) (hh : PySem.W.hasDictIn K C = true)
    (hw : PySem.Within mA ns) (hsz : ns.length ≤ sizeLine)
    (h : ∀ h', ObjM h' x dx C (fun y => if y = name then some v else mA y) → Heap.SameBut dx s.heap h' → Q () { s with heap := h', toks := s.toks + 2 }) :
    wpAny (model prog w) A (setAttr (.ref x) name v) Q E s := by
  obtain ⟨od, J, hl⟩ := I.look
  refine PySem.W.set_plain X J hs (PySem.W.osa_open (s := { s with toks := s.toks + 1 }) (r := none) X J hp ht fun b => ?_)
  obtain ⟨cd, hc, hd'⟩ := PySem.W.any_some hh
  have hx : s.heap.get? x = some ⟨.ref C, some dx, .plain, #[]⟩ := I.obj
  refine wpAny_bind (wpAny_pure (wpAny_bind (wpAny_bind (wpAny_loadPart hx (wpAny_bind (PySem.W.Looks.here (s := { s with toks := s.toks + 1 }) (PySem.W.looks_clsIn X hc) ?_))))))
  rw [hd']
  refine wpAny_pure (a := some dx) (wpAny_bind (wpAny_pure (wpAny_bind ?_)))
  refine wpAny_nsSet1 (s := { s with toks := s.toks + 1 }) I.ns fun h' hn2 hs2 => ?_
  obtain ⟨oD, esD, epD, hoD, hdD, hcD⟩ := hn2.count (PySem.Within.cons name v hw)
  refine wpAny_bind (wpAny_lookBehind hoD (by rw [hdD]; exact pastItsLine_dict (Nat.le_trans hcD (by rw [List.length_cons]; omega))) ?_)
  exact wpAny_pure (h _ ⟨(hs2.2 _ (Ne.symm I.ne)).trans I.obj, hn2, I.ne⟩ hs2)

/-- C(..): the dict at the heap's end, the instance behind it; then its __init__ -/
theorem make_map {R : Result → Shared → Prop} {vs : List Value} {kw : List (Str × Value)} (X : K.In s.heap) (hm : PySem.W.makesIn K C = true)
    (hi : PySem.W.findIn K (.ref C) "__init__" = some (some (.ref f))) (hf : PySem.W.typeIn K (.ref f) = some (.type "function"))
    (h : codeAny (model prog w) (A.under (.builtin "type.__call__" ⟨.ref C :: vs, kw⟩)) (.call (.ref f) ⟨.ref (s.heap.objs.size + 1) :: vs, kw⟩) (PySem.W.InitBack (s.heap.objs.size + 1) R)
      { s with heap := (s.heap.push PySem.W.emptyDict).push (PySem.W.instObj C s.heap.objs.size) }) :
    codeAny (model prog w) A (.call (.ref C) ⟨vs, kw⟩) R s := by
  obtain ⟨hh, g, d, t, os⟩ := s
  exact PySem.W.make_core (PySem.W.makes_of X hm) (PySem.W.looks_findIn X hi) (fun self => PySem.W.bind_fn X self hf) (.inl rfl) h
/-- C() where there is no __init__ but object's -/
theorem make_map0 {R : Result → Shared → Prop} (X : K.In s.heap) (hm : PySem.W.makesIn K C = true)
    (hi : PySem.W.findIn K (.ref C) "__init__" = some (some (.builtin "object.__init__")))
    (hb : ∀ self, PySem.W.Looks (model prog w) s.heap (bindSpecial (.builtin "object.__init__") self) (.builtin "object.__init__", [self]))
    (h : codeAny (model prog w) (A.under (.builtin "type.__call__" ⟨[.ref C], []⟩)) (.call (.builtin "object.__init__") ⟨[.ref (s.heap.objs.size + 1)], []⟩) (PySem.W.InitBack (s.heap.objs.size + 1) R)
      { s with heap := (s.heap.push PySem.W.emptyDict).push (PySem.W.instObj C s.heap.objs.size) }) :
    codeAny (model prog w) A (.call (.ref C) ⟨[], []⟩) R s := by
  obtain ⟨hh, g, d, t, os⟩ := s
  exact PySem.W.make_core (PySem.W.makes_of X hm) (PySem.W.looks_findIn X hi) hb (.inr ⟨rfl, rfl⟩) h
end

/-! ### the attributes as a list of pairs -/
def putF (f : Str) (v : V) : List (Str × V) → List (Str × V)
  | [] => [(f, v)]
  | (g, x) :: r => if g = f then (g, v) :: r else (g, x) :: putF f v r
theorem lookup_putF (f g : Str) (v : V) : ∀ fs : List (Str × V), (putF f v fs).lookup g = if g = f then some v else fs.lookup g
  | [] => by
    show List.lookup g [(f, v)] = _
    by_cases h : g = f
    · have hb : (g == f) = true := beq_iff_eq.mpr h
      simp only [List.lookup, hb, if_pos h]
    · have hb : (g == f) = false := beq_eq_false_iff_ne.mpr h
      simp only [List.lookup, hb, if_neg h]
  | (k, x) :: r => by
    have ih := lookup_putF f g v r
    rw [show putF f v ((k, x) :: r) = (if k = f then (k, v) :: r else (k, x) :: putF f v r) from rfl]
    by_cases hk : k = f
    · rw [if_pos hk]
      by_cases h : g = k
      · have hb : (g == k) = true := beq_iff_eq.mpr h
        simp only [List.lookup, hb, if_pos (h.trans hk)]
      · have hb : (g == k) = false := beq_eq_false_iff_ne.mpr h
        simp only [List.lookup, hb, if_neg (fun e : g = f => h (e.trans hk.symm))]
    · rw [if_neg hk]
      by_cases h : g = k
      · have hb : (g == k) = true := beq_iff_eq.mpr h
        simp only [List.lookup, hb, if_neg (fun e : g = f => hk (h.symm.trans e))]
      · have hb : (g == k) = false := beq_eq_false_iff_ne.mpr h
        simp only [List.lookup, hb]
        exact ih
theorem keys_putF (f : Str) (v : V) : ∀ fs : List (Str × V), f ∈ (putF f v fs).map (·.1) ∧ ∀ g, g ∈ fs.map (·.1) → g ∈ (putF f v fs).map (·.1)
  | [] => ⟨by simp [putF], fun g h => by simp at h⟩
  | (k, x) :: r => by
    obtain ⟨i1, i2⟩ := keys_putF f v r
    rw [show putF f v ((k, x) :: r) = (if k = f then (k, v) :: r else (k, x) :: putF f v r) from rfl]
    by_cases hk : k = f
    · rw [if_pos hk]
      subst hk
      exact ⟨by simp, fun g h => by simpa using h⟩
    · rw [if_neg hk]
      refine ⟨?_, fun g h => ?_⟩
      · rw [List.map_cons]
        exact List.mem_cons_of_mem _ i1
      · rw [List.map_cons] at h ⊢
        rcases List.mem_cons.mp h with e | e
        · exact List.mem_cons.mpr (.inl e)
        · exact List.mem_cons_of_mem _ (i2 g e)
theorem length_putF (f : Str) (v : V) : ∀ fs : List (Str × V), (putF f v fs).length ≤ fs.length + 1
  | [] => by simp [putF]
  | (k, x) :: r => by
    have ih := length_putF f v r
    rw [show putF f v ((k, x) :: r) = (if k = f then (k, v) :: r else (k, x) :: putF f v r) from rfl]
    by_cases hk : k = f
    · rw [if_pos hk, List.length_cons, List.length_cons]; omega
    · rw [if_neg hk, List.length_cons, List.length_cons]; omega

theorem RelO.some_of {v : V} {o : Option Value} (r : RelO (some v) o) : ∃ u, o = some u ∧ RelV v u := by
  cases o with
  | none => exact (show False from r).elim
  | some u => exact ⟨u, rfl, r⟩
theorem RelO.none_of {o : Option Value} (r : RelO none o) : o = none := by
  cases o with
  | none => rfl
  | some u => exact (show False from r).elim
theorem handed_of {v : V} {u : Value} (r : RelV v u) : PySem.W.handedIn u = true := by
  cases v with
  | non => cases (show u = Value.none from r); rfl
  | bl b => cases (show u = Value.bool b from r); rfl
  | int i => obtain ⟨t, e⟩ := (show ∃ t, u = Value.int i t from r); cases e; rfl
  | str x => obtain ⟨t, e⟩ := (show ∃ t, u = Value.str x t from r); cases e; rfl
  | byt b => obtain ⟨t, e⟩ := (show ∃ t, u = Value.bytes b t from r); cases e; rfl
  | flt b => obtain ⟨t, e⟩ := (show ∃ t, u = Value.float b t from r); cases e; rfl
  | ref a => cases (show u = Value.ref a from r); rfl
  | ty n => cases (show u = Value.type n from r); rfl

section
variable {P : Program} {w : World} {H H' : Hp} {h h' : Heap} {a C dx : Addr} {fs fs' : List (Str × V)}
theorem ins_get (hok : HOk P w H h) (e : H a = some (.ins C dx fs)) : ∃ mA, ObjM h a dx C mA ∧ (∀ f, RelO (fs.lookup f) (mA f)) ∧ PySem.Within mA (fs.map (·.1)) ∧ fs.length ≤ 1000 ∧ H dx = some (.own a) := by
  obtain ⟨d, z, ne, ob, mA, n, r, q⟩ := (show ObjOk P w H h a (.ins C dx fs) from hok a _ e)
  exact ⟨mA, ⟨ob, n, ne⟩, r, q, z, d⟩
end

/-! ### what of the text a class must have -/
structure Cls (K : PySem.W.Frag) (C : Addr) : Prop where
  pg : PySem.W.plainGet K C Str.empty = true
  hd : PySem.W.hasDictIn K C = true
  po : PySem.W.plainOver K C = true
  sa : PySem.W.findIn K (.ref C) "__setattr__" = some (some (.builtin "object.__setattr__"))
theorem Cls.get {K : PySem.W.Frag} {C : Addr} (c : Cls K C) (f : Str) : PySem.W.plainGet K C f = true := c.pg
/-- no class of it has the name -/
def NoAttr (K : PySem.W.Frag) (C : Addr) (f : Str) : Prop := PySem.W.findIn K (.ref C) f = some none
theorem NoAttr.taker {K : PySem.W.Frag} {C : Addr} {f : Str} (n : NoAttr K C f) : PySem.W.takerIn K C f = some none := by
  unfold PySem.W.takerIn
  rw [show PySem.W.findIn K (.ref C) f = some none from n]
  rfl
/-- a constant of the class -/
structure Con (K : PySem.W.Frag) (C : Addr) (f : Str) (v : V) (u : Value) : Prop where
  at_ : PySem.W.findIn K (.ref C) f = some (some u)
  rel : RelV v u
  get : PySem.W.specialIn K u "__get__" = some none
  cp : PySem.W.copiedNames.contains f = false
/-- a method: a plain def of the class or of one above it -/
structure Meth (K : PySem.W.Frag) (C : Addr) (m : Str) (f : Addr) : Prop where
  at_ : PySem.W.findIn K (.ref C) m = some (some (.ref f))
  fn : PySem.W.isFn K (.ref f) = true
  kp : PySem.W.keepIn K (.ref f) = true

section
variable {X : Cx} {pins : List (Addr × Obj)} {σ : St} {H : Hp} {s : Shared} {a C dx : Addr} {fs : List (Str × V)} {f : Str} {v : V} {A : Around} {E : Value → Shared → Prop}

theorem getattr_ok {b : Bool} {Q : Value → Shared → Prop} (I : Inv X pins σ H s) (e : H a = some (.ins C dx fs)) (c : Cls X.K C) (n : NoAttr X.K C f) (l : fs.lookup f = some v)
    (h : ∀ u s', Inv X pins σ H s' → RelV v u → Q u s') : wpAny (model X.prog X.w) A (getAttr (.ref a) f b) Q E s := by
  obtain ⟨mA, O, r, _, _, _⟩ := ins_get I.hok e
  obtain ⟨u, hu, ru⟩ := RelO.some_of (v := v) (o := mA f) (by rw [← l]; exact r f)
  exact get_map I.kIn O (c.get f) c.hd n hu (handed_of ru) (h u _ (I.tok _) ru)

theorem getcon_ok {b : Bool} {u : Value} {Q : Value → Shared → Prop} (I : Inv X pins σ H s) (e : H a = some (.ins C dx fs)) (c : Cls X.K C) (k : Con X.K C f v u) (l : fs.lookup f = none)
    (h : ∀ s', Inv X pins σ H s' → Q u s') : wpAny (model X.prog X.w) A (getAttr (.ref a) f b) Q E s := by
  obtain ⟨mA, O, r, _, _, _⟩ := ins_get I.hok e
  have hn : mA f = none := RelO.none_of (by rw [← l]; exact r f)
  exact get_const I.kIn O (c.get f) c.hd k.at_ k.get k.cp hn (handed_of k.rel) (h _ (I.tok _))

theorem getmeth_ok {m : Str} {g : Addr} {pl : Sem Bool} {Q : Value × List Value → Shared → Prop} (I : Inv X pins σ H s) (e : H a = some (.ins C dx fs)) (c : Cls X.K C) (k : Meth X.K C m g) (l : fs.lookup m = none)
    (h : Q (.ref g, [.ref a]) s) : wpAny (model X.prog X.w) A (getMethod (.ref a) m pl) Q E s := by
  obtain ⟨mA, O, r, _, _, _⟩ := ins_get I.hok e
  have hn : mA m = none := RelO.none_of (by rw [← l]; exact r m)
  exact get_meth I.kIn O (c.get m) k.at_ k.fn hn h

theorem setattr_ok {y : V} {u : Value} {Q : Unit → Shared → Prop} (I : Inv X pins σ H s) (e : H a = some (.ins C dx fs)) (c : Cls X.K C) (n : NoAttr X.K C f) (hl : fs.length < 1000) (ry : RelV y u)
    (h : ∀ s', Inv X pins σ (upd H a (.ins C dx (putF f y fs))) s' → Q () s') : wpAny (model X.prog X.w) A (setAttr (.ref a) f u) Q E s := by
  obtain ⟨mA, O, r, wi, _, ho⟩ := ins_get I.hok e
  have hz : (fs.map (·.1)).length ≤ sizeLine := by rw [List.length_map, sizeLine_eq]; omega
  refine set_map I.kIn O c.sa c.po n.taker c.hd wi hz fun h' O' sb => h _ ?_
  have hd : ∃ o, h'.get? dx = some o := let ⟨o, _, _, e', _⟩ := O'.ns; ⟨o, e'⟩
  refine I.write (x := a) (e := dx) (by rw [e]; exact True.intro) (.inr ho) (fun b q hb z => (sb.2 b hb).trans z) hd ?_
  refine ⟨by rw [upd_ne O.ne]; exact ho, ?_, O.ne, O'.obj, _, O'.ns, fun g => ?_, fun g hg => ?_⟩
  · have := length_putF f y fs; omega
  · show RelO ((putF f y fs).lookup g) (if g = f then some u else mA g)
    rw [lookup_putF]
    by_cases q : g = f
    · rw [if_pos q, if_pos q]; exact ry
    · rw [if_neg q, if_neg q]; exact r g
  · by_cases q : g = f
    · rw [q]; exact (keys_putF f y fs).1
    · refine (keys_putF f y fs).2 g (wi g fun z => hg ?_)
      show (if g = f then some u else mA g) = none
      rw [if_neg q]; exact z

/-- a new instance, tracked, without attributes -/
theorem Inv.made (I : Inv X pins σ H s) : Inv X pins σ (upd (upd H s.heap.objs.size (.own (s.heap.objs.size + 1))) (s.heap.objs.size + 1) (.ins C s.heap.objs.size []))
    { s with heap := (s.heap.push PySem.W.emptyDict).push (PySem.W.instObj C s.heap.objs.size) } := by
  have e1 : (s.heap.push PySem.W.emptyDict).get? s.heap.objs.size = some PySem.W.emptyDict := Heap.get?_push_size s.heap rfl
  have e2 : ((s.heap.push PySem.W.emptyDict).push (PySem.W.instObj C s.heap.objs.size)).get? (s.heap.objs.size + 1) = some (PySem.W.instObj C s.heap.objs.size) := by
    have := Heap.get?_push_size (s.heap.push PySem.W.emptyDict) (o := PySem.W.instObj C s.heap.objs.size) rfl
    rwa [Heap.size_push] at this
  have e3 : (s.heap.push PySem.W.emptyDict).Ns s.heap.objs.size (fun _ => none) := ⟨PySem.W.emptyDict, #[], _, e1, rfl, (fun e he => absurd he (by simp)), fun _ => rfl⟩
  have I1 := I.laid (a := s.heap.objs.size) (o := .own (s.heap.objs.size + 1)) (h' := s.heap.push PySem.W.emptyDict) (t' := s.toks) (fun b u q => Heap.get?_push_of_some _ q) (Nat.le_refl _) ⟨_, e1⟩
  refine I1.laid (a := s.heap.objs.size + 1) (o := .ins C s.heap.objs.size []) (t' := s.toks) (fun b u q => Heap.get?_push_of_some _ q) (Nat.le_of_eq (Heap.size_push _ _)) ?_
  have ne : s.heap.objs.size ≠ s.heap.objs.size + 1 := Nat.ne_of_lt (Nat.lt_succ_self _)
  refine ⟨by rw [upd_ne ne, upd_same], Nat.zero_le _, ne, e2, fun _ => none, (Heap.Ns1.of_empty e3).at fun o q => Heap.get?_push_of_some _ q, fun _ => True.intro, fun y hy => absurd rfl hy⟩

/-- e.f where nothing but the object is asked: through attributeBase (super) and the last hold -/
theorem attr_of {prog : Program} {w : World} {env : Env} {e : Expr} {f : Str} {pos : Pos} {s : Shared} {Q : Value → Shared → Prop} (hb : attributeBase e f env (eval e env) = eval e env)
    (h : wpAny (model prog w) A (eval e env) (fun o s₁ => wpAny (model prog w) A (getAttr o f true) Q E s₁) E s) : wpAny (model prog w) A (eval (.Attribute e f pos) env) Q E s :=
  Attribute_any_ h (by rw [arm_eval_Attribute, hb])
end

/-! ### readings and rules -/
/-- e.f, an attribute of the instance -/
def tFld (K : PySem.W.Frag) (ta : TE) (f : Str) : TE := fun σ H Q => ta σ H fun x H1 => ∃ a C dx fs v, x = .ref a ∧ H1 a = some (.ins C dx fs) ∧ Cls K C ∧ NoAttr K C f ∧ fs.lookup f = some v ∧ Q v H1
/-- e.f, a constant of the class -/
def tCon (K : PySem.W.Frag) (ta : TE) (f : Str) : TE := fun σ H Q => ta σ H fun x H1 => ∃ a C dx fs v u, x = .ref a ∧ H1 a = some (.ins C dx fs) ∧ Cls K C ∧ Con K C f v u ∧ fs.lookup f = none ∧ Q v H1
/-- e.f = value -/
def sFld (K : PySem.W.Frag) (ta tv : TE) (f : Str) : TS := fun D σ H => tv σ H fun y H1 => ta σ H1 fun x H2 => ∃ a C dx fs, x = .ref a ∧ H2 a = some (.ins C dx fs) ∧ Cls K C ∧ NoAttr K C f ∧ fs.length < 1000 ∧
  D.nx σ (upd H2 a (.ins C dx (putF f y fs)))
/-- an augmented operator on two values -/
def InOp (X : Cx) (op : Operator) (rd : V → V → Hp → VK → Prop) : Prop :=
  ∀ (pins : List (Addr × Obj)) (s : Shared) (σ : St) (H : Hp) (x y : V) (u v : Value) (Q : VK), Inv X pins σ H s → RelV x u → RelV y v → rd x y H Q → wpAny (model X.prog X.w) X.A (inplaceOp op u v) (EP X pins σ Q) X.xe s
/-- e.f op= value -/
def sFldAug (K : PySem.W.Frag) (ta tv : TE) (rd : V → V → Hp → VK → Prop) (f : Str) : TS := fun D σ H => ta σ H fun x H1 => ∃ a C dx fs v, x = .ref a ∧ H1 a = some (.ins C dx fs) ∧ Cls K C ∧ NoAttr K C f ∧ fs.lookup f = some v ∧
  tv σ H1 fun y H2 => rd v y H2 fun z H3 => ∃ dx' fs', H3 a = some (.ins C dx' fs') ∧ fs'.length < 1000 ∧ D.nx σ (upd H3 a (.ins C dx' (putF f z fs')))

section
variable {X : Cx} {o e value : Expr} {f : Str} {pos pos' tpos : Pos} {ta tv : TE}
theorem pe_fld (he : PE X e ta) (hb : attributeBase e f X.env (eval e X.env) = eval e X.env) : PE X (.Attribute e f pos) (tFld X.K ta f) := by
  intro pins s σ H Q I h
  refine attr_of hb (thn (he pins s σ H _ I h) fun u s1 ⟨x, H1, I1, rx, a, C, dx, fs, v, ex, ea, c, n, l, q⟩ => ?_)
  subst ex
  obtain rfl : u = Value.ref a := rx
  exact getattr_ok I1 ea c n l fun u' s2 I2 ru => ⟨v, H1, I2, ru, q⟩
theorem pe_con (he : PE X e ta) (hb : attributeBase e f X.env (eval e X.env) = eval e X.env) : PE X (.Attribute e f pos) (tCon X.K ta f) := by
  intro pins s σ H Q I h
  refine attr_of hb (thn (he pins s σ H _ I h) fun u s1 ⟨x, H1, I1, rx, a, C, dx, fs, v, u0, ex, ea, c, k, l, q⟩ => ?_)
  subst ex
  obtain rfl : u = Value.ref a := rx
  exact getcon_ok I1 ea c k l fun s2 I2 => ⟨v, H1, I2, k.rel, q⟩
theorem ps_fld (ha : PE X o ta) (hv : PE X value tv) (hs : swapsWith value (some (.Attribute o f pos')) pos.line X.env = pure false) : PS X (.Assign [.Attribute o f pos'] value pos) (sFld X.K ta tv f) := by
  intro pins s σ H D I h
  refine plainObj_wpAny_Assign_Attribute (thn (hv pins s σ H _ I h) fun u s1 ⟨y, H1, I1, ry, q⟩ => thn (ha pins s1 σ H1 _ I1 q) fun ov s2 ⟨x, H2, I2, rx, a, C, dx, fs, ex, ea, c, n, l, q2⟩ => ?_) hs
  subst ex
  obtain rfl : ov = Value.ref a := rx
  exact setattr_ok I2 ea c n l ry fun s3 I3 => ⟨σ, _, I3, q2⟩
theorem ps_fldaug {op : Operator} {rd : V → V → Hp → VK → Prop} (ha : PE X o ta) (hv : PE X value tv) (hop : InOp X op rd) : PS X (.AugAssign (.Attribute o f tpos) op value pos) (sFldAug X.K ta tv rd f) := by
  intro pins s σ H D I h
  refine wpAny_AugAssign_AttributeAny (thn (ha pins s σ H _ I h) fun ov s1 ⟨x, H1, I1, rx, a, C, dx, fs, v, ex, ea, c, n, l, q⟩ => ?_)
  subst ex
  obtain rfl : ov = Value.ref a := rx
  refine getattr_ok I1 ea c n l fun u s2 I2 ru => thn (hv pins s2 σ H1 _ I2 q) fun w3 s3 ⟨y, H2, I3, ry, q3⟩ => thn (hop pins s3 σ H2 v y u w3 _ I3 ru ry q3) fun w4 s4 ⟨z, H3, I4, rz, dx', fs', ea', l', q4⟩ => ?_
  exact setattr_ok I4 ea' c n l' rz fun s5 I5 => ⟨σ, _, I5, q4⟩
def rAdd : V → V → Hp → VK → Prop := fun x y H Q => ∃ i j, x = .int i ∧ y = .int j ∧ Q (.int (i + j)) H
def rSub : V → V → Hp → VK → Prop := fun x y H Q => ∃ i j, x = .int i ∧ y = .int j ∧ Q (.int (i - j)) H
theorem in_add : InOp X .Add rAdd := by
  rintro pins s σ H x y u v Q I rx ry ⟨i, j, rfl, rfl, q⟩
  obtain ⟨t, rfl⟩ := (show ∃ t, u = Value.int i t from rx)
  obtain ⟨t', rfl⟩ := (show ∃ t', v = Value.int j t' from ry)
  exact PyProof.Rows.iadd_int ⟨.int (i + j), H, I.tok _, ⟨_, rfl⟩, q⟩
theorem in_sub : InOp X .Sub rSub := by
  rintro pins s σ H x y u v Q I rx ry ⟨i, j, rfl, rfl, q⟩
  obtain ⟨t, rfl⟩ := (show ∃ t, u = Value.int i t from rx)
  obtain ⟨t', rfl⟩ := (show ∃ t', v = Value.int j t' from ry)
  exact PyProof.Rows.isub_int ⟨.int (i - j), H, I.tok _, ⟨_, rfl⟩, q⟩

/-- what is between an instance and its method: the tree of a method call -/
theorem methcall_of {pl : Sem Bool} {m : Str} {apos : Pos} {args : List Expr} {pins : List (Addr × Obj)} {s : Shared} {σ : St} {H : Hp} {Q : Value → Shared → Prop} {te : TE} (he : PE X e te) (I : Inv X pins σ H s)
    (h : te σ H fun x H1 => ∃ a C dx fs g, x = .ref a ∧ H1 a = some (.ins C dx fs) ∧ Cls X.K C ∧ Meth X.K C m g ∧ fs.lookup m = none ∧
      ∀ s1, Inv X pins σ H1 s1 → wpAny (model X.prog X.w) X.A (callWith pos (.ref g) [.ref a] (backTo pos (starEach args X.env)) (backToKw pos (keywordEach [] X.env))) Q X.xe s1)
    (ht : eval (.Call (.Attribute e m apos) args [] pos) X.env = (do
      let ov ← eval e X.env
      standAt apos.atName
      let (f, first) ← holding [ov] (getMethod ov m pl)
      callWith pos f first (backTo pos (starEach args X.env)) (backToKw pos (keywordEach [] X.env)))) :
    wpAny (model X.prog X.w) X.A (eval (.Call (.Attribute e m apos) args [] pos) X.env) Q X.xe s := by
  refine PySem.W.methodCall_KW (pl := pl) (thn (he pins s σ H _ I h) fun u s1 ⟨x, H1, I1, rx, a, C, dx, fs, g, ex, ea, c, k, l, q⟩ => ?_) ht
  subst ex
  obtain rfl : u = Value.ref a := rx
  exact getmeth_ok I1 ea c k l (q s1 I1)
end

/-! ### isinstance -/
section
variable {X : Cx} {pins : List (Addr × Obj)} {σ : St} {H : Hp} {s : Shared} {A : Around} {E : Value → Shared → Prop} {Q : Value → Shared → Prop} {c : Value} {b : Bool}
/-- the type of a value, as the fragment's deciders take it; for an instance its class -/
inductive TyOf (K : PySem.W.Frag) (H : Hp) : V → Value → Prop where
  | non : TyOf K H .non (.type "NoneType")
  | bl (x : Bool) : TyOf K H (.bl x) (.type "bool")
  | int (i : Int) : TyOf K H (.int i) (.type "int")
  | str (x : Str) : TyOf K H (.str x) (.type "str")
  | flt (x : UInt64) : TyOf K H (.flt x) (.type "float")
  | lst {a : Addr} {xs : List V} (e : H a = some (.lst xs)) : TyOf K H (.ref a) (.type "list")
  | frz {a : Addr} {o : Obj} {xs : List V} (e : H a = some (.frz o (.lst xs))) : TyOf K H (.ref a) (.type "list")
  | tup {a : Addr} {xs : List V} (e : H a = some (.tup xs)) : TyOf K H (.ref a) (.type "tuple")
  | dK {a : Addr} {kvs : List (Key × V)} (e : H a = some (.dK kvs)) : TyOf K H (.ref a) (.type "dict")
  | dT {a : Addr} {kvs : List (List Key × V)} (e : H a = some (.dT kvs)) : TyOf K H (.ref a) (.type "dict")
  | ins {a C dx : Addr} {fs : List (Str × V)} (e : H a = some (.ins C dx fs)) (cl : Cls K C) (ha : PySem.W.findIn K (.ref C) "__class__" = some (some (.builtin "object.__class__")))
      (hn : PySem.W.specialIn K (.builtin "object.__class__") "__get__" = some (some (.builtin "getset_descriptor.__get__"))) (htk : PySem.W.takesIn K (.builtin "object.__class__") = some true)
      (hm : PySem.W.mroIn K C (.type "object") = some true) : TyOf K H (.ref a) (.ref C)
/-- isinstance(x, c) for one class c, a built-in or an own one: kitOne's answer -/
theorem isinst_ok {x : V} {u t : Value} (I : Inv X pins σ H s) (rx : RelV x u) (ty : TyOf X.K H x t) (e : PySem.W.kitOne X.K t c = some b) (h : ∀ tk, Q (.bool b) { s with toks := tk }) :
    wpAny (model X.prog X.w) A (call (.builtin "isinstance") [u, c]) Q E s := by
  cases ty with
  | non => cases (show u = Value.none from rx); exact PySem.W.kia_one PySem.W.kitx_none I.kIn True.intro e (fun z => nomatch z) h
  | bl y => cases (show u = Value.bool y from rx); exact PySem.W.kia_one PySem.W.kitx_bool I.kIn True.intro e (fun z => nomatch z) h
  | int i => obtain ⟨t, q⟩ := (show ∃ t, u = Value.int i t from rx); cases q; exact PySem.W.kia_one PySem.W.kitx_int I.kIn True.intro e (fun z => nomatch z) h
  | str y => obtain ⟨t, q⟩ := (show ∃ t, u = Value.str y t from rx); cases q; exact PySem.W.kia_one PySem.W.kitx_str I.kIn True.intro e (fun z => nomatch z) h
  | flt y => obtain ⟨t, q⟩ := (show ∃ t, u = Value.float y t from rx); cases q; exact PySem.W.kia_one PySem.W.kitx_float I.kIn True.intro e (fun z => nomatch z) h
  | @lst a xs ea =>
    cases (show u = Value.ref a from rx)
    obtain ⟨_, _, n, _, h1⟩ := (show ObjOk X.prog X.w H s.heap a (.lst xs) from I.hok a _ ea)
    exact PySem.W.kia_one PySem.W.kitx_list I.kIn ⟨_, h1, rfl⟩ e (fun z => nomatch z) h
  | @frz a ob xs ea =>
    cases (show u = Value.ref a from rx)
    obtain ⟨_, _, _, n, _, h1⟩ := (show ObjOk X.prog X.w H s.heap a (.frz ob (.lst xs)) from I.hok a _ ea)
    exact PySem.W.kia_one PySem.W.kitx_list I.kIn ⟨_, h1, rfl⟩ e (fun z => nomatch z) h
  | @tup a xs ea =>
    cases (show u = Value.ref a from rx)
    obtain ⟨_, _, _, p⟩ := (show ObjOk X.prog X.w H s.heap a (.tup xs) from I.hok a _ ea)
    obtain ⟨o, h1, h2, _⟩ := p
    exact PySem.W.kia_one PySem.W.kitx_tuple I.kIn ⟨o, h1, h2⟩ e (fun z => nomatch z) h
  | @dK a kvs ea =>
    cases (show u = Value.ref a from rx)
    obtain ⟨_, _, vs, _, p⟩ := (show ObjOk X.prog X.w H s.heap a (.dK kvs) from I.hok a _ ea)
    obtain ⟨o, es, ep, h1, h2, _⟩ := p
    exact PySem.W.kia_one PySem.W.kitx_dict I.kIn ⟨o, h1, h2.1⟩ e (fun z => nomatch z) h
  | @dT a kvs ea =>
    cases (show u = Value.ref a from rx)
    obtain ⟨_, _, xs, _, o, es, ep, h1, h2, _⟩ := (show ObjOk X.prog X.w H s.heap a (.dT kvs) from I.hok a _ ea)
    exact PySem.W.kia_one PySem.W.kitx_dict I.kIn ⟨o, h1, h2.1⟩ e (fun z => nomatch z) h
  | @ins a C dx fs ea cl ha hn htk hm =>
    cases (show u = Value.ref a from rx)
    obtain ⟨mA, O, _⟩ := ins_get I.hok ea
    obtain ⟨od, J, _⟩ := O.look
    exact PySem.W.kia_one (PySem.W.kitx_own (cl.get _) cl.hd ha hn htk hm) I.kIn J e (fun z => nomatch z) h
end
end L2

namespace L2
open PySem PySem.Spec PyProof.Rows

/-! ### room -/
structure Room (k : Nat) (A : Around) : Prop where
  hd : A.handled = none
  dp : A.depth + 3 * k + 5 < recursionLimit
  un : A.units + 16 * k + 200 < cLine
theorem Room.mono {j k : Nat} {A : Around} (r : Room k A) (h : j ≤ k) : Room j A := ⟨r.hd, by have := r.dp; omega, by have := r.un; omega⟩
theorem Room.deeper {k : Nat} {A : Around} (r : Room (k + 1) A) (env : Env) : Room k (A.deeper env) :=
  ⟨r.hd, by have := r.dp; show A.depth + 1 + 3 * k + 5 < _; omega, by have := r.un; show A.units + 3 + 16 * k + 200 < _; omega⟩
theorem Room.in1 {k : Nat} {A : Around} (r : Room (k + 1) A) : Room k A.in1 :=
  ⟨r.hd, by have := r.dp; show A.depth + 3 * k + 5 < _; omega, by have := r.un; show A.units + 1 + 16 * k + 200 < _; omega⟩
theorem make_depth {A : Around} {C : Addr} {us : List Value} {kw : List (Str × Value)} : (A.under (.builtin "type.__call__" ⟨.ref C :: us, kw⟩)).depth = A.depth + 1 := by
  first | rfl | simp [Around.under, Code.weight, Code.isCreation, Code.isGuard, Code.isCaller, Code.frames, Code.isFrame, guardIds]
theorem make_units {A : Around} {C : Addr} {us : List Value} {kw : List (Str × Value)} : (A.under (.builtin "type.__call__" ⟨.ref C :: us, kw⟩)).units = A.units + 1 := by
  first | rfl | simp [Around.under, Code.cUnits, Code.frames, Code.isFrame]
theorem Room.make {k : Nat} {A : Around} (r : Room (k + 1) A) (C : Addr) (us : List Value) (kw : List (Str × Value)) : Room k (A.under (.builtin "type.__call__" ⟨.ref C :: us, kw⟩)) :=
  ⟨r.hd, by have := r.dp; rw [make_depth]; omega, by have := r.un; rw [make_units]; omega⟩
theorem Room.depth {k : Nat} {A : Around} (r : Room k A) : A.depth < recursionLimit := by have := r.dp; omega
theorem Room.units {k : Nat} {A : Around} (r : Room k A) : A.units + 64 < cLine := by have := r.un; omega
theorem Room.units0 {k : Nat} {A : Around} (r : Room k A) : A.units < cLine := by have := r.un; omega

/-! ### argument lists and displays -/
def tNil : TA := fun _ H Q => Q [] H
def tCons (ta : TE) (tr : TA) : TA := fun σ H Q => ta σ H fun x H1 => tr σ H1 fun xs H2 => Q (x :: xs) H2
section
variable {X : Cx} {e : Expr} {es : List Expr} {te : TE} {t : TA} {pos : Pos}
theorem pa_nil : PA X [] tNil := fun _ _ _ _ H Q I h => Calls.spliced_nil ⟨[], H, I, .nil, h⟩
theorem pa_cons (ha : PE X e te) (hr : PA X es t) (hs : starEach (e :: es) X.env = (false, eval e X.env) :: starEach es X.env := by rfl) : PA X (e :: es) (tCons te t) := by
  intro pos pins s σ H Q I h
  rw [hs]
  show wpAny _ _ (spliced ((false, eval e X.env) :: backTo pos (starEach es X.env))) _ _ s
  refine Calls.spliced_cons (thn (ha pins s σ H _ I h) fun u s1 ⟨x, H1, I1, r1, q1⟩ => ?_)
  exact thn (hr pos pins s1 σ H1 _ I1 q1) fun us s2 ⟨xs, H2, I2, r2, q2⟩ => ⟨x :: xs, H2, I2, .cons r1 r2, q2⟩

/-- a tuple, a list of written items -/
def tTup (t : TA) : TE := fun σ H Q => t σ H fun xs H1 => xs.length ≤ sizeLine ∧ ∀ p, H1 p = none → Q (.ref p) (upd H1 p (.tup xs))
def tLst (t : TA) : TE := fun σ H Q => t σ H fun xs H1 => xs.length ≤ sizeLine ∧ ∀ p, H1 p = none → Q (.ref p) (upd H1 p (.lst xs))
theorem pe_tup {x1} (h : PA X es t) : PE X (.Tuple es x1 pos) (tTup t) := by
  intro pins s σ H Q I hq
  refine wpAny_Tuple_spliced (thn (h pos pins s σ H _ I hq) fun us s1 ⟨xs, H1, I1, r, z, q⟩ => ⟨by rw [← r.length]; exact z, ?_⟩)
  have hf : H1 s1.heap.objs.size = none := I1.hok.fresh (Nat.le_refl _)
  refine ⟨.ref s1.heap.objs.size, upd H1 s1.heap.objs.size (.tup xs), I1.laid (t' := s1.toks) (fun b u e => Heap.get?_push_of_some _ e) (Nat.le_refl _) ?_, rfl, q _ hf⟩
  exact ⟨z, us, r, ⟨_, Heap.get?_push_size _ rfl, rfl, _, rfl⟩⟩
theorem pe_lst (h : PA X es t) : PE X (.List es pos) (tLst t) := by
  intro pins s σ H Q I hq
  refine wpAny_List_spliced (thn (h pos pins s σ H _ I hq) fun us s1 ⟨xs, H1, I1, r, z, q⟩ => ⟨by rw [← r.length]; exact z, ?_⟩)
  have hf : H1 s1.heap.objs.size = none := I1.hok.fresh (Nat.le_refl _)
  refine ⟨.ref s1.heap.objs.size, upd H1 s1.heap.objs.size (.lst xs), I1.laid (t' := s1.toks) (fun b u e => Heap.get?_push_of_some _ e) (Nat.le_refl _) ?_, rfl, q _ hf⟩
  exact ⟨z, us, 0, r, Heap.get?_push_size _ rfl⟩
end

/-! ### what a def promises -/
/-- a def's promise: the bound arguments in the parameters' order, the heap, the wanted end, the wanted exception -/
abbrev Sp := List V → Hp → VK → XK → Prop
/-- how an exception lies behind a call (file 08 gives it): the callers' frames, abstract heap and state ahead of the call, the wish, the exception, the state -/
abbrev CXT := List Env → Hp → Shared → XK → Value → Shared → Prop

/-- the state at a call -/
structure Env0 (P : Program) (w : World) (K : PySem.W.Frag) (mg : Str → Option Value) (base : Heap) (A : Around) (outer : List Env) (s : Shared) (H : Hp) : Prop where
  frames : A.frames = some outer
  mod : Mod K mg base
  bs : ∀ b o, base.get? b = some o → s.heap.get? b = some o ∧ H b = none
  bsz : base.objs.size ≤ s.heap.objs.size
  funs : s.heap.FunFrames base outer
  frf : ∀ b ∈ frs outer, H b = none
  hok : HOk P w H s.heap
  bare : AllBare s.gens
/-- a call's end -/
def CE (outer : List Env) (P : Program) (w : World) (H : Hp) (s : Shared) (Q : VK) (u : Value) (s' : Shared) : Prop :=
  ∃ v H', s'.os = s.os ∧ AllBare s'.gens ∧ Un (frs outer) [] H H' s.heap s'.heap ∧ HOk P w H' s'.heap ∧ RelV v u ∧ Q v H'
def CR (CX : CXT) (outer : List Env) (P : Program) (w : World) (H : Hp) (s : Shared) (Q : VK) (E : XK) (r : Result) (s' : Shared) : Prop :=
  match r with
  | .ok (.ret u) => CE outer P w H s Q u s'
  | .ok _ => False
  | .error e => CX outer H s E e s'
structure FnOk (P : Program) (w : World) (K : PySem.W.Frag) (mg : Str → Option Value) (base : Heap) (CX : CXT) (k : Nat) (f : Addr) (fd : FuncData) (ps : List Str) (sp : Sp) : Prop where
  len : ∀ vs H Q E, sp vs H Q E → vs.length = ps.length
  run : ∀ (A : Around) (outer : List Env) (s : Shared) (H : Hp) (args : Args) (us : List Value) (vs : List V) (Q : VK) (E : XK), Room k A → Env0 P w K mg base A outer s H → BindsTo s fd args (ps.zip us) → Vals vs us → sp vs H Q E →
    codeAny (model P w) A (.call (.ref f) args) (CR CX outer P w H s Q E) s
theorem FnOk.mono {P : Program} {w : World} {K : PySem.W.Frag} {mg : Str → Option Value} {base : Heap} {CX : CXT} {j k : Nat} {f : Addr} {fd : FuncData} {ps : List Str} {sp : Sp} (F : FnOk P w K mg base CX j f fd ps sp) (h : j ≤ k) :
    FnOk P w K mg base CX k f fd ps sp := ⟨F.len, fun A outer s H args us vs Q E hr => F.run A outer s H args us vs Q E (hr.mono h)⟩
/-- a weaker promise -/
theorem FnOk.imp {P : Program} {w : World} {K : PySem.W.Frag} {mg : Str → Option Value} {base : Heap} {CX : CXT} {k : Nat} {f : Addr} {fd : FuncData} {ps : List Str} {sp sp' : Sp} (F : FnOk P w K mg base CX k f fd ps sp)
    (h : ∀ vs H Q E, sp' vs H Q E → sp vs H Q E) : FnOk P w K mg base CX k f fd ps sp' :=
  ⟨fun vs H Q E q => F.len vs H Q E (h _ _ _ _ q), fun A outer s H args us vs Q E hr he hb hv hs => F.run A outer s H args us vs Q E hr he hb hv (h _ _ _ _ hs)⟩

theorem Env0.make {P : Program} {w : World} {K : PySem.W.Frag} {mg : Str → Option Value} {base : Heap} {A : Around} {outer : List Env} {s : Shared} {H : Hp} (e : Env0 P w K mg base A outer s H) (C : Addr) (us : List Value) (kw : List (Str × Value)) :
    Env0 P w K mg base (A.under (.builtin "type.__call__" ⟨.ref C :: us, kw⟩)) outer s H := ⟨by first | exact e.frames | (simpa [Around.under, Code.envs, Code.isFrame, pushEnvs] using e.frames), e.mod, e.bs, e.bsz, e.funs, e.frf, e.hok, e.bare⟩
theorem Env0.in1 {P : Program} {w : World} {K : PySem.W.Frag} {mg : Str → Option Value} {base : Heap} {A : Around} {outer : List Env} {s : Shared} {H : Hp} (e : Env0 P w K mg base A outer s H) :
    Env0 P w K mg base A.in1 outer s H := ⟨e.frames, e.mod, e.bs, e.bsz, e.funs, e.frf, e.hok, e.bare⟩

section
variable {X : Cx} {pins : List (Addr × Obj)} {σ : St} {H : Hp} {s s' : Shared}
/-- from a body: what a callee wants -/
theorem Inv.env0 (I : Inv X pins σ H s) : Env0 X.prog X.w X.K X.mg X.base X.A X.stack s H :=
  ⟨I.ok.frames, I.ok.mod, I.bs, Nat.le_trans I.ok.bsz I.sz, I.stack, I.stkFree, I.hok, I.bare⟩
/-- behind a call -/
theorem Inv.after {Q : VK} {u : Value} (I : Inv X pins σ H s) (h : CE X.stack X.prog X.w H s Q u s') : EP X pins σ Q u s' := by
  obtain ⟨v, H', os, bare, un, hok, r, q⟩ := h
  obtain ⟨hh, g, d, t, os'⟩ := s'
  obtain rfl : os' = s.os := os
  exact ⟨v, H', I.call (h' := hh) (g' := g) (d' := d) (t' := t) (ch := []) un hok bare (fun b z => absurd z (by simp)), r, q⟩
end

/-! ### calls -/
/-- f(..): the written arguments, then the defaults dvs; E: what is wanted of an exception -/
def tCall (sp : Sp) (dvs : List V) (E : XK) (t : TA) : TE := fun σ H Q => t σ H fun vs H1 => sp (vs ++ dvs) H1 Q E
/-- o.m(..) of an instance of the class at C -/
def tMeth (C : Addr) (m : Str) (sp : Sp) (dvs : List V) (E : XK) (ta : TE) (t : TA) : TE := fun σ H Q => ta σ H fun x H1 => ∃ a dx fs, x = .ref a ∧ H1 a = some (.ins C dx fs) ∧ fs.lookup m = none ∧
  t σ H1 fun vs H2 => sp (x :: (vs ++ dvs)) H2 Q E
/-- C(..): a new instance and its dict, then __init__ -/
def tMake (C : Addr) (sp : Sp) (dvs : List V) (E : XK) (t : TA) : TE := fun σ H Q => t σ H fun vs H1 => ∀ x dx, H1 x = none → H1 dx = none → dx ≠ x →
  sp (.ref x :: (vs ++ dvs)) (upd (upd H1 dx (.own x)) x (.ins C dx [])) (fun v H2 => v = .non ∧ Q (.ref x) H2) E

/-- how the parameters are bound: us the positional arguments, kw the keywords' values by name, ds the defaults that fill up -/
def Binds (K : PySem.W.Frag) (fd : FuncData) (ps : List Str) (ds : List Value) : Prop :=
  ∀ (s : Shared) (us : List Value), K.In s.heap → (us ++ ds).length = ps.length → BindsTo s fd ⟨us, []⟩ (ps.zip (us ++ ds))
/-- every parameter is given -/
theorem Binds.all {K : PySem.W.Frag} {fd : FuncData} {ps : List Str} (h : ∀ us : List Value, us.length = ps.length → bindArgs fd ⟨us, []⟩ = pure (ps.zip us)) : Binds K fd ps [] := fun s us _ hl => by
  rw [List.append_nil] at hl ⊢
  exact .of_eq (h us hl)

/-- an exception of a callee reaches what this body wants of exceptions -/
def Passes (CX : CXT) (X : Cx) (E : XK) : Prop := ∀ (pins : List (Addr × Obj)) (σ : St) (H : Hp) (s : Shared) (e : Value) (s' : Shared), Inv X pins σ H s → CX X.stack H s E e s' → X.xe e s'

section
variable {X : Cx} {CX : CXT} {k : Nat} {f C : Addr} {fd : FuncData} {ps : List Str} {sp : Sp} {dvs : List V} {ds : List Value} {E : XK} {x m : Str} {p pos apos : Pos} {e o : Expr} {es : List Expr} {ta : TE} {t : TA}

/-- the callee runs -/
theorem run_fn {pins : List (Addr × Obj)} {σ : St} {H : Hp} {s : Shared} {Q : VK} {us : List Value} {vs : List V} (F : FnOk X.prog X.w X.K X.mg X.base CX k f fd ps sp) (hr : Room k X.A) (hb : Binds X.K fd ps ds) (hd : Vals dvs ds) (hx : Passes CX X E)
    (I : Inv X pins σ H s) (r : Vals vs us) (h : sp (vs ++ dvs) H Q E) : wpAny (model X.prog X.w) X.A (call (.ref f) us) (EP X pins σ Q) X.xe s := by
  have r2 : Vals (vs ++ dvs) (us ++ ds) := r.append hd
  have hl : (us ++ ds).length = ps.length := by rw [← r2.length]; exact F.len _ _ _ _ h
  refine wpAny_call (codeAny_mono (F.run X.A X.stack s H ⟨us, []⟩ (us ++ ds) (vs ++ dvs) Q E hr I.env0 (hb s us I.kIn hl) r2 h) fun r s' hq => ?_)
  cases r with
  | error e => exact hx pins σ H s e s' I hq
  | ok fl =>
    cases fl with
    | ret u => exact I.after hq
    | next => exact False.elim hq
    | brk => exact False.elim hq
    | cont => exact False.elim hq

theorem pe_call (F : FnOk X.prog X.w X.K X.mg X.base CX k f fd ps sp) (hr : Room k X.A) (hg : Gl X x) (hm : X.mg x = some (.ref f)) (hk : PySem.W.keepIn X.K (.ref f) = true) (hb : Binds X.K fd ps ds) (hd : Vals dvs ds) (hx : Passes CX X E)
    (ha : PA X (e :: es) t) (hdb : (x == ("__debug__" : Str)) = false := by decide) (he : starEach (e :: es) X.env = (false, eval e X.env) :: starEach es X.env := by rfl) (hpl : (backTo pos (starEach es X.env)).any (·.1) = false := by rfl) :
    PE X (.Call (.Name x p) (e :: es) [] pos) (tCall sp dvs E t) := by
  intro pins s σ H Q I h
  refine wpAny_Call_Name_kw (ld_glob I hg hm ?_ hdb)
  refine PySem.W.callWith_K (h₀ := X.base) I.ok.mod.kin hk (thn (ha pos pins s σ H _ I h) fun us s1 ⟨vs, H1, I1, r, q⟩ => ⟨I1.kIn, ?_⟩) he hpl
  exact run_fn F hr hb hd hx I1 r q
theorem pe_call0 (F : FnOk X.prog X.w X.K X.mg X.base CX k f fd ps sp) (hr : Room k X.A) (hg : Gl X x) (hm : X.mg x = some (.ref f)) (hk : PySem.W.keepIn X.K (.ref f) = true) (hb : Binds X.K fd ps ds) (hd : Vals dvs ds) (hx : Passes CX X E)
    (hdb : (x == ("__debug__" : Str)) = false := by decide) : PE X (.Call (.Name x p) [] [] pos) (tCall sp dvs E tNil) := by
  intro pins s σ H Q I h
  refine wpAny_Call_Name_kw (ld_glob I hg hm ?_ hdb)
  exact PySem.W.callWith_K0 I.kIn hk (run_fn (us := []) F hr hb hd hx I .nil h)

/-- o.m(e, ..) -/
theorem pe_meth {pl : Sem Bool} (he : PE X o ta) (c : Cls X.K C) (hm : Meth X.K C m f) (F : FnOk X.prog X.w X.K X.mg X.base CX k f fd ps sp) (hr : Room k X.A) (hb : Binds X.K fd ps ds) (hd : Vals dvs ds) (hx : Passes CX X E) (ha : PA X (e :: es) t)
    (hst : starEach (e :: es) X.env = (false, eval e X.env) :: starEach es X.env := by rfl) (hpl : (backTo pos (starEach es X.env)).any (·.1) = false := by rfl)
    (ht : eval (.Call (.Attribute o m apos) (e :: es) [] pos) X.env = (do
      let ov ← eval o X.env
      standAt apos.atName
      let (f, first) ← holding [ov] (getMethod ov m pl)
      callWith pos f first (backTo pos (starEach (e :: es) X.env)) (backToKw pos (keywordEach [] X.env))) := by rfl) :
    PE X (.Call (.Attribute o m apos) (e :: es) [] pos) (tMeth C m sp dvs E ta t) := by
  intro pins s σ H Q I h
  refine PySem.W.methodCall_KW (pl := pl) (thn (he pins s σ H _ I h) fun u s1 ⟨x, H1, I1, rx, a, dx, fs, ex, ea, l, q⟩ => ?_) ht
  subst ex
  obtain rfl : u = Value.ref a := rx
  refine getmeth_ok I1 ea c hm l ?_
  refine PySem.W.callWith_K (first := [.ref a]) (h₀ := X.base) I.ok.mod.kin hm.kp (thn (ha pos pins s1 σ H1 _ I1 q) fun us s2 ⟨vs, H2, I2, r, q2⟩ => ⟨I2.kIn, ?_⟩) hst hpl
  exact run_fn (us := .ref a :: us) (vs := .ref a :: vs) F hr hb hd hx I2 (.cons rfl r) q2
/-- o.m() -/
theorem pe_meth0 {pl : Sem Bool} (he : PE X o ta) (c : Cls X.K C) (hm : Meth X.K C m f) (F : FnOk X.prog X.w X.K X.mg X.base CX k f fd ps sp) (hr : Room k X.A) (hb : Binds X.K fd ps ds) (hd : Vals dvs ds) (hx : Passes CX X E)
    (ht : eval (.Call (.Attribute o m apos) [] [] pos) X.env = (do
      let ov ← eval o X.env
      standAt apos.atName
      let (f, first) ← holding [ov] (getMethod ov m pl)
      callWith pos f first (backTo pos (starEach [] X.env)) (backToKw pos (keywordEach [] X.env))) := by rfl) :
    PE X (.Call (.Attribute o m apos) [] [] pos) (tMeth C m sp dvs E ta tNil) := by
  intro pins s σ H Q I h
  refine PySem.W.methodCall_KW (pl := pl) (thn (he pins s σ H _ I h) fun u s1 ⟨x, H1, I1, rx, a, dx, fs, ex, ea, l, q⟩ => ?_) ht
  subst ex
  obtain rfl : u = Value.ref a := rx
  refine getmeth_ok I1 ea c hm l ?_
  exact PySem.W.callWith_K0 (first := [.ref a]) I1.kIn hm.kp (run_fn (us := [.ref a]) (vs := [.ref a]) F hr hb hd hx I1 (.cons rfl .nil) q)

/-- what a class must have to be made -/
structure Mk (K : PySem.W.Frag) (C f : Addr) : Prop where
  makes : PySem.W.makesIn K C = true
  init : PySem.W.findIn K (.ref C) "__init__" = some (some (.ref f))
  fn : PySem.W.isFn K (.ref f) = true
  kp : PySem.W.keepIn K (.ref C) = true

theorem run_make {pins : List (Addr × Obj)} {σ : St} {H : Hp} {s : Shared} {Q : VK} {us : List Value} {vs : List V} (M : Mk X.K C f) (F : FnOk X.prog X.w X.K X.mg X.base CX k f fd ps sp) (hr : Room (k + 1) X.A) (hb : Binds X.K fd ps ds) (hd : Vals dvs ds)
    (hx : Passes CX X E) (I : Inv X pins σ H s) (r : Vals vs us)
    (h : ∀ x dx, H x = none → H dx = none → dx ≠ x → sp (.ref x :: (vs ++ dvs)) (upd (upd H dx (.own x)) x (.ins C dx [])) (fun v H2 => v = .non ∧ Q (.ref x) H2) E) :
    wpAny (model X.prog X.w) X.A (call (.ref C) us) (EP X pins σ Q) X.xe s := by
  have hq := h (s.heap.objs.size + 1) s.heap.objs.size (I.hok.fresh (Nat.le_succ _)) (I.hok.fresh (Nat.le_refl _)) (Nat.ne_of_lt (Nat.lt_succ_self _))
  have I2 := Inv.made (C := C) I
  have r2 : Vals (V.ref (s.heap.objs.size + 1) :: (vs ++ dvs)) (Value.ref (s.heap.objs.size + 1) :: (us ++ ds)) := .cons rfl (r.append hd)
  have hl : (Value.ref (s.heap.objs.size + 1) :: us ++ ds).length = ps.length := by
    have e := r2.length
    rw [F.len _ _ _ _ hq] at e
    exact e.symm
  refine wpAny_call (make_map (f := f) I.kIn M.makes M.init (beq_iff_eq.mp M.fn) (codeAny_mono (F.run _ X.stack _ _ ⟨Value.ref (s.heap.objs.size + 1) :: us, []⟩ (Value.ref (s.heap.objs.size + 1) :: (us ++ ds)) _ _ E (hr.make C us [])
    (I2.env0.make C us []) (hb _ (Value.ref (s.heap.objs.size + 1) :: us) I2.kIn hl) r2 hq) fun r s' hq' => ?_))
  cases r with
  | error e => exact hx pins σ _ _ e s' I2 hq'
  | ok fl =>
    cases fl with
    | ret u =>
      obtain ⟨v, H', I3, rv, ev, q3⟩ := I2.after hq'
      subst ev
      exact ⟨rv, ⟨V.ref (s.heap.objs.size + 1), H', I3, rfl, q3⟩⟩
    | next => exact False.elim hq'
    | brk => exact False.elim hq'
    | cont => exact False.elim hq'
theorem pe_make (M : Mk X.K C f) (F : FnOk X.prog X.w X.K X.mg X.base CX k f fd ps sp) (hr : Room (k + 1) X.A) (hg : Gl X x) (hm : X.mg x = some (.ref C)) (hb : Binds X.K fd ps ds) (hd : Vals dvs ds) (hx : Passes CX X E)
    (ha : PA X (e :: es) t) (hdb : (x == ("__debug__" : Str)) = false := by decide) (he : starEach (e :: es) X.env = (false, eval e X.env) :: starEach es X.env := by rfl) (hpl : (backTo pos (starEach es X.env)).any (·.1) = false := by rfl) :
    PE X (.Call (.Name x p) (e :: es) [] pos) (tMake C sp dvs E t) := by
  intro pins s σ H Q I h
  refine wpAny_Call_Name_kw (ld_glob I hg hm ?_ hdb)
  refine PySem.W.callWith_K (h₀ := X.base) I.ok.mod.kin M.kp (thn (ha pos pins s σ H _ I h) fun us s1 ⟨vs, H1, I1, r, q⟩ => ⟨I1.kIn, ?_⟩) he hpl
  exact run_make M F hr hb hd hx I1 r q
theorem pe_make0 (M : Mk X.K C f) (F : FnOk X.prog X.w X.K X.mg X.base CX k f fd ps sp) (hr : Room (k + 1) X.A) (hg : Gl X x) (hm : X.mg x = some (.ref C)) (hb : Binds X.K fd ps ds) (hd : Vals dvs ds) (hx : Passes CX X E)
    (hdb : (x == ("__debug__" : Str)) = false := by decide) : PE X (.Call (.Name x p) [] [] pos) (tMake C sp dvs E tNil) := by
  intro pins s σ H Q I h
  refine wpAny_Call_Name_kw (ld_glob I hg hm ?_ hdb)
  exact PySem.W.callWith_K0 I.kIn M.kp (run_make (us := []) M F hr hb hd hx I .nil h)
end

/-! ### keywords -/
/-- the values of the keywords, from the left -/
def PK (X : Cx) (kws : List Keyword) (t : TA) : Prop :=
  ∀ (pos : Pos) (pins : List (Addr × Obj)) (s : Shared) (σ : St) (H : Hp) (Q : List V → Hp → Prop), Inv X pins σ H s → t σ H Q → wpAny (model X.prog X.w) X.A (evalAll ((backToKw pos (keywordEach kws X.env)).map (·.2))) (AP X pins σ Q) X.xe s
section
variable {X : Cx} {CX : CXT} {k : Nat} {f C : Addr} {fd : FuncData} {ps ks : List Str} {sp : Sp} {E : XK} {x m : Str} {p pos apos kpos : Pos} {e o : Expr} {es : List Expr} {kws : List Keyword} {te ta : TE} {t tk : TA} {nm : Option Str}
theorem pk_nil : PK X [] tNil := fun _ _ _ _ H Q I h => wpAny_evalAll_nil ⟨[], H, I, .nil, h⟩
theorem pk_cons (ha : PE X e te) (hr : PK X kws t) : PK X (⟨nm, e, kpos⟩ :: kws) (tCons te t) := by
  intro pos pins s σ H Q I h
  show wpAny _ _ (evalAll ((do let v ← eval e X.env; standAt pos; pure v) :: (backToKw pos (keywordEach kws X.env)).map (·.2))) _ _ s
  refine wpAny_evalAll_cons (wpAny_bind (thn (ha pins s σ H _ I h) fun u s1 ⟨x, H1, I1, r1, q1⟩ => wpAny_bind (wpAny_standAt (wpAny_pure ?_))))
  exact thn (hr pos pins s1 σ H1 _ I1 q1) fun us s2 ⟨xs, H2, I2, r2, q2⟩ => ⟨x :: xs, H2, I2, .cons r1 r2, q2⟩

/-- how a call with keywords binds: g puts the positional values us and the keywords' values ws (names ks) in the parameters' order, defaults among them -/
structure KBinds (K : PySem.W.Frag) (fd : FuncData) (ps ks : List Str) (g : List Value → List Value → List Value) (gV : List V → List V → List V) : Prop where
  to : ∀ (s : Shared) (us ws : List Value), K.In s.heap → (g us ws).length = ps.length → BindsTo s fd ⟨us, ks.zip ws⟩ (ps.zip (g us ws))
  rel : ∀ {vs : List V} {us : List Value} {zs : List V} {ws : List Value}, Vals vs us → Vals zs ws → Vals (gV vs zs) (g us ws)
def tCallK (sp : Sp) (gV : List V → List V → List V) (E : XK) (t tk : TA) : TE := fun σ H Q => t σ H fun vs H1 => tk σ H1 fun zs H2 => sp (gV vs zs) H2 Q E
variable {g : List Value → List Value → List Value} {gV : List V → List V → List V}
theorem run_fnk {pins : List (Addr × Obj)} {σ : St} {H : Hp} {s : Shared} {Q : VK} {us ws : List Value} {vs zs : List V} (F : FnOk X.prog X.w X.K X.mg X.base CX k f fd ps sp) (hr : Room k X.A) (hb : KBinds X.K fd ps ks g gV) (hx : Passes CX X E)
    (I : Inv X pins σ H s) (r : Vals vs us) (rz : Vals zs ws) (h : sp (gV vs zs) H Q E) : wpAny (model X.prog X.w) X.A (call (.ref f) us (ks.zip ws)) (EP X pins σ Q) X.xe s := by
  have r2 := hb.rel r rz
  have hl : (g us ws).length = ps.length := by rw [← r2.length]; exact F.len _ _ _ _ h
  refine wpAny_call (codeAny_mono (F.run X.A X.stack s H ⟨us, ks.zip ws⟩ (g us ws) (gV vs zs) Q E hr I.env0 (hb.to s us ws I.kIn hl) r2 h) fun r s' hq => ?_)
  cases r with
  | error e => exact hx pins σ H s e s' I hq
  | ok fl =>
    cases fl with
    | ret u => exact I.after hq
    | next => exact False.elim hq
    | brk => exact False.elim hq
    | cont => exact False.elim hq
/-- f(e, .., k = v, ..) -/
theorem pe_callK (F : FnOk X.prog X.w X.K X.mg X.base CX k f fd ps sp) (hr : Room k X.A) (hg : Gl X x) (hm : X.mg x = some (.ref f)) (hk : PySem.W.keepIn X.K (.ref f) = true) (hb : KBinds X.K fd ps ks g gV) (hx : Passes CX X E)
    (ha : PA X (e :: es) t) (hkw : PK X kws tk) (hall : (backToKw pos (keywordEach kws X.env)).all (·.1.isSome) = true := by rfl) (hks : (backToKw pos (keywordEach kws X.env)).filterMap (·.1) = ks := by rfl)
    (hdb : (x == ("__debug__" : Str)) = false := by decide) (he : starEach (e :: es) X.env = (false, eval e X.env) :: starEach es X.env := by rfl)
    (hpl : ((backTo pos (starEach (e :: es) X.env)).any (·.1) || (backToKw pos (keywordEach kws X.env)).any (·.1.isNone)) = false := by rfl) :
    PE X (.Call (.Name x p) (e :: es) kws pos) (tCallK sp gV E t tk) := by
  intro pins s σ H Q I h
  refine wpAny_Call_Name_kw (ld_glob I hg hm ?_ hdb)
  refine PySem.W.callWith_KW (h₀ := X.base) I.ok.mod.kin hk hall (thn (ha pos pins s σ H _ I h) fun us s1 ⟨vs, H1, I1, r, q⟩ => ?_) hpl he
  refine thn (hkw pos pins s1 σ H1 _ I1 q) fun ws s2 ⟨zs, H2, I2, rz, q2⟩ => ⟨I2.kIn, ?_⟩
  rw [hks]
  exact run_fnk F hr hb hx I2 r rz q2
end

/-! ### a def's body keeps its promise -/
/-- names: the parameters first -/
structure FnScope (N P : List Str) (sc : Scope) : Prop where
  kind : sc.kind = .function
  co : sc.isCoroutine = false
  gen : sc.isGenerator = false
  nd : N.Nodup
  pre : N.take P.length = P
  par : ∀ x ∈ P, sc.names.lookup x = some .local ∨ sc.names.lookup x = some .cell
  nofree : ∀ y ∈ sc.names, y.2 ≠ .free

theorem bindL_out {kindOf : Str → Option NameKind} {x : Str} : ∀ {binds : List (Str × Value)} {m : Str → Option Value}, (∀ v, (x, v) ∉ binds) → bindL kindOf binds m x = m x
  | [], _, _ => rfl
  | (n, v) :: r, m, h => by
    unfold bindL
    rw [bindL_out fun w hw => h w (List.mem_cons_of_mem _ hw)]
    split
    · have : x ≠ n := by rintro rfl; exact h v List.mem_cons_self
      simp [this]
    · rfl
theorem bindC_out {kindOf : Str → Option NameKind} {x : Str} : ∀ {binds : List (Str × Value)} {m : Str → Option Value}, (∀ v, (x, v) ∉ binds) → bindC kindOf binds m x = m x
  | [], _, _ => rfl
  | (n, v) :: r, m, h => by
    unfold bindC
    rw [bindC_out fun w hw => h w (List.mem_cons_of_mem _ hw)]
    split
    · rfl
    · have : x ≠ n := by rintro rfl; exact h v List.mem_cons_self
      simp [this]
theorem bindL_get {kindOf : Str → Option NameKind} {x : Str} {v : Value} : ∀ {P : List Str} {vs : List Value} {i : Nat} {m : Str → Option Value}, P.Nodup → P[i]? = some x → vs[i]? = some v → kindOf x = some .local →
    bindL kindOf (P.zip vs) m x = some v
  | [], _, _, _, _, h, _, _ => by simp at h
  | _ :: _, [], _, _, _, _, h, _ => by simp at h
  | p :: P, w :: vs, 0, m, nd, h1, h2, hk => by
    simp at h1 h2; subst h1; subst h2
    show bindL kindOf ((p, w) :: P.zip vs) m p = _
    unfold bindL
    rw [bindL_out fun v hv => (List.nodup_cons.mp nd).1 (List.of_mem_zip hv).1, if_pos hk]
    simp
  | p :: P, w :: vs, i + 1, m, nd, h1, h2, hk => by
    show bindL kindOf ((p, w) :: P.zip vs) m x = _
    unfold bindL
    exact bindL_get (i := i) (List.nodup_cons.mp nd).2 (by simpa using h1) (by simpa using h2) hk
theorem bindC_get {kindOf : Str → Option NameKind} {x : Str} {v : Value} : ∀ {P : List Str} {vs : List Value} {i : Nat} {m : Str → Option Value}, P.Nodup → P[i]? = some x → vs[i]? = some v → kindOf x ≠ some .local →
    bindC kindOf (P.zip vs) m x = some v
  | [], _, _, _, _, h, _, _ => by simp at h
  | _ :: _, [], _, _, _, _, h, _ => by simp at h
  | p :: P, w :: vs, 0, m, nd, h1, h2, hk => by
    simp at h1 h2; subst h1; subst h2
    show bindC kindOf ((p, w) :: P.zip vs) m p = _
    unfold bindC
    rw [bindC_out fun v hv => (List.nodup_cons.mp nd).1 (List.of_mem_zip hv).1, if_neg hk]
    simp
  | p :: P, w :: vs, i + 1, m, nd, h1, h2, hk => by
    show bindC kindOf ((p, w) :: P.zip vs) m x = _
    unfold bindC
    exact bindC_get (i := i) (List.nodup_cons.mp nd).2 (by simpa using h1) (by simpa using h2) hk

/-- the names' values at the entry -/
def start (N : List Str) (vs : List V) : St := vs.map some ++ List.replicate (N.length - vs.length) none

/-- the context of a def's body, at its entry; an exception leaves the frame, then lies as CX says -/
def cxOf (CX : CXT) (P : Program) (w : World) (K : PySem.W.Frag) (mg : Str → Option Value) (base : Heap) (N : List Str) (qual : Str) (scope : Scope) (f : Addr) (cd : Value) (A : Around) (outer : List Env) (s : Shared) (H : Hp) (E : XK) : Cx where
  prog := P
  w := w
  K := K
  mg := mg
  base := base
  A := A.deeper (envOfC qual scope s.heap.objs.size f cd)
  N := N
  s₀ := s
  H₀ := H
  env := envOfC qual scope s.heap.objs.size f cd
  outer := outer
  stack := envOfC qual scope s.heap.objs.size f cd :: outer
  ex := []
  calm := true
  fn := fun _ => true
  pn := []
  xe := fun e s' => wpAny (model P w) (A.deeper (envOfC qual scope s.heap.objs.size f cd)) (leaving (envOfC qual scope s.heap.objs.size f cd) e) (fun _ s'' => CX outer H s E e s'') (fun e' s'' => CX outer H s E e' s'') s'

theorem cell_has {sc : Scope} {n : Nat} {x : Str} (h : sc.names.lookup x = some .cell) : ∃ c, (cellsFrom n sc.names []).lookup x = some c := by
  have q := PySem.W.cellsFrom_some sc.names n [] (.inl h)
  exact Option.isSome_iff_exists.mp q

theorem inv_start {CX : CXT} {P : Program} {w : World} {K : PySem.W.Frag} {mg : Str → Option Value} {base : Heap} {N ps : List Str} {qual : Str} {scope : Scope} {f : Addr} {cd : Value} {A : Around} {outer : List Env} {s s1 : Shared} {H : Hp} {E : XK} {us : List Value} {vs : List V}
    (S : FnScope N ps scope) (hd : A.handled = none) (e0 : Env0 P w K mg base A outer s H) (hl : vs.length = ps.length) (r : Vals vs us)
    (x : InCallC s s.heap.objs.size (bindL (envOfC qual scope s.heap.objs.size f cd).kindOf (ps.zip us) fun _ => none) (cellsFrom (s.heap.objs.size + 1) scope.names []) (bindC (envOfC qual scope s.heap.objs.size f cd).kindOf (ps.zip us) fun _ => none) s1) :
    Inv (cxOf CX P w K mg base N qual scope f cd A outer s H E) [] (start N vs) H s1 := by
  have hpl : ps.length ≤ N.length := by have := congrArg List.length S.pre; rw [List.length_take] at this; omega
  obtain ⟨h1, tk, rfl, hk⟩ := x.done
  have noA : ∀ b : Addr, b ∉ (cxOf CX P w K mg base N qual scope f cd A outer s H E).ex := fun b z => absurd (show b ∈ ([] : List Addr) from z) (by simp)
  refine ⟨⟨e0.mod, S.kind, rfl, rfl, Nat.le_refl _, fun y z c h1 h2 => ?_, fun y hy => ?_, fun y c _ h => ?_, fun _ => hd, Around.frames_deeper e0.frames, .inr ⟨rfl, rfl⟩, fun b z => absurd z (noA b), e0.bs, e0.bsz, fun b _ _ => noA b, fun b z => absurd z (noA b), e0.funs, e0.frf⟩,
    rfl, e0.bare, Un.kept hk, ⟨_, x.toInCall.ns, fun i y v h1 h2 h3 => ?_⟩, fun y c h => ⟨_, x.cell y c h⟩, e0.hok.fresh (Nat.le_refl _), fun y c h => ?_, fun p hp => absurd (show p ∈ ([] : List (Addr × Obj)) from hp) (by simp), e0.hok.kept hk, ?_⟩
  · exact name_of_addr x.apart (PySem.mem_of_lookup h1) (PySem.mem_of_lookup h2)
  · have hy : scope.names.lookup y = some .cell ∨ scope.names.lookup y = some .free := hy
    rcases hy with hy | hy
    · exact cell_has hy
    · exact absurd rfl (S.nofree _ (PySem.mem_of_lookup hy))
  · exact Nat.le_of_lt (x.above y c (PySem.mem_of_lookup h))
  · have hi : i < vs.length := by
      unfold start at h2
      by_cases hi : i < vs.length
      · exact hi
      · rw [List.getElem?_append_right (by simpa using hi)] at h2
        rw [List.getElem?_replicate] at h2
        split at h2 <;> cases h2
    have ha : vs[i]? = some v := by
      unfold start at h2
      rw [List.getElem?_append_left (by simpa using hi), List.getElem?_map] at h2
      cases e : vs[i]? with
      | none => rw [e] at h2; cases h2
      | some a => rw [e] at h2; cases h2; rfl
    obtain ⟨u, hu, rv⟩ := r.get ha
    have hp : ps[i]? = some y := by
      rw [← S.pre, List.getElem?_take_of_lt (by omega)]; exact h1
    have ndP : ps.Nodup := by rw [← S.pre]; exact S.nd.sublist (List.take_sublist _ _)
    refine ⟨u, rv, ?_⟩
    rcases S.par y (List.mem_of_getElem? hp) with k | k
    · exact .inl ⟨k, bindL_get ndP hp hu k⟩
    · obtain ⟨c, e⟩ := cell_has (n := s.heap.objs.size + 1) k
      refine .inr ⟨.inl k, c, e, ?_⟩
      have q := x.cell y c e
      rw [bindC_get ndP hp hu (by show scope.names.lookup y ≠ _; rw [k]; decide)] at q
      exact q
  · exact e0.hok.fresh (Nat.le_of_lt (x.above y c (PySem.mem_of_lookup h)))
  · unfold start
    show _ = N.length
    rw [List.length_append, List.length_map, List.length_replicate]
    omega

/-- THE RULE: a def (or a method) of the text, by its body. The body's reading t is chosen for each entry; it is run at the parameters' values -/
theorem fn_of {CX : CXT} {P : Program} {w : World} {K : PySem.W.Frag} {mg : Str → Option Value} {base : Heap} {k : Nat} {f : Addr} {name qual : Str} {params : Arguments} {body : List Stmt} {scope : Scope} {dV kV doc pm cdv ct oc : Value} {an od : Option Addr}
    {osl : Array (Option Value)} {N ps : List Str} {sp : Sp} (lk : K.lookup f = some ⟨oc, od, .func (PySem.W.fnOf name qual params body scope dV kV doc pm an cdv ct), osl⟩) (hcd : PySem.W.codeIn K cdv qual = true) (S : FnScope N ps scope)
    (len : ∀ vs H Q E, sp vs H Q E → vs.length = ps.length)
    (hbody : ∀ (A : Around) (outer : List Env) (s : Shared) (H : Hp) (vs : List V) (Q : VK) (E : XK), Room k (A.deeper (envOfC qual scope s.heap.objs.size f cdv)) → sp vs H Q E →
      ∃ t, PSs (cxOf CX P w K mg base N qual scope f cdv A outer s H E) body t ∧ t { nx := fun _ H' => Q .non H', rt := Q } (start N vs) H) :
    FnOk P w K mg base CX (k + 1) f (PySem.W.fnOf name qual params body scope dV kV doc pm an cdv ct) ps sp := by
  refine ⟨len, fun A outer s H args us vs Q E hr e0 hb r hsp => ?_⟩
  have hl := len _ _ _ _ hsp
  have KX : K.In s.heap := e0.mod.kin.keeps fun b o e => (e0.bs b o e).1
  have lim : s.heap.NoLimit := e0.mod.nolimit.keeps fun b o e => (e0.bs b o e).1
  have hkind : ∀ y ∈ ps.zip us, scope.names.lookup y.1 = some .local ∨ (scope.names.lookup y.1 = some .cell ∧ ((cellsFrom (s.heap.objs.size + 1) scope.names []).lookup y.1).isSome = true) := fun ⟨n, v⟩ hy => by
    rcases S.par n (List.of_mem_zip hy).1 with q | q
    · exact .inl q
    · exact .inr ⟨q, PySem.W.cellsFrom_some _ _ _ (.inl q)⟩
  refine codeAny_call_function hr.depth (KX _ _ lk) rfl S.co S.gen rfl (PySem.W.codeRec_of KX hcd) (hb _ _ _ _ ?_)
  refine wpAny_newFunctionEnv_cells S.kind hkind fun env he s1 x => ?_
  subst he
  refine ⟨lim.keeps x.toInCall.keep, codeAny_func ?_⟩
  obtain ⟨t, ht, hq⟩ := hbody A outer s H vs Q E (hr.deeper _) hsp
  have I : Inv (cxOf CX P w K mg base N qual scope f cdv A outer s H E) [] (start N vs) H s1 := inv_start S hr.hd e0 hl r x
  refine wpAny_mono (ht [] s1 (start N vs) H _ I hq) (fun fl s' hs => ?_) fun e s' hs => hs
  have fin : ∀ {σ' : St} {H' : Hp} {v : V} {u : Value}, Inv (cxOf CX P w K mg base N qual scope f cdv A outer s H E) [] σ' H' s' → RelV v u → Q v H' → CE outer P w H s Q u s' :=
    fun {σ' H' v u} J rv q => ⟨v, H', J.os, J.bare, J.base, J.hok, rv, q⟩
  cases fl with
  | ret u =>
    obtain ⟨v, σ', H', J, rv, q⟩ := hs
    exact fin J rv q
  | next =>
    obtain ⟨σ', H', J, q⟩ := hs
    exact fin (v := V.non) (u := Value.none) J rfl q
  | brk =>
    obtain ⟨_, _, _, q⟩ := hs
    exact False.elim q
  | cont =>
    obtain ⟨_, _, _, q⟩ := hs
    exact False.elim q
end L2

namespace L2
open PySem PySem.Spec PyProof.Rows
section
variable {X : Cx} {x : Str} {p pos : Pos} {e : Expr} {es : List Expr} {t : TA} {id T : String} {r : List V → Hp → VK → Prop}

def tCB (r : List V → Hp → VK → Prop) (t : TA) : TE := fun σ H Q => t σ H fun vs H1 => r vs H1 Q
/-- f(e, ..), f a built-in function -/
theorem pe_callB (hc : CallR X (.builtin id) r) (hg : Gl X x) (hm : X.mg x = none) (hv : bootBuiltins x = some (.builtin id)) (ha : PA X (e :: es) t) (hn : x ≠ "__name__" := by decide) (hdb : (x == ("__debug__" : Str)) = false := by decide)
    (he : starEach (e :: es) X.env = (false, eval e X.env) :: starEach es X.env := by rfl) (hpl : (backTo pos (starEach es X.env)).any (·.1) = false := by rfl) : PE X (.Call (.Name x p) (e :: es) [] pos) (tCB r t) := by
  intro pins s σ H Q I h
  refine wpAny_Call_Name_kw (ld_blt I hg hm hv ?_ hn hdb)
  exact PyProof.Rows.callWith_builtin1 (thn (ha pos pins s σ H _ I h) fun us s1 ⟨vs, H1, I1, r1, q1⟩ => hc pins s1 σ H1 vs us Q I1 r1 q1) he hpl
/-- T(e, ..), T a built-in type -/
theorem pe_callTy (hc : CallR X (.type T) r) (hg : Gl X x) (hm : X.mg x = none) (hv : bootBuiltins x = some (.type T)) (ha : PA X (e :: es) t) (hn : x ≠ "__name__" := by decide) (hdb : (x == ("__debug__" : Str)) = false := by decide)
    (he : starEach (e :: es) X.env = (false, eval e X.env) :: starEach es X.env := by rfl) (hpl : (backTo pos (starEach es X.env)).any (·.1) = false := by rfl) : PE X (.Call (.Name x p) (e :: es) [] pos) (tCB r t) := by
  intro pins s σ H Q I h
  refine wpAny_Call_Name_kw (ld_blt I hg hm hv ?_ hn hdb)
  exact PyProof.Rows.callWith_type1 (thn (ha pos pins s σ H _ I h) fun us s1 ⟨vs, H1, I1, r1, q1⟩ => hc pins s1 σ H1 vs us Q I1 r1 q1) he hpl
/-- T() -/
theorem pe_callTy0 (hc : CallR X (.type T) r) (hg : Gl X x) (hm : X.mg x = none) (hv : bootBuiltins x = some (.type T)) (hn : x ≠ "__name__" := by decide) (hdb : (x == ("__debug__" : Str)) = false := by decide) :
    PE X (.Call (.Name x p) [] [] pos) (tCB r tNil) := by
  intro pins s σ H Q I h
  refine wpAny_Call_Name_kw (ld_blt I hg hm hv ?_ hn hdb)
  exact PyProof.Rows.callWith_type0 (hc pins s σ H [] [] Q I .nil h)
end
end L2

namespace HT
open PySem PyProof.Rows

/-- t < u of tuples of ints -/
def lexLt : List Int → List Int → Bool
  | [], [] => false
  | [], _ :: _ => true
  | _ :: _, [] => false
  | x :: xs, y :: ys => if x = y then lexLt xs ys else decide (x < y)
theorem lexLt_cons (x y : Int) (xs ys : List Int) : lexLt (x :: xs) (y :: ys) = if x = y then lexLt xs ys else decide (x < y) := rfl
theorem lexLt_nil_nil : lexLt [] [] = false := rfl
theorem lexLt_nil_cons (y : Int) (ys : List Int) : lexLt [] (y :: ys) = true := rfl
theorem lexLt_cons_nil (x : Int) (xs : List Int) : lexLt (x :: xs) [] = false := rfl

theorem eqAt_int (A : Around) (s : Shared) (a : Int) (t : Tok) (c : Int) (u : Tok) : ∃ e, SeqAt.EqAt A s (.int a t) (.int c u) e ∧ (e = true ↔ a = c) :=
  ⟨(a == c), SeqAt.EqAt.int_int a t c u, by simp⟩
theorem rcLt_int (A : Around) (s : Shared) (a : Int) (t : Tok) (c : Int) (u : Tok) (prog : Program) (w : World) (E : Value → Shared → Prop) (Q : Value → Shared → Prop) (h : Q (.bool (decide (a < c))) s) :
    wpAny (model prog w) A (richCompare .Lt (.int a t) (.int c u)) Q E s :=
  (PyProof.Rows.lt_int h : wpAny (model prog w) A (compareOp .Lt (.int a t) (.int c u)) Q E s)

section
open PySem.SeqAt
open PySem.AutoSeq1 (wpAny_loadPart')
open PySem.MeetsSeq PySem.MeetsSeq2 PySem.MeetsSeq3

theorem tuple_lt_ints (l b : Addr) (items items2 : Array Value) (n n2 : Nat) (dd dd2 : Option Addr) (sl sl2 : Array (Option Value)) (ns ms : List Int) (hi : IntsAre items.toList ns) (hj : IntsAre items2.toList ms) :
    Meets (Builtin.«tuple.__lt__» ⟨[.ref l, .ref b], []⟩)
      (fun _ R s => s.heap.get? l = some { cls := .type "tuple", dict := dd, data := .seq items n, slots := sl } ∧ s.heap.get? b = some { cls := .type "tuple", dict := dd2, data := .seq items2 n2, slots := sl2 } ∧
        R (.ok (.ret (.bool (lexLt ns ms)))) s) :=
  .of_wp fun prog w A R s h => by
    obtain ⟨hp, g, d, tk, os⟩ := s; obtain ⟨hl, hb, h⟩ := h
    have f2 := AutoSeq1.sub_tuple_tuple
    have z1 : items.size = ns.length := by rw [← hi.length]; simp
    have z2 : items2.size = ms.length := by rw [← hj.length]; simp
    wp_walk using wpAny_loadPart' hl, wpAny_loadPart' hb, wpAny_forIn_list _ (fun rest b s' => b.1 = none ∧ s' = ⟨hp, g, d, tk, os⟩ ∧ ∃ (vs ws : List Value) (ns' ms' : List Int), rest = vs.zip ws ∧
      IntsAre vs ns' ∧ IntsAre ws ms' ∧ ns'.length + items2.size = ms'.length + items.size ∧ R (.ok (.ret (.bool (lexLt ns' ms')))) ⟨hp, g, d, tk, os⟩) _
    case turn =>
      rintro ⟨y, x⟩ rest b s' ⟨hb', rfl, vs, ws, ns', ms', hz, hvi, hwi, hlen, hR⟩
      cases hvi with
      | nil => rw [List.zip_nil_left] at hz; cases hz
      | cons a t hvi' =>
        cases hwi with
        | nil => rw [List.zip_nil_right] at hz; cases hz
        | cons c u hwi' =>
          rw [List.zip_cons_cons] at hz
          injection hz with hyx hrest
          injection hyx with hy hx
          subst hy hx
          rw [lexLt_cons] at hR
          simp only [List.length_cons] at hlen
          obtain ⟨e, he, hiff⟩ := eqAt_int A.in1 ⟨hp, g, d, tk, os⟩ a t c u
          refine wpAny_bind (he prog w _ _ ?_)
          cases e with
          | true =>
            rw [if_pos (hiff.mp rfl)] at hR
            wp_walk
            exact ⟨rfl, rfl, _, _, _, _, hrest, hvi', hwi', by omega, hR⟩
          | false =>
            rw [if_neg (fun q => absurd (hiff.mpr q) Bool.false_ne_true)] at hR
            have hri := rcLt_int A.in1 ⟨hp, g, d, tk, os⟩ a t c u prog w
            wp_walk using hri
            exact ⟨_, rfl, by simpa using hR⟩
    case fin =>
      rintro ⟨b1, b2⟩ s' ⟨hb', rfl, vs, ws, ns', ms', hz, hvi, hwi, hlen, hR⟩
      simp only at hb'
      subst hb'
      have hv : lexLt ns' ms' = decide (items.size < items2.size) := by
        cases hvi with
        | nil =>
          cases hwi with
          | nil =>
            simp only [List.length_nil] at hlen
            rw [lexLt_nil_nil]
            exact (decide_eq_false (by omega)).symm
          | cons c u hw =>
            simp only [List.length_nil, List.length_cons] at hlen
            rw [lexLt_nil_cons]
            exact (decide_eq_true (by omega)).symm
        | cons a t hv =>
          cases hwi with
          | nil =>
            simp only [List.length_nil, List.length_cons] at hlen
            rw [lexLt_cons_nil]
            exact (decide_eq_false (by omega)).symm
          | cons c u hw =>
            rw [List.zip_cons_cons] at hz
            cases hz
      rw [hv] at hR
      wp_walk
      exact ⟨_, rfl, by simpa [Builtin.Tuple.tupleCompareSizes] using hR⟩
    case h =>
      exact ⟨rfl, rfl, items.toList, items2.toList, ns, ms, rfl, hi, hj, by omega, h⟩
end

section
variable {prog : Program} {w : World} {A : Around} {E : Value → Shared → Prop} {s : Shared}

theorem lt_tupInts {l b : Addr} {items items2 : Array Value} {ns ms : List Int} {Q : Value → Shared → Prop} (hl : IsTup s.heap l items) (hb : IsTup s.heap b items2) (hi : IntsAre items.toList ns) (hj : IntsAre items2.toList ms)
    (hu : A.units < cLine) (h : Q (.bool (lexLt ns ms)) s) : wpAny (model prog w) A (compareOp .Lt (.ref l) (.ref b)) Q E s := by
  obtain ⟨⟨cls, dd, data, sl⟩, ho, hc, n, hd⟩ := id hl
  obtain ⟨⟨cls2, dd2, data2, sl2⟩, ho2, hc2, n2, hd2⟩ := id hb
  simp only at hc hd hc2 hd2
  subst hc hd hc2 hd2
  exact richCompare_meets_room (op := .Lt) ⟨_, ho, rfl⟩ ⟨_, ho2, rfl⟩ PySem.F.slot_tuple_lt PySem.F.entry_tuple_lt (PySem.F.args_tuple_lt_2 _ _) (tuple_lt_ints l b items items2 n n2 dd dd2 sl sl2 ns ms hi hj)
    ⟨ho, ho2, show Value.bool (lexLt ns ms) ≠ Value.notImplemented ∧ Q (.bool (lexLt ns ms)) s from ⟨(fun x => nomatch x), h⟩⟩ hu

/-- t + u, t not empty -/
theorem cat_tup {t b : Addr} {vs ws : List Value} {Q : Value → Shared → Prop} (ht : IsTup s.heap t vs.toArray) (hb : IsTup s.heap b ws.toArray) (hv : vs ≠ [])
    (h1 : ws = [] → Q (.ref t) s) (h2 : ws ≠ [] → Q (.ref s.heap.objs.size) { s with heap := s.heap.push { cls := .type "tuple", data := .seq (vs ++ ws).toArray } })
    (hsz : vs.length + ws.length ≤ sizeLine) : wpAny (model prog w) A (binaryOp .Add (.ref t) (.ref b)) Q E s := by
  obtain ⟨⟨cls, dd, data, sl⟩, ho, hc, n, hd⟩ := id ht
  obtain ⟨⟨cls2, dd2, data2, sl2⟩, ho2, hc2, n2, hd2⟩ := id hb
  simp only at hc hd hc2 hd2
  subst hc hd hc2 hd2
  have e : vs.toArray ++ ws.toArray = (vs ++ ws).toArray := by simp
  by_cases hw : ws = []
  · exact concat_meets ⟨_, ho, rfl⟩ ⟨_, ho2, rfl⟩ noFill_tuple_add seq_tuple_add PySem.F.slot_tuple_add PySem.F.entry_tuple_add (PySem.F.args_tuple_add_2 _ _)
      (tuple_addW1 t b vs.toArray ws.toArray n n2 dd dd2 sl sl2 (by simpa using hv) (by simp [hw])) ⟨ho, ho2, h1 hw⟩
  · refine concat_meets ⟨_, ho, rfl⟩ ⟨_, ho2, rfl⟩ noFill_tuple_add seq_tuple_add PySem.F.slot_tuple_add PySem.F.entry_tuple_add (PySem.F.args_tuple_add_2 _ _)
      (tuple_addW2 t b vs.toArray ws.toArray n n2 dd dd2 sl sl2 (by simpa using hv) (by simpa using hw) (by rw [List.size_toArray, List.size_toArray]; exact hsz)) ⟨ho, ho2, ?_⟩
    rw [e]
    exact h2 hw

/-! ### t[a:b], not the whole -/
/-- a slice's bound as a place among n (d where it is left out) -/
def sIx (n d : Nat) : Option Int → Nat
  | none => d
  | some v => if v < 0 then (v + (n : Int)).toNat else min v.toNat n
theorem sIx_none (n d : Nat) : sIx n d none = d := rfl
theorem sIx_nat (n d k : Nat) : sIx n d (some (k : Int)) = min k n := by
  show (if (k : Int) < 0 then ((k : Int) + (n : Int)).toNat else min (k : Int).toNat n) = min k n
  rw [if_neg (by omega), Int.toNat_natCast]
theorem sIx_le (n d : Nat) (hd : d ≤ n) (o : Option Int) : sIx n d o ≤ n := by
  cases o with
  | none => exact hd
  | some v =>
    show (if v < 0 then (v + (n : Int)).toNat else min v.toNat n) ≤ n
    by_cases hv : v < 0
    · rw [if_pos hv]; omega
    · rw [if_neg hv]; exact Nat.min_le_right _ _
theorem clip_eq (v : Int) (n d : Nat) : (if v < 0 then max (v + (n : Int)) 0 else min v (n : Int)) = ((sIx n d (some v) : Nat) : Int) := by
  show (if v < 0 then max (v + (n : Int)) 0 else min v (n : Int)) = (((if v < 0 then (v + (n : Int)).toNat else min v.toNat n) : Nat) : Int)
  by_cases hv : v < 0
  · simp only [if_pos hv]; omega
  · simp only [if_neg hv]; omega
theorem adjust_gen (lo hi : Option Int) (n : Nat) : Builtin.Slice.sliceAdjust lo hi 1 (n : Int) = (((sIx n 0 lo : Nat) : Int), ((sIx n n hi : Nat) : Int)) := by
  have h1 : ¬ ((1 : Int) < 0) := by omega
  unfold Builtin.Slice.sliceAdjust
  simp only [h1, if_false]
  refine Prod.ext ?_ ?_
  · cases lo with
    | none => rfl
    | some v => exact clip_eq v n 0
  · cases hi with
    | none => rfl
    | some v => exact clip_eq v n n
theorem places_gen (i j : Nat) : Builtin.Slice.slicePlaces (i : Int) (j : Int) 1 = j - i := by
  unfold Builtin.Slice.slicePlaces
  have h1 : (1 : Int) > 0 := by omega
  simp only [h1, if_true, Int.ediv_one]
  split <;> omega
theorem slicePart_ {v : Value} {o : Option Int} {Q : Option Int → Shared → Prop} (p : IsPart v o) (h : Q o s) : wpAny (model prog w) A (Builtin.Slice.slicePartIndex v) Q E s := by
  cases p with
  | none => exact slicePart_none h
  | int i t => exact slicePart_int h
theorem sliceApplied_gen {sl : Addr} {vl vu : Value} {lo hi : Option Int} {n : Nat} {Q : Int × Int × Nat → Shared → Prop} (hs : s.heap.IsSliceOf sl vl vu .none) (pl : IsPart vl lo) (pu : IsPart vu hi)
    (h : Q (((sIx n 0 lo : Nat) : Int), 1, sIx n n hi - sIx n 0 lo) s) : wpAny (model prog w) A (Builtin.Slice.sliceApplied (.ref sl) (pure (n : Int))) Q E s := by
  obtain ⟨os, hos, hcs, hds⟩ := id hs
  unfold Builtin.Slice.sliceApplied Builtin.Slice.sliceFields
  refine wpAny_bind (wpAny_bind (wpAny_field hos hds (x := vl) rfl (wpAny_bind (wpAny_field hos hds (x := vu) rfl (wpAny_bind (wpAny_field hos hds (x := .none) rfl (wpAny_pure ?_)))))))
  refine wpAny_bind (slicePart_none ?_)
  show wpAny _ _ (if ((1 : Int) == 0) = true then _ else _) _ _ s
  rw [if_neg (by decide)]
  refine wpAny_bind (slicePart_ pl (wpAny_bind (slicePart_ pu (wpAny_bind (wpAny_pure ?_)))))
  show wpAny _ _ (match Builtin.Slice.sliceAdjust lo hi 1 (n : Int) with | (lo, hi) => pure (lo, (1 : Int), Builtin.Slice.slicePlaces lo hi 1)) _ _ s
  rw [adjust_gen lo hi n]
  show wpAny _ _ (pure (((sIx n 0 lo : Nat) : Int), (1 : Int), Builtin.Slice.slicePlaces ((sIx n 0 lo : Nat) : Int) ((sIx n n hi : Nat) : Int) 1)) _ _ s
  rw [places_gen]
  exact wpAny_pure h
theorem pick_gen (xs : Array Value) (i k : Nat) : ((List.range k).filterMap fun (m : Nat) => xs[((i : Int) + (m : Int) * 1).toNat]?).toArray = ((xs.toList.drop i).take k).toArray := by
  have e : (fun (m : Nat) => xs[((i : Int) + (m : Int) * 1).toNat]?) = fun m => xs[i + m]? := by
    funext m
    have : ((i : Int) + (m : Int) * 1).toNat = i + m := by omega
    rw [this]
  rw [e]
  have := pick_run xs i k
  rw [List.filterMap_map] at this
  have e2 : ((fun x => xs[x]?) ∘ fun x => i + x) = fun m => xs[i + m]? := rfl
  rw [e2] at this
  rw [this]

theorem getItem_tuple_cut {t sl : Addr} {items : Array Value} {vl vu : Value} {lo hi : Option Int} {Q : Value → Shared → Prop} (ht : IsTup s.heap t items) (hs : s.heap.IsSliceOf sl vl vu .none) (pl : IsPart vl lo) (pu : IsPart vu hi)
    (hw : ¬ (sIx items.size 0 lo = 0 ∧ sIx items.size items.size hi = items.size))
    (h : Q (.ref s.heap.objs.size) { s with heap := s.heap.push { cls := .type "tuple", data := .seq ((items.toList.drop (sIx items.size 0 lo)).take (sIx items.size items.size hi - sIx items.size 0 lo)).toArray } })
    (hsz : items.size ≤ sizeLine) : wpAny (model prog w) A (getItem (.ref t) (.ref sl)) Q E s := by
  have htake : sizeOk (.seq ((items.toList.drop (sIx items.size 0 lo)).take (sIx items.size items.size hi - sIx items.size 0 lo)).toArray) := by
    show ((items.toList.drop (sIx items.size 0 lo)).take (sIx items.size items.size hi - sIx items.size 0 lo)).toArray.size ≤ sizeLine
    rw [List.size_toArray, List.length_take, List.length_drop, Array.length_toList]
    omega
  have hj : sIx items.size items.size hi ≤ items.size := sIx_le _ _ (Nat.le_refl _) hi
  obtain ⟨os, hos, hcs, hds⟩ := id hs
  have hTs : s.TypeIs (.ref sl) "slice" := ⟨os, hos, hcs⟩
  unfold getItem
  try with_reducible refine wpAny_holding ?_
  first | refine wpAny_bind (wpAny_pure ?_) | skip
  refine wpAny_bind (wpAny_sequenceKey ht.typeIs (by decide) ?_)
  refine wpAny_bind (wpAny_callSpecial?_slot (name := Str.ofString "__getitem__") ht.typeIs PyProof.Rows.slot_tuple_getitem
    (wpAny_call_entry PyProof.Rows.slot_tuple_getitem ht.typeIs entry_tuple_getitem ?_ (args_tuple_getitem _ _)))
  show wpAny _ _ (Builtin.Tuple.tupleItemsOf (.ref t) >>= _) _ _ s
  refine wpAny_bind (tupleItemsOf_ ht ?_)
  refine wpAny_bind (wpAny_typeOf hTs ?_)
  rw [if_pos (by decide)]
  refine wpAny_bind (sliceApplied_gen hs pl pu ?_)
  have hno : ¬ ((((sIx items.size 0 lo : Nat) : Int) == 0 && (1 : Int) == 1 && (sIx items.size items.size hi - sIx items.size 0 lo) == items.size) = true) := by
    intro q
    rw [Bool.and_eq_true, Bool.and_eq_true] at q
    have q1 : ((sIx items.size 0 lo : Nat) : Int) = 0 := eq_of_beq q.1.1
    have q2 : sIx items.size items.size hi - sIx items.size 0 lo = items.size := eq_of_beq q.2
    exact hw ⟨by omega, by omega⟩
  show wpAny _ _ (if (((sIx items.size 0 lo : Nat) : Int) == 0 && (1 : Int) == 1 && (sIx items.size items.size hi - sIx items.size 0 lo) == items.size) = true then _ else _) _ _ s
  rw [if_neg hno, pick_gen]
  first
    | exact wpAny_bind (m := Builtin.Tuple.tupleExact _) (wpAny_newObj_type (wpAny_pure ⟨_, rfl, wpAny_pure h⟩) htake)
    | exact wpAny_bind (m := Builtin.Tuple.tupleExact _) (wpAny_newObj_type (wpAny_bind (wpAny_pure (wpAny_pure ⟨_, rfl, wpAny_pure h⟩))) htake)
    | exact wpAny_bind (wpAny_bind (m := Builtin.Tuple.tupleExact _) (wpAny_newObj_type (wpAny_pure (wpAny_pure ⟨_, rfl, wpAny_pure h⟩)) htake))
    | exact wpAny_bind (wpAny_bind (m := Builtin.Tuple.tupleExact _) (wpAny_newObj_type (wpAny_pure ⟨_, rfl, wpAny_pure h⟩) htake))
end
end HT

namespace L2
open PySem PySem.Spec PyProof.Rows

/-! ### the parts of a slice -/
abbrev TO := St → Hp → (Option Int → Hp → Prop) → Prop
/-- a slice's part (left out, or an int) -/
def PO (X : Cx) (e : Option Expr) (t : TO) : Prop :=
  ∀ (pins : List (Addr × Obj)) (s : Shared) (σ : St) (H : Hp) (Q : Option Int → Hp → Prop), Inv X pins σ H s → t σ H Q →
    wpAny (model X.prog X.w) X.A (evalPart e X.env) (fun u s' => ∃ o H', Inv X pins σ H' s' ∧ IsPart u o ∧ Q o H') X.xe s
def tNoPart : TO := fun _ H Q => Q none H
def tPart (t : TE) : TO := fun σ H Q => t σ H fun x H1 => ∃ i, x = .int i ∧ Q (some i) H1

theorem intsAre_of {ns : List Int} : ∀ {us : List Value}, Vals (ns.map V.int) us → IntsAre us ns := by
  induction ns with
  | nil => intro us r; rw [List.map_nil] at r; cases r; exact .nil
  | cons n ns ih =>
    intro us r
    rw [List.map_cons] at r
    cases r with
    | cons r1 r2 =>
      obtain ⟨t, e⟩ := r1
      subst e
      exact .cons n t (ih r2)

section
variable {X : Cx} {e : Expr} {te : TE} {lo hi : Option Expr} {tl th : TO} {pos p2 : Pos}

theorem po_none : PO X none tNoPart := by
  intro pins s σ H Q I h
  rw [evalPart_none]
  exact wpAny_pure ⟨none, H, I, .none, h⟩
theorem po_some (h : PE X e te) : PO X (some e) (tPart te) := by
  intro pins s σ H Q I hw
  rw [evalPart_some]
  refine thn (h pins s σ H _ I hw) fun u s1 ⟨x, H1, I1, r1, q1⟩ => ?_
  obtain ⟨i, rfl, q⟩ := q1
  obtain ⟨t, rfl⟩ := r1
  exact ⟨some i, H1, I1, .int i t, q⟩

/-- what a slice of a value is, by values: the slice object stands at sl -/
def SlR (X : Cx) (r : V → Option Int → Option Int → Hp → VK → Prop) : Prop :=
  ∀ (pins : List (Addr × Obj)) (s : Shared) (σ : St) (H : Hp) (x : V) (v vl vu : Value) (lo hi : Option Int) (sl : Addr) (Q : VK), Inv X pins σ H s → RelV x v → s.heap.IsSliceOf sl vl vu .none → IsPart vl lo → IsPart vu hi → r x lo hi H Q →
    ∃ T id, typeLookup (.type T) "__getitem__" = pure (some (.builtin id)) ∧ s.TypeIs v T ∧ wpAny (model X.prog X.w) X.A (getItem v (.ref sl)) (EP X pins σ Q) X.xe s
theorem SlR.or {r r' : V → Option Int → Option Int → Hp → VK → Prop} (h : SlR X r) (h' : SlR X r') : SlR X (fun x lo hi H Q => r x lo hi H Q ∨ r' x lo hi H Q) := by
  intro pins s σ H x v vl vu lo hi sl Q I rx hs pl pu q
  rcases q with q | q
  · exact h pins s σ H x v vl vu lo hi sl Q I rx hs pl pu q
  · exact h' pins s σ H x v vl vu lo hi sl Q I rx hs pl pu q
def tSl (r : V → Option Int → Option Int → Hp → VK → Prop) (te : TE) (tl th : TO) : TE := fun σ H Q => te σ H fun x H1 => tl σ H1 fun l H2 => th σ H2 fun u H3 => r x l u H3 Q
/-- a[lo:hi], any a -/
theorem pe_slice {r : V → Option Int → Option Int → Hp → VK → Prop} (hr : SlR X r) (he : PE X e te) (hl : PO X lo tl) (hu : PO X hi th) : PE X (.Subscript e (.Slice lo hi none p2) pos) (tSl r te tl th) := by
  intro pins s σ H Q I h
  refine Subscript_ (thn (he pins s σ H _ I h) fun v s1 ⟨x, H1, I1, r1, q1⟩ => ?_)
  refine wpAny_Slice (thn (hl pins s1 σ H1 _ I1 q1) fun vl s2 ⟨l, H2, I2, pl, q2⟩ => thn (hu pins s2 σ H2 _ I2 q2) fun vu s3 ⟨u, H3, I3, pu, q3⟩ => ?_)
  rw [evalPart_none]
  refine wpAny_pure ?_
  have I4 : Inv X pins σ H3 { s3 with heap := s3.heap.push { cls := .type "slice", data := .fields #[vl, vu, .none] } } := I3.kept (t' := s3.toks) fun b ob q => Heap.get?_push_of_some _ q
  obtain ⟨T, id, hT, ht, hg⟩ := hr pins { s3 with heap := s3.heap.push { cls := .type "slice", data := .fields #[vl, vu, .none] } } σ H3 x v vl vu l u s3.heap.objs.size Q I4 r1 (Heap.IsSliceOf.new ..) pl pu q3
  show wpAny (model X.prog X.w) X.A (subscriptTail e (.Slice lo hi none p2) v (.ref s3.heap.objs.size)) (EP X pins σ Q) X.xe { s3 with heap := s3.heap.push { cls := .type "slice", data := .fields #[vl, vu, .none] } }
  exact tail_any (ops := [.ref s3.heap.objs.size, v]) ht hT hg (by with_unfolding_all rfl)

/-- the items of xs[lo:hi] -/
def cutV (xs : List V) (lo hi : Option Int) : List V := (xs.drop (HT.sIx xs.length 0 lo)).take (HT.sIx xs.length xs.length hi - HT.sIx xs.length 0 lo)
theorem cutV_length (xs : List V) (lo hi : Option Int) : (cutV xs lo hi).length ≤ xs.length := by
  unfold cutV
  rw [List.length_take, List.length_drop]
  omega
/-- t[lo:hi], not the whole of it (the whole would be t itself) -/
def rSlT (K : PySem.W.Frag) : V → Option Int → Option Int → Hp → VK → Prop := fun x lo hi H Q => ∃ a xs, x = .ref a ∧ SqT K H a xs ∧
  ¬ (HT.sIx xs.length 0 lo = 0 ∧ HT.sIx xs.length xs.length hi = xs.length) ∧ ∀ p, H p = none → Q (.ref p) (upd H p (.tup (cutV xs lo hi)))
theorem sl_tup : SlR X (rSlT X.K) := by
  intro pins s σ H x v vl vu lo hi sl Q I rx hs pl pu h
  obtain ⟨a, xs, rfl, hx, hw, q⟩ := h
  cases rx
  obtain ⟨its, r, ht, hz⟩ := I.tuple hx
  have hlen : its.toArray.size = xs.length := by rw [List.size_toArray]; exact r.length.symm
  refine ⟨"tuple", _, PyProof.Rows.slot_tuple_getitem.lookup, ht.typeIs, ?_⟩
  refine HT.getItem_tuple_cut ht hs pl pu (by rw [hlen]; exact hw) ?_ (by rw [hlen]; exact hz)
  rw [hlen]
  refine ⟨.ref s.heap.objs.size, _, I.laid (t' := s.toks) (o := .tup (cutV xs lo hi)) (fun b ob q => Heap.get?_push_of_some _ q) (Nat.le_refl _) ?_, rfl, q _ (I.hok.fresh (Nat.le_refl _))⟩
  exact ⟨Nat.le_trans (cutV_length xs lo hi) hz, _, (r.drop (HT.sIx xs.length 0 lo)).take (HT.sIx xs.length xs.length hi - HT.sIx xs.length 0 lo), IsTup.new _ _⟩

/-! ### t < u, t + u -/
def rLtT (K : PySem.W.Frag) : R2 := fun x y H Q => ∃ a b ns ms, x = .ref a ∧ y = .ref b ∧ SqT K H a (ns.map V.int) ∧ SqT K H b (ms.map V.int) ∧ Q (.bl (HT.lexLt ns ms)) H
theorem op_ltT (hu : X.A.units < cLine) : OpR X (compareOp .Lt) (rLtT X.K) := by
  intro pins s σ H x y v u Q I rx ry h
  obtain ⟨a, b, ns, ms, rfl, rfl, ha, hb, q⟩ := h
  cases rx
  cases ry
  obtain ⟨its, r1, p1, _⟩ := I.tuple ha
  obtain ⟨its2, r2, p2, _⟩ := I.tuple hb
  have i1 : IntsAre its.toArray.toList ns := intsAre_of r1
  have i2 : IntsAre its2.toArray.toList ms := intsAre_of r2
  exact HT.lt_tupInts p1 p2 i1 i2 hu ⟨.bl (HT.lexLt ns ms), H, I, rfl, q⟩
/-- t + u, t not empty: u empty gives t itself -/
def rCatT (K : PySem.W.Frag) : R2 := fun x y H Q => ∃ a b xs ys, x = .ref a ∧ y = .ref b ∧ SqT K H a xs ∧ SqT K H b ys ∧ xs ≠ [] ∧ xs.length + ys.length ≤ sizeLine ∧
  (ys = [] → Q (.ref a) H) ∧ (ys ≠ [] → ∀ p, H p = none → Q (.ref p) (upd H p (.tup (xs ++ ys))))
theorem Vals.nil_iff {xs : List V} {us : List Value} (r : Vals xs us) : us = [] ↔ xs = [] := by
  cases r with
  | nil => simp
  | cons _ _ => simp
theorem op_catT : OpR X (binaryOp .Add) (rCatT X.K) := by
  intro pins s σ H x y v u Q I rx ry h
  obtain ⟨a, b, xs, ys, rfl, rfl, ha, hb, hx, hz, q1, q2⟩ := h
  cases rx
  cases ry
  obtain ⟨its, r1, p1, _⟩ := I.tuple ha
  obtain ⟨its2, r2, p2, _⟩ := I.tuple hb
  refine HT.cat_tup p1 p2 (fun z => hx (r1.nil_iff.mp z)) (fun z => ⟨.ref a, H, I, rfl, q1 (r2.nil_iff.mp z)⟩) (fun z => ?_) (by rw [← r1.length, ← r2.length]; exact hz)
  refine ⟨.ref s.heap.objs.size, _, I.laid (t' := s.toks) (o := .tup (xs ++ ys)) (fun b ob q => Heap.get?_push_of_some _ q) (Nat.le_refl _) ?_, rfl, q2 (fun w => z (r2.nil_iff.mpr w)) _ (I.hok.fresh (Nat.le_refl _))⟩
  exact ⟨by rw [List.length_append]; exact hz, _, r1.append r2, IsTup.new _ _⟩
/-- tuple(t) -/
theorem call_tupleT : CallR X (.type "tuple") (fun xs H Q => ∃ a ys, xs = [.ref a] ∧ SqT X.K H a ys ∧ Q (.ref a) H) := by
  intro pins s σ H xs us Q I r h
  obtain ⟨a, ys, rfl, ha, q⟩ := h
  obtain ⟨u, rfl, ru⟩ := vals1 r
  cases ru
  obtain ⟨its, _, p1, _⟩ := I.tuple ha
  exact call_tuple_same (items := its.toArray) p1 ⟨.ref a, H, I, rfl, q⟩
end
end L2

namespace L2
open PySem PySem.Spec PyProof.Rows

/-! ### places -/
/-- the place that an index of any sign means -/
def ixN (n : Nat) (i : Int) : Option Nat := if 0 ≤ i then (if i < n then some i.toNat else none) else if -(n : Int) ≤ i then some (i + n).toNat else none
def atI {α : Type} (xs : List α) (i : Int) : Option α := (ixN xs.length i).bind fun j => xs[j]?
theorem ixN_seq {n : Nat} {i : Int} {j : Nat} (h : ixN n i = some j) : seqIndex? i n = some j ∧ j < n ∧ -(n : Int) ≤ i ∧ i < n := by
  unfold ixN at h
  by_cases h0 : 0 ≤ i
  · rw [if_pos h0] at h
    by_cases h1 : i < n
    · rw [if_pos h1] at h
      have e : i.toNat = j := Option.some.inj h
      exact ⟨by rw [seqIndex_of h0 h1, e], by omega, by omega, h1⟩
    · rw [if_neg h1] at h; cases h
  · rw [if_neg h0] at h
    by_cases h1 : -(n : Int) ≤ i
    · rw [if_pos h1] at h
      have e : (i + n).toNat = j := Option.some.inj h
      exact ⟨by rw [seqIndex_neg (by omega) h1, e], by omega, h1, by omega⟩
    · rw [if_neg h1] at h; cases h
theorem atI_get {α : Type} {xs : List α} {i : Int} {v : α} (h : atI xs i = some v) : ∃ j, seqIndex? i xs.length = some j ∧ xs[j]? = some v ∧ j < xs.length ∧ -(xs.length : Int) ≤ i ∧ i < xs.length := by
  unfold atI at h
  cases e : ixN xs.length i with
  | none => rw [e] at h; cases h
  | some j =>
    rw [e] at h
    obtain ⟨h1, h2, h3, h4⟩ := ixN_seq e
    exact ⟨j, h1, h, h2, h3, h4⟩
theorem atI_nat {α : Type} {xs : List α} {j : Nat} {v : α} (h : xs[j]? = some v) : atI xs (j : Int) = some v := by
  have hj : j < xs.length := (List.getElem?_eq_some_iff.mp h).1
  have e : ixN xs.length (j : Int) = some j := by
    unfold ixN
    rw [if_pos (by omega), if_pos (by omega)]; simp
  unfold atI; rw [e]; exact h
theorem atI_last {α : Type} (xs : List α) (v : α) : atI (xs ++ [v]) (-1) = some v := by
  have hl : (xs ++ [v]).length = xs.length + 1 := by simp
  have e : ixN (xs ++ [v]).length (-1) = some xs.length := by
    unfold ixN
    rw [hl, if_neg (by decide), if_pos (by omega)]
    congr 1
    omega
  unfold atI
  rw [e]
  show (xs ++ [v])[xs.length]? = some v
  simp

/-! ### what may be subscripted -/
/-- what stands as an index of a plain subscript -/
def PlainIx (b : Expr) : Prop := ∀ o i, subscripted b false o i = operate [o, i] (getItem o i)
/-- a subscript by values -/
def IxR (X : Cx) (r : R2) : Prop :=
  ∀ (value slice : Expr) (pins : List (Addr × Obj)) (s : Shared) (σ : St) (H : Hp) (x y : V) (v u : Value) (Q : VK), Inv X pins σ H s → RelV x v → RelV y u → r x y H Q →
    subscripted slice false v u = operate [v, u] (getItem v u) → wpAny (model X.prog X.w) X.A (subscriptTail value slice v u) (EP X pins σ Q) X.xe s
/-- a call of a builtin's method by values: the receiver, the arguments -/
def MtR (X : Cx) (id : String) (r : V → List V → Hp → VK → Prop) : Prop :=
  ∀ (pins : List (Addr × Obj)) (s : Shared) (σ : St) (H : Hp) (x : V) (xs : List V) (v : Value) (us : List Value) (Q : VK), Inv X pins σ H s → RelV x v → Vals xs us → r x xs H Q →
    wpAny (model X.prog X.w) X.A (call (.builtin id) (v :: us)) (EP X pins σ Q) X.xe s
section
variable {X : Cx} {a b : Expr} {ta tb : TE} {pos : Pos}
theorem IxR.or {r r' : R2} (h : IxR X r) (h' : IxR X r') : IxR X (fun x y H Q => r x y H Q ∨ r' x y H Q) := by
  intro value slice pins s σ H x y v u Q I rx ry q hs
  rcases q with q | q
  · exact h value slice pins s σ H x y v u Q I rx ry q hs
  · exact h' value slice pins s σ H x y v u Q I rx ry q hs
theorem MtR.or {id : String} {r r' : V → List V → Hp → VK → Prop} (h : MtR X id r) (h' : MtR X id r') : MtR X id (fun x xs H Q => r x xs H Q ∨ r' x xs H Q) := by
  intro pins s σ H x xs v us Q I rx rs q
  rcases q with q | q
  · exact h pins s σ H x xs v us Q I rx rs q
  · exact h' pins s σ H x xs v us Q I rx rs q
/-- a[b] -/
theorem pe_ix {r : R2} (hr : IxR X r) (ha : PE X a ta) (hb : PE X b tb) (hs : PlainIx b) : PE X (.Subscript a b pos) (tOp r ta tb) := by
  intro pins s σ H Q I h
  exact Subscript_ (binT ha hb I h fun v u s2 x y H2 I2 rx ry q => hr a b pins s2 σ H2 x y v u Q I2 rx ry q (hs _ _))

def rIxL (K : PySem.W.Frag) : R2 := fun x y H Q => ∃ p xs i v, x = .ref p ∧ y = .int i ∧ SqL K H p xs ∧ atI xs i = some v ∧ Q v H
def rIxT (K : PySem.W.Frag) : R2 := fun x y H Q => ∃ p xs i v, x = .ref p ∧ y = .int i ∧ SqT K H p xs ∧ atI xs i = some v ∧ Q v H
def rIxS : R2 := fun x y H Q => ∃ z i c, x = .str z ∧ y = .int i ∧ z.length ≤ sizeLine ∧ atI z.cps.toList i = some c ∧ Q (.str ⟨#[c]⟩) H
theorem ix_list : IxR X (rIxL X.K) := by
  intro value slice pins s σ H x y v u Q I rx ry h hs
  obtain ⟨p, xs, i, z, rfl, rfl, hq, he, q⟩ := h
  cases rx
  obtain ⟨t, rfl⟩ := ry
  obtain ⟨its, r, pl, hz⟩ := I.list hq
  obtain ⟨j, h1, h2, h3, h4, h5⟩ := atI_get he
  obtain ⟨w, ew, rw'⟩ := r.get h2
  have hl := r.length
  have hn := line63
  have fin : EP X pins σ Q w s := ⟨z, H, I, rw', q⟩
  by_cases h0 : 0 ≤ i
  · have hj : i.toNat = j := by
      rw [seqIndex_of h0 h5] at h1
      exact Option.some.inj h1
    exact item_listR pl.isList h0 (by omega) (by rw [hj]; simpa using ew) fin hs
  · have hj : (i + (its.toArray.size : Int)).toNat = j := by
      rw [seqIndex_neg (by omega) h4] at h1
      rw [List.size_toArray, ← hl]
      exact Option.some.inj h1
    exact subscriptTail_builtinR (x := w) pl.isList.typeIs slot_list_getitem.lookup
      (wpAny_getItem_list_neg (Q := fun r s' => r = w ∧ EP X pins σ Q r s') pl.isList (by omega) (by rw [List.size_toArray] <;> omega) (by omega) (by rw [hj]; simpa using ew) ⟨rfl, fin⟩) hs
theorem ix_tup : IxR X (rIxT X.K) := by
  intro value slice pins s σ H x y v u Q I rx ry h hs
  obtain ⟨p, xs, i, z, rfl, rfl, hq, he, q⟩ := h
  cases rx
  obtain ⟨t, rfl⟩ := ry
  obtain ⟨its, r, pl, hz⟩ := I.tuple hq
  obtain ⟨j, h1, h2, h3, h4, h5⟩ := atI_get he
  obtain ⟨w, ew, rw'⟩ := r.get h2
  have hl := r.length
  have hn := line63
  have fin : EP X pins σ Q w s := ⟨z, H, I, rw', q⟩
  exact subscriptTail_builtinR (x := w) pl.typeIs slot_tuple_getitem.lookup
    (getItem_tuple (j := j) (Q := fun r s' => r = w ∧ EP X pins σ Q r s') pl (by omega) (by omega) (by rw [List.size_toArray, ← hl]; exact h1) (by simpa using ew) ⟨rfl, fin⟩) hs
theorem ix_str : IxR X rIxS := by
  intro value slice pins s σ H x y v u Q I rx ry h hs
  obtain ⟨z, i, c, rfl, rfl, hz, he, q⟩ := h
  obtain ⟨t, rfl⟩ := rx
  obtain ⟨t', rfl⟩ := ry
  obtain ⟨j, h1, h2, h3, h4, h5⟩ := atI_get he
  have hl : z.cps.toList.length = z.length := by simp [Str.length]
  rw [hl] at h1 h4 h5
  have hn := line63
  exact tail_any (typeIs_str s z t) slot_str_getitem.lookup (getItem_str (c := c) (by
    have e1 : decide (i < -(2 ^ 63 : Int)) = false := decide_eq_false (by omega)
    have e2 : decide (i ≥ 2 ^ 63) = false := decide_eq_false (by omega)
    rw [e1, e2, Bool.or_false]) (by rw [h1]; simpa using h2) ⟨.str ⟨#[c]⟩, H, I.tok _, ⟨_, rfl⟩, q⟩) hs
/-- list, tuple or str -/
def rIx (K : PySem.W.Frag) : R2 := fun x y H Q => rIxL K x y H Q ∨ rIxT K x y H Q ∨ rIxS x y H Q
theorem ix_seq : IxR X (rIx X.K) := ix_list.or (ix_tup.or ix_str)

/-! ### xs[i] = v, any sign -/
/-- the list's object behind a store -/
theorem mapSeq_set (its : List Value) (n j : Nat) (u : Value) : Obj.mapSeq (·.setIfInBounds j u) { cls := .type "list", data := .seq its.toArray n } = { cls := .type "list", data := .seq (its.set j u).toArray n } := by
  simp [Obj.mapSeq]
theorem Inv.lst {pins : List (Addr × Obj)} {σ : St} {H : Hp} {s : Shared} {p : Addr} {xs : List V} (I : Inv X pins σ H s) (h : H p = some (.lst xs)) :
    ∃ (its : List Value) (n : Nat), Vals xs its ∧ s.heap.get? p = some { cls := .type "list", data := .seq its.toArray n } ∧ xs.length ≤ sizeLine := by
  obtain ⟨z, its, n, r, e⟩ := I.hok p _ h
  exact ⟨its, n, r, e, z⟩
/-- the list at p is written by an update of its object -/
theorem Inv.lstUpd {pins : List (Addr × Obj)} {σ : St} {H : Hp} {s : Shared} {p : Addr} {xs ys : List V} {its its' : List Value} {n n' : Nat} {f : Obj → Obj} (I : Inv X pins σ H s) (h : H p = some (.lst xs))
    (ho : s.heap.get? p = some { cls := .type "list", data := .seq its.toArray n }) (hf : f { cls := .type "list", data := .seq its.toArray n } = { cls := .type "list", data := .seq its'.toArray n' }) (r : Vals ys its') (hz : ys.length ≤ sizeLine) (t : Nat) :
    Inv X pins σ (upd H p (.lst ys)) { s with heap := s.heap.update p f, toks := t } := by
  have e : (s.heap.update p f).get? p = some { cls := .type "list", data := .seq its'.toArray n' } := by
    rw [Heap.get?_update_self f ho (by rw [hf] <;> rfl), hf]
  refine I.write (x := p) (e := p) (by rw [h]; trivial) (.inl rfl) (fun b u hb q => (Heap.get?_update_other _ _ (Ne.symm hb)).trans q) ⟨_, e⟩ ?_
  exact ⟨hz, its', n', r, e⟩
def rSetL : V → V → V → Hp → (Hp → Prop) → Prop := fun o i v H Q => ∃ p xs k j, o = .ref p ∧ i = .int k ∧ H p = some (.lst xs) ∧ ixN xs.length k = some j ∧ Q (upd H p (.lst (xs.set j v)))
theorem set_list : PSet X rSetL := by
  intro pins s σ H o i v ov iv u Q I ro ri rv h
  obtain ⟨p, xs, k, j, rfl, rfl, hp, hj, q⟩ := h
  cases ro
  obtain ⟨t, rfl⟩ := ri
  obtain ⟨its, n, r, ho, hz⟩ := I.lst hp
  obtain ⟨h1, h2, h3, h4⟩ := ixN_seq hj
  have hl := r.length
  have hn := line63
  have I' : Inv X pins σ (upd H p (.lst (xs.set j v))) { s with heap := s.heap.update p (Obj.mapSeq (·.setIfInBounds j u)) } :=
    I.lstUpd hp ho (mapSeq_set its n j u) (r.set rv j) (by rw [List.length_set]; exact hz) s.toks
  by_cases h0 : 0 ≤ k
  · have hk : k.toNat = j := by
      rw [seqIndex_of h0 h4] at h1
      exact Option.some.inj h1
    exact PySem.W.ki_setAt ho h0 (by omega) (by rw [List.size_toArray, ← hl]; exact h4) (by rw [hk]; exact ⟨_, I', q⟩)
  · have hk : (k + (its.toArray.size : Int)).toNat = j := by
      rw [seqIndex_neg (by omega) h3] at h1
      rw [List.size_toArray, ← hl]
      exact Option.some.inj h1
    exact PySem.W.ki_setBack ho (by omega) (by rw [List.size_toArray, ← hl]; exact h3) (by omega) (by rw [hk]; exact ⟨_, I', q⟩)

/-! ### slices -/
theorem slice_bounds (lo hi : Option Int) (n : Nat) : (sliceBounds lo hi none n).1 = ((HT.sIx n 0 lo : Nat) : Int) ∧ (sliceBounds lo hi none n).2.1 = ((HT.sIx n n hi : Nat) : Int) ∧ (sliceBounds lo hi none n).2.2 = 1 := by
  refine ⟨?_, ?_, rfl⟩
  · cases lo with
    | none => simp [sliceBounds, HT.sIx]
    | some i =>
      simp only [sliceBounds, HT.sIx, Option.getD_none, show (1 : Int) > 0 by decide, if_true]
      by_cases h : i < 0
      · simp only [h, if_true] <;> omega
      · simp only [h, if_false] <;> omega
  · cases hi with
    | none => simp [sliceBounds, HT.sIx]
    | some i =>
      simp only [sliceBounds, HT.sIx, Option.getD_none, show (1 : Int) > 0 by decide, if_true]
      by_cases h : i < 0
      · simp only [h, if_true] <;> omega
      · simp only [h, if_false] <;> omega
theorem slicePick_cut (its : List Value) (lo hi : Option Int) : slicePick its.toArray lo hi none = ((its.drop (HT.sIx its.length 0 lo)).take (HT.sIx its.length its.length hi - HT.sIx its.length 0 lo)).toArray := by
  obtain ⟨h1, h2, h3⟩ := slice_bounds lo hi its.toArray.size
  unfold slicePick
  rw [h1, h2, h3]
  simp only [sliceRange_one, pick_run, List.size_toArray] <;> rfl
/-- xs[lo:hi] of a list: a new list -/
def rSlL (K : PySem.W.Frag) : V → Option Int → Option Int → Hp → VK → Prop := fun x lo hi H Q => ∃ a xs, x = .ref a ∧ SqL K H a xs ∧ ∀ p, H p = none → Q (.ref p) (upd H p (.lst (cutV xs lo hi)))
theorem sl_list : SlR X (rSlL X.K) := by
  intro pins s σ H x v vl vu lo hi sl Q I rx hs pl pu h
  obtain ⟨a, xs, rfl, hx, q⟩ := h
  cases rx
  obtain ⟨its, r, ht, hz⟩ := I.list hx
  have hlen := r.length
  refine ⟨"list", _, slot_list_getitem.lookup, ht.isList.typeIs, ?_⟩
  refine wpAny_getItem_list_slice ht.isList hs pl pu .none (by simp) ?_ (by rw [List.size_toArray] <;> omega)
  rw [slicePick_cut, ← hlen]
  refine ⟨.ref s.heap.objs.size, _, I.laid (t' := s.toks) (o := .lst (cutV xs lo hi)) (fun b ob q => Heap.get?_push_of_some _ q) (Nat.le_refl _) ?_, rfl, q _ (I.hok.fresh (Nat.le_refl _))⟩
  exact ⟨Nat.le_trans (cutV_length xs lo hi) hz, _, 0, (r.drop (HT.sIx xs.length 0 lo)).take (HT.sIx xs.length xs.length hi - HT.sIx xs.length 0 lo), Heap.get?_push_size _ rfl⟩

/-! ### in, not in: flat items -/
def flatV : V → Bool
  | .non => true
  | .bl _ => true
  | .int _ => true
  | .str _ => true
  | _ => false
/-- == of flat values -/
def eqV : V → V → Bool
  | .non, .non => true
  | .bl a, .bl b => a == b
  | .bl a, .int b => (if a then 1 else 0) == b
  | .int a, .bl b => a == (if b then 1 else 0)
  | .int a, .int b => a == b
  | .str a, .str b => a == b
  | _, _ => false
theorem eqAt_V {A : Around} {s : Shared} {y x : V} {u v : Value} (ry : RelV y u) (rx : RelV x v) (fy : flatV y = true) (fx : flatV x = true) : SeqAt.EqAt A s u v (eqV y x) := by
  cases y with
  | non =>
    cases ry
    cases x with
    | non => cases rx; exact SeqAt.EqAt.same _
    | bl b => cases rx; exact SeqAt.EqAt.none_bool b
    | int b => obtain ⟨t, rfl⟩ := rx; exact SeqAt.EqAt.none_int b t
    | str b => obtain ⟨t, rfl⟩ := rx; exact SeqAt.EqAt.none_str b t
    | _ => exact absurd (show false = true from fx) Bool.false_ne_true
  | bl a =>
    cases ry
    cases x with
    | non => cases rx; exact SeqAt.EqAt.bool_none a
    | bl b => cases rx; exact SeqAt.EqAt.bool_bool a b
    | int b => obtain ⟨t, rfl⟩ := rx; exact SeqAt.EqAt.bool_int a b t
    | str b => obtain ⟨t, rfl⟩ := rx; exact SeqAt.EqAt.bool_str a b t
    | _ => exact absurd (show false = true from fx) Bool.false_ne_true
  | int a =>
    obtain ⟨t', rfl⟩ := ry
    cases x with
    | non => cases rx; exact SeqAt.EqAt.int_none a t'
    | bl b => cases rx; exact SeqAt.EqAt.int_bool a t' b
    | int b => obtain ⟨t, rfl⟩ := rx; exact SeqAt.EqAt.int_int a t' b t
    | str b => obtain ⟨t, rfl⟩ := rx; exact SeqAt.EqAt.int_str a t' b t
    | _ => exact absurd (show false = true from fx) Bool.false_ne_true
  | str a =>
    obtain ⟨t', rfl⟩ := ry
    cases x with
    | non => cases rx; exact SeqAt.EqAt.str_none a t'
    | bl b => cases rx; exact SeqAt.EqAt.str_bool a t' b
    | int b => obtain ⟨t, rfl⟩ := rx; exact SeqAt.EqAt.str_int a t' b t
    | str b => obtain ⟨t, rfl⟩ := rx; exact SeqAt.EqAt.str_str a t' b t
    | _ => exact absurd (show false = true from fx) Bool.false_ne_true
  | _ => exact absurd (show false = true from fy) Bool.false_ne_true
/-- the items' answers, read off the values (a value's own answer does not lean on its token) -/
def eqU (x : V) (u : Value) : Bool := match u with
  | .none => eqV .non x
  | .bool b => eqV (.bl b) x
  | .int i _ => eqV (.int i) x
  | .str z _ => eqV (.str z) x
  | _ => false
theorem eqU_of {x y : V} {u : Value} (r : RelV y u) (f : flatV y = true) : eqU x u = eqV y x := by
  cases y with
  | non => cases r; rfl
  | bl b => cases r; rfl
  | int i => obtain ⟨t, rfl⟩ := r; rfl
  | str z => obtain ⟨t, rfl⟩ := r; rfl
  | _ => exact absurd (show false = true from f) Bool.false_ne_true
theorem any_eqU {x : V} : ∀ {xs : List V} {us : List Value}, Vals xs us → xs.all flatV = true → us.any (eqU x) = xs.any fun y => eqV y x
  | _, _, .nil, _ => rfl
  | y :: xs, u :: us, .cons r t, f => by
    rw [List.all_cons, Bool.and_eq_true] at f
    rw [List.any_cons, List.any_cons, eqU_of r f.1, any_eqU t f.2]
theorem mem_eqAt {A : Around} {s : Shared} {x : V} {v : Value} (rx : RelV x v) (fx : flatV x = true) : ∀ {xs : List V} {us : List Value}, Vals xs us → xs.all flatV = true → ∀ u ∈ us, SeqAt.EqAt A s u v (eqU x u)
  | _, _, .nil, _ => fun u hu => by cases hu
  | y :: xs, u :: us, .cons r t, f => fun u' hu => by
    rw [List.all_cons, Bool.and_eq_true] at f
    rcases List.mem_cons.mp hu with rfl | hu
    · rw [eqU_of r f.1]; exact eqAt_V r rx f.1 fx
    · exact mem_eqAt rx fx t f.2 u' hu
def inV (x : V) (xs : List V) : Bool := xs.any fun y => eqV y x
/-- x in a list or tuple of flat items -/
def rIn (K : PySem.W.Frag) (neg : Bool) : R2 := fun x y H Q => ∃ p xs, y = .ref p ∧ (SqL K H p xs ∨ SqT K H p xs) ∧ flatV x = true ∧ xs.all flatV = true ∧ Q (.bl (if neg then !inV x xs else inV x xs)) H
theorem op_in_seq : OpR X (compareOp .In) (rIn X.K false) := by
  intro pins s σ H x y v u Q I rx ry h
  obtain ⟨p, xs, rfl, hq, fx, fs, q⟩ := h
  cases ry
  rcases hq with hq | hq
  · obtain ⟨its, r, pl, hz⟩ := I.list hq
    refine SeqAt.in_listAt (eqU x) pl.isList (fun w hw => mem_eqAt rx fx r fs w (by simpa using hw)) ⟨.bl _, H, I, rfl, ?_⟩
    rw [show its.toArray.any (eqU x) = its.any (eqU x) by simp, any_eqU r fs]
    exact q
  · obtain ⟨its, r, pl, hz⟩ := I.tuple hq
    refine SeqAt.in_tupleAt (eqU x) pl (fun w hw => mem_eqAt rx fx r fs w (by simpa using hw)) ⟨.bl _, H, I, rfl, ?_⟩
    rw [show its.toArray.any (eqU x) = its.any (eqU x) by simp, any_eqU r fs]
    exact q
theorem op_notIn_seq : OpR X (compareOp .NotIn) (rIn X.K true) := by
  intro pins s σ H x y v u Q I rx ry h
  obtain ⟨p, xs, rfl, hq, fx, fs, q⟩ := h
  cases ry
  rcases hq with hq | hq
  · obtain ⟨its, r, pl, hz⟩ := I.list hq
    refine SeqAt.notIn_listAt (eqU x) pl.isList (fun w hw => mem_eqAt rx fx r fs w (by simpa using hw)) ⟨.bl _, H, I, rfl, ?_⟩
    rw [show its.toArray.any (eqU x) = its.any (eqU x) by simp, any_eqU r fs]
    exact q
  · obtain ⟨its, r, pl, hz⟩ := I.tuple hq
    refine SeqAt.notIn_tupleAt (eqU x) pl (fun w hw => mem_eqAt rx fx r fs w (by simpa using hw)) ⟨.bl _, H, I, rfl, ?_⟩
    rw [show its.toArray.any (eqU x) = its.any (eqU x) by simp, any_eqU r fs]
    exact q
theorem op_notIn_str : OpR X (compareOp .NotIn) (fun x y H Q => ∃ i j, x = .str i ∧ y = .str j ∧ Q (.bl (!(!(Builtin.Str.occurrences j i 0 j.length 1).isEmpty))) H) := by
  intro pins s σ H x y v u Q I rx ry h
  obtain ⟨i, j, rfl, rfl, q⟩ := h
  obtain ⟨t, rfl⟩ := rx
  obtain ⟨t', rfl⟩ := ry
  exact notIn_str ⟨.bl _, H, I, rfl, q⟩

/-! ### len, list(x), tuple(x) of any list or tuple that is read -/
theorem call_len_seq : CallR X (.builtin "len") (fun xs H Q => ∃ p ys, xs = [.ref p] ∧ (SqL X.K H p ys ∨ SqT X.K H p ys) ∧ Q (.int ys.length) H) := by
  intro pins s σ H xs us Q I r h
  obtain ⟨p, ys, rfl, hq, q⟩ := h
  obtain ⟨u, rfl, rx⟩ := vals1 r
  cases rx
  have hn := line63
  rcases hq with hq | hq
  · obtain ⟨its, r', pl, hz⟩ := I.list hq
    have hlen := r'.length
    exact Calls.call_len_list pl.isList (by simp only [List.size_toArray] <;> omega) ⟨.int ys.length, H, I.tok _, ⟨s.toks + 1, by rw [List.size_toArray, hlen]⟩, q⟩
  · obtain ⟨its, r', pl, hz⟩ := I.tuple hq
    have hlen := r'.length
    exact len_tuple pl (by simp only [List.size_toArray] <;> omega) ⟨.int ys.length, H, I.tok _, ⟨s.toks + 1, by rw [List.size_toArray, hlen]⟩, q⟩
theorem call_len_str : CallR X (.builtin "len") (fun xs H Q => ∃ z, xs = [.str z] ∧ z.length ≤ sizeLine ∧ Q (.int z.length) H) := by
  intro pins s σ H xs us Q I r h
  obtain ⟨z, rfl, hz, q⟩ := h
  obtain ⟨u, rfl, t, rfl⟩ := vals1 r
  have hn := line63
  exact len_str (by omega) ⟨.int z.length, H, I.tok _, ⟨_, rfl⟩, q⟩
theorem CallR.or {f : Value} {r r' : List V → Hp → VK → Prop} (h : CallR X f r) (h' : CallR X f r') : CallR X f (fun xs H Q => r xs H Q ∨ r' xs H Q) := by
  intro pins s σ H xs us Q I rs q
  rcases q with q | q
  · exact h pins s σ H xs us Q I rs q
  · exact h' pins s σ H xs us Q I rs q
theorem call_list_of : CallR X (.type "list") (fun xs H Q => ∃ p ys, xs = [.ref p] ∧ (SqL X.K H p ys ∨ SqT X.K H p ys) ∧ ∀ l, H l = none → Q (.ref l) (upd H l (.lst ys))) := by
  intro pins s σ H xs us Q I r h
  obtain ⟨p, ys, rfl, hq, q⟩ := h
  obtain ⟨u, rfl, rx⟩ := vals1 r
  cases rx
  have fin : ∀ (its : List Value), Vals ys its → ys.length ≤ sizeLine → ∀ (h' : Heap) (c' : Nat), (∀ b o', s.heap.get? b = some o' → h'.get? b = some o') →
      h'.get? s.heap.objs.size = some { cls := .type "list", dict := none, data := .seq its.toArray c', slots := #[] } → EP X pins σ Q (.ref s.heap.objs.size) { s with heap := h' } := fun its r' hz h' c' kp e =>
    ⟨.ref s.heap.objs.size, _, I.laid (t' := s.toks) kp (Nat.le_refl _) (show ObjOk X.prog X.w _ h' _ (.lst ys) from ⟨hz, its, c', r', e⟩), rfl, q _ (I.hok.fresh (Nat.le_refl _))⟩
  rcases hq with hq | hq
  · obtain ⟨its, r', pl, hz⟩ := I.list hq
    have hlen := r'.length
    obtain ⟨o, ho, hc, n, hd⟩ := pl.isList
    exact call_list_seq p (.inl rfl) ho hc hd (fun h' c' kp e => fin its r' hz h' c' kp e) (by simp only [List.size_toArray] <;> omega)
  · obtain ⟨its, r', pl, hz⟩ := I.tuple hq
    have hlen := r'.length
    obtain ⟨o, ho, hc, n, hd⟩ := pl
    exact call_list_seq p (.inr rfl) ho hc hd (fun h' c' kp e => fin its r' hz h' c' kp e) (by simp only [List.size_toArray] <;> omega)
theorem call_tuple_of : CallR X (.type "tuple") (fun xs H Q => ∃ p ys, xs = [.ref p] ∧ ((SqL X.K H p ys ∧ ∀ l, H l = none → Q (.ref l) (upd H l (.tup ys))) ∨ (SqT X.K H p ys ∧ Q (.ref p) H))) := by
  intro pins s σ H xs us Q I r h
  obtain ⟨p, ys, rfl, h⟩ := h
  obtain ⟨u, rfl, rx⟩ := vals1 r
  cases rx
  rcases h with ⟨hq, q⟩ | ⟨hq, q⟩
  · obtain ⟨its, r', pl, hz⟩ := I.list hq
    have hlen := r'.length
    refine call_tuple_list pl.isList (fun h' kp => ?_) (by simp only [List.size_toArray] <;> omega)
    have I1 : Inv X pins σ H { s with heap := h' } := I.kept (t' := s.toks) kp
    have I2 : Inv X pins σ (upd H h'.objs.size (.tup ys)) { s with heap := h'.push { cls := .type "tuple", data := .seq its.toArray } } :=
      I1.laid (t' := s.toks) (fun b o e => Heap.get?_push_of_some _ e) (Nat.le_refl _) (show ObjOk X.prog X.w _ _ _ (.tup ys) from ⟨hz, its, r', IsTup.new _ _⟩)
    exact ⟨.ref h'.objs.size, _, I2, rfl, q _ (I1.hok.fresh (Nat.le_refl _))⟩
  · obtain ⟨its, r', pl, hz⟩ := I.tuple hq
    exact call_tuple_same pl ⟨.ref p, H, I, rfl, q⟩

/-! ### the call of a builtin's method: o.m(..) -/
/-- the value is of that builtin type -/
def tyV (K : PySem.W.Frag) (T : String) (x : V) (H : Hp) : Prop := match x with
  | .str _ => T = "str"
  | .int _ => T = "int"
  | .ref p => (T = "list" ∧ ∃ xs, SqL K H p xs) ∨ (T = "tuple" ∧ ∃ o, K.lookup p = some o ∧ o.cls = .type "tuple" ∧ o.dict = none) ∨
      (T = "dict" ∧ ((∃ kvs, H p = some (.dK kvs)) ∨ ∃ kvs, H p = some (.dT kvs))) ∨ (T = "set" ∧ ∃ S n, H p = some (.set S n))
  | _ => False
theorem tyV_is {pins : List (Addr × Obj)} {σ : St} {H : Hp} {s : Shared} {T : String} {x : V} {v : Value} (I : Inv X pins σ H s) (r : RelV x v) (ty : tyV X.K T x H) :
    s.TypeIs v T ∧ ∀ a, v = .ref a → ∃ ob, s.heap.get? a = some ob ∧ ob.dict = none := by
  cases x with
  | str z =>
    obtain ⟨t, rfl⟩ := r
    cases (show T = "str" from ty)
    exact ⟨typeIs_str s z t, fun _ e => nomatch e⟩
  | int i =>
    obtain ⟨t, rfl⟩ := r
    cases (show T = "int" from ty)
    exact ⟨typeIs_int s i t, fun _ e => nomatch e⟩
  | ref p =>
    cases r
    rcases ty with ⟨rfl, xs, hq⟩ | ⟨rfl, o, hk, hc, hd⟩ | ⟨rfl, hk⟩ | ⟨rfl, S, n, hk⟩
    · obtain ⟨its, _, pl, _⟩ := I.list hq
      refine ⟨pl.isList.typeIs, fun a e => ?_⟩
      cases e
      obtain ⟨o, n, e, c, hd, _⟩ := pl
      exact ⟨o, e, hd⟩
    · refine ⟨⟨o, I.kIn p o hk, hc⟩, fun a e => ?_⟩
      cases e
      exact ⟨o, I.kIn _ o hk, hd⟩
    · have z : ∃ o, s.heap.get? p = some o ∧ o.ExactDict := by
        rcases hk with ⟨kvs, hk⟩ | ⟨kvs, hk⟩
        · obtain ⟨_, _, _, _, o, _, _, e, ex, _⟩ := I.hok p _ hk
          exact ⟨o, e, ex⟩
        · obtain ⟨_, _, _, _, o, _, _, e, ex, _⟩ := I.hok p _ hk
          exact ⟨o, e, ex⟩
      obtain ⟨o, e, ex⟩ := z
      refine ⟨⟨o, e, ex.1⟩, fun a e2 => ?_⟩
      cases e2
      exact ⟨o, e, ex.2.1⟩
    · obtain ⟨o, _, _, _, e, ex, _⟩ := I.hok p _ hk
      refine ⟨⟨o, e, ex.1⟩, fun a e2 => ?_⟩
      cases e2
      exact ⟨o, e, ex.2.1⟩
  | _ => exact False.elim ty
def tBM0 (K : PySem.W.Frag) (T : String) (r : V → List V → Hp → VK → Prop) (to : TE) : TE := fun σ H Q => to σ H fun x H1 => tyV K T x H1 ∧ r x [] H1 Q
def tBM (K : PySem.W.Frag) (T : String) (r : V → List V → Hp → VK → Prop) (to : TE) (t : TA) : TE := fun σ H Q => to σ H fun x H1 => tyV K T x H1 ∧ t σ H1 fun xs H2 => r x xs H2 Q
variable {o e : Expr} {es : List Expr} {to : TE} {t : TA} {name : Str} {apos cpos : Pos} {T id : String} {r : V → List V → Hp → VK → Prop}
theorem pe_bm0 (pa : PlainAttrs T) (slot : Slot T name id) (hty : typeOf (.builtin id) = pure (.type "method_descriptor")) (hm : MtR X id r) (ho : PE X o to)
    (hbase : attributeBase o name X.env (eval o X.env) = eval o X.env := by rfl) (hline : (apos.endLine == cpos.line) = true := by rfl) : PE X (.Call (.Attribute o name apos) [] [] cpos) (tBM0 X.K T r to) := by
  intro pins s σ H Q I h
  refine wpAny_Call_method0_late hbase hline (thn (ho pins s σ H _ I h) fun v s1 ⟨x, H1, I1, r1, ty, q1⟩ => ?_)
  obtain ⟨h1, h2⟩ := tyV_is I1 r1 ty
  exact ⟨T, id, pa, slot, hty, h1, h2, Calls.callWith_builtin rfl (PySem.evalArgs_none (hm pins s1 σ H1 x [] v [] Q I1 r1 .nil q1))⟩
theorem pe_bm (pa : PlainAttrs T) (slot : Slot T name id) (hty : typeOf (.builtin id) = pure (.type "method_descriptor")) (hm : MtR X id r) (ho : PE X o to) (ha : PA X (e :: es) t)
    (hbase : attributeBase o name X.env (eval o X.env) = eval o X.env := by rfl)
    (hfew : ((backTo cpos (starEach (e :: es) X.env)).all (fun x => !x.1) && (backToKw cpos (keywordEach [] X.env)).all (fun x => x.1.isSome)
      && decide ((e :: es).length + ([] : List Keyword).length + (if ([] : List Keyword).isEmpty then 0 else 1) < 30)) = true := by rfl)
    (hline : (apos.endLine == cpos.line) = true := by rfl) (hs : starEach (e :: es) X.env = (false, eval e X.env) :: starEach es X.env := by rfl) (hplain : (backTo cpos (starEach es X.env)).any (·.1) = false := by rfl) :
    PE X (.Call (.Attribute o name apos) (e :: es) [] cpos) (tBM X.K T r to t) := by
  intro pins s σ H Q I h
  refine wpAny_Call_method_late hbase hfew hline rfl (thn (ho pins s σ H _ I h) fun v s1 ⟨x, H1, I1, r1, ty, q1⟩ => ?_)
  obtain ⟨h1, h2⟩ := tyV_is I1 r1 ty
  refine ⟨T, id, pa, slot, hty, h1, h2, ?_⟩
  have hA := ha cpos pins s1 σ H1 _ I1 q1
  rw [hs] at hA ⊢
  refine Calls.callWith_builtin (by show (false || (backTo cpos (starEach es X.env)).any (·.1)) = false; rw [hplain] <;> rfl) (Calls.evalArgs_plain ?_)
  exact thn hA fun us s2 ⟨vs, H2, I2, r2, q2⟩ => hm pins s2 σ H2 x vs v us Q I2 r1 r2 q2
/- xs.append(e), list.index on a module's tuple .. are MtR facts of 06m -/
end
end L2

namespace L2
open PySem PySem.Spec PyProof.Rows

def MtM (X : Cx) (id : String) (r : V → List V → Hp → VK → Prop) : Prop :=
  ∀ (pins : List (Addr × Obj)) (s : Shared) (σ : St) (H : Hp) (x : V) (xs : List V) (v : Value) (us : List Value) (Q : VK), Inv X pins σ H s → RelV x v → Vals xs us → r x xs H Q →
    wpAny (model X.prog X.w) X.A (call (.builtin id) (v :: us)) (EP X pins σ Q) X.xe s

/-! ### lists of values -/
theorem Vals.one : ∀ {x : V} {us : List Value}, Vals [x] us → ∃ u, us = [u] ∧ RelV x u
  | _, _, .cons r .nil => ⟨_, rfl, r⟩
theorem Vals.two : ∀ {x y : V} {us : List Value}, Vals [x, y] us → ∃ u v, us = [u, v] ∧ RelV x u ∧ RelV y v
  | _, _, _, .cons r (.cons q .nil) => ⟨_, _, rfl, r, q⟩
theorem Vals.zero : ∀ {us : List Value}, Vals [] us → us = []
  | _, .nil => rfl
theorem Vals.dropLast {xs : List V} {us : List Value} (h : Vals xs us) : Vals xs.dropLast us.dropLast := by
  induction h with
  | nil => exact .nil
  | cons r t ih =>
    cases t with
    | nil => exact .nil
    | cons q t' => exact .cons r ih
theorem Vals.eraseIdx : ∀ {xs : List V} {us : List Value} (i : Nat), Vals xs us → Vals (xs.eraseIdx i) (us.eraseIdx i)
  | _, _, _, .nil => .nil
  | _, _, 0, .cons _ t => t
  | _, _, i + 1, .cons r t => .cons r (Vals.eraseIdx i t)
theorem Vals.reverse {xs : List V} {us : List Value} (h : Vals xs us) : Vals xs.reverse us.reverse := by
  induction h with
  | nil => exact .nil
  | cons r t ih => rw [List.reverse_cons, List.reverse_cons]; exact Vals.append ih (.cons r .nil)
theorem Vals.rep {xs : List V} {us : List Value} (h : Vals xs us) : ∀ k : Nat, Vals (List.replicate k xs).flatten (List.replicate k us).flatten
  | 0 => .nil
  | k + 1 => by
    rw [List.replicate_succ, List.replicate_succ, List.flatten_cons, List.flatten_cons]
    exact Vals.append h (Vals.rep h k)
theorem erase_last {α : Type} (l : List α) : l.eraseIdx (l.length - 1) = l.dropLast := by
  induction l with
  | nil => rfl
  | cons a r ih =>
    cases r with
    | nil => rfl
    | cons b r =>
      have e : (a :: b :: r).length - 1 = ((b :: r).length - 1) + 1 := by
        have h1 : (a :: b :: r).length = r.length + 2 := rfl
        have h2 : (b :: r).length = r.length + 1 := rfl
        omega
      rw [e, List.eraseIdx_cons_succ, ih]
      all_goals rfl
theorem len_erase {α : Type} : ∀ (l : List α) (i : Nat), (l.eraseIdx i).length ≤ l.length
  | [], _ => Nat.le_refl _
  | _ :: _, 0 => Nat.le_succ _
  | _ :: r, i + 1 => Nat.succ_le_succ (len_erase r i)
theorem foldl_rep (its : List Value) : ∀ (k : Nat) (acc : List Value),
    List.foldl (fun x1 x2 => x1 ++ x2) acc.toArray (List.replicate k its.toArray) = (acc ++ (List.replicate k its).flatten).toArray
  | 0, acc => by simp
  | k + 1, acc => by
    have e : acc.toArray ++ its.toArray = (acc ++ its).toArray := by simp
    have e2 : (acc ++ its) ++ (List.replicate k its).flatten = acc ++ (List.replicate (k + 1) its).flatten := by
      rw [List.replicate_succ, List.flatten_cons, List.append_assoc]
    rw [← e2, ← foldl_rep its k (acc ++ its), ← e, List.replicate_succ, List.foldl_cons]

section
variable {X : Cx} {pins : List (Addr × Obj)} {σ : St} {H : Hp} {s : Shared} {l b : Addr} {xs ys zs : List V}

/-! ### the two steps: a tracked list is rewritten, a new list is laid -/
theorem Inv.lset {its its' : List Value} {n : Nat} {f : Array Value → Array Value} {t' : Nat} (I : Inv X pins σ H s) (hH : H l = some (.lst xs))
    (e : s.heap.get? l = some { cls := .type "list", data := .seq its.toArray n }) (hf : f its.toArray = its'.toArray) (hv : Vals ys its') (hz : ys.length ≤ sizeLine) :
    Inv X pins σ (upd H l (.lst ys)) { s with heap := s.heap.update l (Obj.mapSeq f), toks := t' } := by
  have q := PySem.IsL.update e f
  rw [hf] at q
  refine I.write (x := l) (e := l) (by rw [hH]; exact trivial) (.inl rfl) (fun b' u hb hu => (Heap.get?_update_other s.heap (Obj.mapSeq f) (Ne.symm hb)).trans hu) ⟨_, q⟩ ?_
  exact ⟨hz, its', _, hv, q⟩
theorem Inv.lnew {its : List Value} {t' : Nat} (I : Inv X pins σ H s) (hv : Vals ys its) (hz : ys.length ≤ sizeLine) :
    Inv X pins σ (upd H s.heap.objs.size (.lst ys)) { s with heap := s.heap.push { cls := .type "list", data := .seq its.toArray }, toks := t' } :=
  I.laid (fun _ _ q => Heap.get?_push_of_some _ q) (Nat.le_refl _) ⟨hz, its, 0, hv, Heap.get?_push_size _ rfl⟩
theorem Inv.fresh (I : Inv X pins σ H s) : H s.heap.objs.size = none := I.hok.fresh (Nat.le_refl _)
theorem Inv.lstM (I : Inv X pins σ H s) (hH : H l = some (.lst xs)) : xs.length ≤ sizeLine ∧ ∃ (its : List Value) (n : Nat), Vals xs its ∧ xs.length = its.length ∧ s.heap.get? l = some { cls := .type "list", data := .seq its.toArray n } := by
  obtain ⟨z, its, n, r, e⟩ := I.hok l _ hH
  exact ⟨z, its, n, r, r.length, e⟩

theorem notLongL {n : Nat} (h : n ≤ sizeLine) : Builtin.List.listTooLong n = false := by
  unfold Builtin.List.listTooLong
  exact decide_eq_false (by omega)
end

section
variable {X : Cx}

/-! ### methods -/
def rAppend : V → List V → Hp → VK → Prop := fun x vs H Q => ∃ l xs y, x = .ref l ∧ vs = [y] ∧ H l = some (.lst xs) ∧ xs.length < sizeLine ∧ Q .non (upd H l (.lst (xs ++ [y])))
theorem mt_append : MtM X "list.append" rAppend := by
  intro pins s σ H x vs v us Q I rx rv h
  obtain ⟨l, xs, y, rfl, rfl, hH, hz, q⟩ := h
  cases rx
  obtain ⟨u, rfl, ru⟩ := rv.one
  obtain ⟨z, its, n, r, hl, e⟩ := I.lstM hH
  refine call_meets F.slot_list_append ⟨_, e, rfl⟩ F.entry_list_append (F.args_list_append_2 _ _) (PySem.list_append l its.toArray n u (by rw [List.size_toArray]; omega)) ⟨e, ?_⟩
  refine ⟨.non, _, I.lset (its' := its ++ [u]) hH e (by simp) (r.append (.cons ru .nil)) ?_, rfl, q⟩
  rw [List.length_append, List.length_singleton]
  omega

def rExtend : V → List V → Hp → VK → Prop := fun x vs H Q => ∃ l b xs zs, x = .ref l ∧ vs = [.ref b] ∧ H l = some (.lst xs) ∧ H b = some (.lst zs) ∧ xs.length + zs.length ≤ sizeLine ∧ Q .non (upd H l (.lst (xs ++ zs)))
theorem mt_extend : MtM X "list.extend" rExtend := by
  intro pins s σ H x vs v us Q I rx rv h
  obtain ⟨l, b, xs, zs, rfl, rfl, hH, hB, hz, q⟩ := h
  cases rx
  obtain ⟨u, rfl, ru⟩ := rv.one
  cases ru
  obtain ⟨z, its, n, r, hl, e⟩ := I.lstM hH
  obtain ⟨z2, its2, n2, r2, hl2, e2⟩ := I.lstM hB
  have hsz : its.toArray.size + its2.toArray.size ≤ sizeLine := by rw [List.size_toArray, List.size_toArray]; omega
  have hlong : ¬ (!its.toArray.isEmpty && Builtin.List.listTooLong (its.toArray.size + its2.toArray.size)) = true := by
    rw [notLongL hsz, Bool.and_false]
    exact Bool.false_ne_true
  refine call_meets F.slot_list_extend ⟨_, e, rfl⟩ F.entry_list_extend (F.args_list_extend_2 _ _)
    (AutoSeq1.list_extend_list_list_0 l its.toArray n b its2.toArray n2 hlong (by rw [List.size_toArray]; omega) (by omega)) ⟨e, e2, ?_⟩
  refine ⟨.non, _, I.lset (its' := its ++ its2) hH e (by simp) (r.append r2) ?_, rfl, q⟩
  rw [List.length_append]
  omega

def rPop : V → List V → Hp → VK → Prop := fun x vs H Q => ∃ l xs y, x = .ref l ∧ vs = [] ∧ H l = some (.lst xs) ∧ xs[xs.length - 1]? = some y ∧ Q y (upd H l (.lst xs.dropLast))
theorem mt_pop : MtM X "list.pop" rPop := by
  intro pins s σ H x vs v us Q I rx rv h
  obtain ⟨l, xs, y, rfl, rfl, hH, hy, q⟩ := h
  cases rx
  have hus := rv.zero
  subst hus
  obtain ⟨z, its, n, r, hl, e⟩ := I.lstM hH
  obtain ⟨u, hu, ru⟩ := r.get hy
  have hy' : its.toArray[its.toArray.size - 1]? = some u := by
    show its.toArray[its.length - 1]? = some u
    rw [← Array.getElem?_toList, ← hl]
    exact hu
  refine call_meets F.slot_list_pop ⟨_, e, rfl⟩ F.entry_list_pop (F.args_list_pop_1 _) (MeetsSeq.list_pop_last l its.toArray n u hy' (by rw [List.size_toArray]; omega)) ⟨e, ?_⟩
  refine ⟨y, _, I.lset (its' := its.dropLast) hH e ?_ r.dropLast ?_, ru, q⟩
  · show its.toArray.eraseIdxIfInBounds (its.toArray.size - 1) = its.dropLast.toArray
    rw [List.size_toArray, List.eraseIdxIfInBounds_toArray, erase_last]
  · rw [List.length_dropLast]
    omega

def rPopAt : V → List V → Hp → VK → Prop := fun x vs H Q => ∃ l xs i k y, x = .ref l ∧ vs = [.int i] ∧ H l = some (.lst xs) ∧ -(2 ^ 63) ≤ i ∧ i < 2 ^ 63 ∧ seqIndex? i xs.length = some k ∧ xs[k]? = some y ∧ Q y (upd H l (.lst (xs.eraseIdx k)))
theorem mt_popAt : MtM X "list.pop" rPopAt := by
  intro pins s σ H x vs v us Q I rx rv h
  obtain ⟨l, xs, i, k, y, rfl, rfl, hH, h1, h2, hk, hy, q⟩ := h
  cases rx
  obtain ⟨u, rfl, ru⟩ := rv.one
  obtain ⟨t, rfl⟩ := ru
  obtain ⟨z, its, n, r, hl, e⟩ := I.lstM hH
  obtain ⟨w, hw, rw'⟩ := r.get hy
  refine call_meets F.slot_list_pop ⟨_, e, rfl⟩ F.entry_list_pop (F.args_list_pop_2 _ _)
    (MeetsSeq.list_pop_at l its.toArray n i t k w (fitsIndex_both h1 h2) (by rw [List.size_toArray, ← hl]; exact hk) (by rw [← Array.getElem?_toList]; exact hw) (by rw [List.size_toArray]; omega)) ⟨e, ?_⟩
  refine ⟨y, _, I.lset (its' := its.eraseIdx k) hH e ?_ (r.eraseIdx k) ?_, rw', q⟩
  · show its.toArray.eraseIdxIfInBounds k = (its.eraseIdx k).toArray
    rw [List.eraseIdxIfInBounds_toArray]
  · have := len_erase xs k
    omega

def rReverse : V → List V → Hp → VK → Prop := fun x vs H Q => ∃ l xs, x = .ref l ∧ vs = [] ∧ H l = some (.lst xs) ∧ Q .non (upd H l (.lst xs.reverse))
theorem mt_reverse : MtM X "list.reverse" rReverse := by
  intro pins s σ H x vs v us Q I rx rv h
  obtain ⟨l, xs, rfl, rfl, hH, q⟩ := h
  cases rx
  have hus := rv.zero
  subst hus
  obtain ⟨z, its, n, r, hl, e⟩ := I.lstM hH
  refine call_meets F.slot_list_reverse ⟨_, e, rfl⟩ F.entry_list_reverse (F.args_list_reverse_1 _) (AutoSeq1.list_reverse_list_0 l its.toArray n (by rw [List.size_toArray]; omega)) ⟨e, ?_⟩
  refine ⟨.non, _, I.lset (its' := its.reverse) hH e (by simp) r.reverse ?_, rfl, q⟩
  rw [List.length_reverse]
  omega

def rClear : V → List V → Hp → VK → Prop := fun x vs H Q => ∃ l xs, x = .ref l ∧ vs = [] ∧ H l = some (.lst xs) ∧ Q .non (upd H l (.lst []))
theorem mt_clear : MtM X "list.clear" rClear := by
  intro pins s σ H x vs v us Q I rx rv h
  obtain ⟨l, xs, rfl, rfl, hH, q⟩ := h
  cases rx
  have hus := rv.zero
  subst hus
  obtain ⟨z, its, n, r, hl, e⟩ := I.lstM hH
  refine call_meets F.slot_list_clear ⟨_, e, rfl⟩ F.entry_list_clear (F.args_list_clear_1 _) (AutoSeq1.list_clear_list_0 l its.toArray n (by rw [List.size_toArray]; omega)) ⟨e, ?_⟩
  exact ⟨.non, _, I.lset (its' := []) (ys := []) hH e rfl .nil (Nat.zero_le _), rfl, q⟩

/-! ### list + list, list += list, list * int -/
def rCat : R2 := fun x y H Q => ∃ l b xs zs, x = .ref l ∧ y = .ref b ∧ H l = some (.lst xs) ∧ H b = some (.lst zs) ∧ xs.length + zs.length ≤ sizeLine ∧ ∀ p, H p = none → Q (.ref p) (upd H p (.lst (xs ++ zs)))
theorem op_cat : OpR X (binaryOp .Add) rCat := by
  intro pins s σ H x y v u Q I rx ry h
  obtain ⟨l, b, xs, zs, rfl, rfl, hH, hB, hz, q⟩ := h
  cases rx
  cases ry
  obtain ⟨z, its, n, r, hl, e⟩ := I.lstM hH
  obtain ⟨z2, its2, n2, r2, hl2, e2⟩ := I.lstM hB
  refine PySem.P.add_list e e2 ?_ (by rw [List.size_toArray, List.size_toArray]; omega)
  have ea : its.toArray ++ its2.toArray = (its ++ its2).toArray := by simp
  rw [ea]
  exact ⟨.ref _, _, I.lnew (t' := s.toks) (r.append r2) (by rw [List.length_append]; omega), rfl, q _ I.fresh⟩
/-- a list times an int (a negative one is nothing) -/
def rRep : R2 := fun x y H Q => ∃ l k xs, x = .ref l ∧ y = .int k ∧ H l = some (.lst xs) ∧ -(2 ^ 63) ≤ k ∧ k < 2 ^ 63 ∧ xs.length * k.toNat ≤ sizeLine ∧
  ∀ p, H p = none → Q (.ref p) (upd H p (.lst (List.replicate k.toNat xs).flatten))
theorem len_rep {α : Type} (xs : List α) (k : Nat) : (List.replicate k xs).flatten.length = k * xs.length := by
  induction k with
  | zero => simp
  | succ k ih => rw [List.replicate_succ, List.flatten_cons, List.length_append, ih, Nat.succ_mul, Nat.add_comm]
theorem op_rep : OpR X (binaryOp .Mult) rRep := by
  intro pins s σ H x y v u Q I rx ry h
  obtain ⟨l, k, xs, rfl, rfl, hH, h1, h2, hz, q⟩ := h
  cases rx
  obtain ⟨t, rfl⟩ := ry
  obtain ⟨z, its, n, r, hl, e⟩ := I.lstM hH
  have hlen : its.toArray.size * k.toNat ≤ sizeLine := by rw [List.size_toArray, ← hl]; exact hz
  have hcap : ¬ its.toArray.size * k.toNat > (2 ^ 63 - 1) / 8 := by
    have : (sizeLine : Nat) ≤ (2 ^ 63 - 1) / 8 := by decide
    omega
  have hfit : ¬ (!Builtin.List.listFitsIndex k) = true := by
    rw [fitsIndex_both h1 h2]
    exact Bool.false_ne_true
  have hlong : ¬ Builtin.List.listTooLong (its.toArray.size * k.toNat) = true := by
    rw [notLongL hlen]
    exact Bool.false_ne_true
  have hnew : List.foldl (fun x1 x2 => x1 ++ x2) #[] (List.replicate (if its.toArray.isEmpty = true then 0 else k.toNat) its.toArray) = (List.replicate k.toNat its).flatten.toArray := by
    have f0 : ∀ m : Nat, List.foldl (fun x1 x2 => x1 ++ x2) #[] (List.replicate m its.toArray) = (List.replicate m its).flatten.toArray := fun m => by
      have := foldl_rep its m []
      rw [List.nil_append] at this
      exact this
    rw [f0]
    cases its with
    | nil => simp
    | cons a r' => rw [if_neg (by simp)]
  refine wpAny_binaryOp_repeat_ref (T := "list") (U := "int") (by decide) ⟨_, e, rfl⟩ (fun s' => typeIs_int s' k t) noFill_list_mul F.fills_int_mul F.slot_int_rmul repeat_list F.slot_int_index.lookup
    (call_meets F.slot_int_rmul (typeIs_int s k t) F.entry_int_rmul (F.args_int_rmul_2 _ _) (int___rmul___int_list k t l its.toArray n)
      ⟨e, rfl, ⟨_, e, rfl⟩, call_meets F.slot_list_mul ⟨_, e, rfl⟩ F.entry_list_mul (F.args_list_mul_2 _ _) (AutoListH.list___mul___list_int_3 l its.toArray n k t hfit hcap hlong) ⟨e, ?_⟩⟩)
  rw [hnew]
  exact ⟨.ref _, _, I.lnew (t' := s.toks) (r.rep k.toNat) (by rw [len_rep, Nat.mul_comm]; exact hz), rfl, q _ I.fresh⟩

/-! ### del xs[i] -/
theorem del_list {pins : List (Addr × Obj)} {s : Shared} {σ : St} {H : Hp} {l : Addr} {xs : List V} {i : Int} {t : Tok} {k : Nat} {Q : Unit → Shared → Prop} (I : Inv X pins σ H s) (hH : H l = some (.lst xs))
    (h1 : -(2 ^ 63) ≤ i) (h2 : i < 2 ^ 63) (hk : seqIndex? i xs.length = some k) (h : ∀ s', Inv X pins σ (upd H l (.lst (xs.eraseIdx k))) s' → Q () s') :
    wpAny (model X.prog X.w) X.A (delItem (.ref l) (.int i t)) Q X.xe s := by
  obtain ⟨z, its, n, r, hl, e⟩ := I.lstM hH
  refine PySem.P.delItem_list (k := k) e (fitsIndex_both h1 h2) (by rw [List.size_toArray, ← hl]; exact hk) (h _ ?_) (by rw [List.size_toArray]; omega)
  refine I.lset (its' := its.eraseIdx k) (t' := s.toks) hH e ?_ (r.eraseIdx k) ?_
  · show its.toArray.eraseIdxIfInBounds k = (its.eraseIdx k).toArray
    rw [List.eraseIdxIfInBounds_toArray]
  · have := len_erase xs k
    omega
end

/-! ### xs[a:b] = ys -/
section
variable {prog : Program} {w : World} {A : Around} {E : Value → Shared → Prop} {s : Shared}
theorem splice_eq (its its2 : List Value) (a c : Nat) : its.toArray.extract 0 a ++ its2.toArray ++ its.toArray.extract c its.toArray.size = (its.take a ++ its2 ++ its.drop c).toArray := by
  apply Array.toList_inj.mp
  first
    | (simp
       exact List.take_of_length_le (by simp))
    | simp [List.take_of_length_le]
    | simp
theorem bounds_run {a c n : Nat} (hac : a ≤ c) (hc : c ≤ n) : sliceBounds (some (a : Int)) (some (c : Int)) none n = ((a : Int), (c : Int), 1) := by
  simp only [sliceBounds, Option.getD_none]
  have h1 : ¬ ((a : Int) < 0) := by omega
  have h2 : ¬ ((c : Int) < 0) := by omega
  simp only [h1, h2, if_false, show (1 : Int) > 0 by decide, if_true]
  congr 1
  · omega
  · congr 1; omega
/-- list.__setitem__ with a slice of step one and another list -/
theorem setItem_slice {l b sl : Addr} {items new : Array Value} {n n2 : Nat} {vl vu : Value} {a c : Nat} {Q : Unit → Shared → Prop}
    (e : s.heap.get? l = some { cls := .type "list", data := .seq items n }) (e2 : s.heap.get? b = some { cls := .type "list", data := .seq new n2 }) (hne : l ≠ b)
    (hs : s.heap.IsSliceOf sl vl vu .none) (pl : IsPart vl (some (a : Int))) (pu : IsPart vu (some (c : Int))) (hac : a ≤ c) (hc : c ≤ items.size)
    (hsz : items.size + new.size ≤ sizeLine) (h : Q () { s with heap := s.heap.update l (Obj.mapSeq fun xs => xs.extract 0 a ++ new ++ xs.extract c xs.size) }) :
    wpAny (model prog w) A (setItem (.ref l) (.ref sl) (.ref b)) Q E s := by
  have hl : s.heap.IsList l items := PySem.IsL.isList e
  have hb : s.heap.IsList b new := PySem.IsL.isList e2
  obtain ⟨os, hos, hcs, hds⟩ := id hs
  have hTs : s.TypeIs (.ref sl) "slice" := ⟨os, hos, hcs⟩
  have hstep : ¬ ((rawPart none == rawInt 0) = true) := Bool.false_ne_true
  have hsame : Builtin.List.listSameRef (.ref l) (.ref b) = false := by
    unfold Builtin.List.listSameRef
    exact beq_eq_false_iff_ne.mpr hne
  have hmax : (max (a : Int) (c : Int)).toNat = c := by omega
  have hz' : ((fun xs : Array Value => xs.extract 0 a ++ new ++ xs.extract c xs.size) items).size ≤ sizeLine + 1 := by
    simp only [Array.size_append, Array.size_extract]
    omega
  unfold setItem
  try with_reducible refine wpAny_holding ?_
  first | refine wpAny_bind (wpAny_pure ?_) | skip
  refine wpAny_bind (wpAny_sequenceKey hl.typeIs (by decide) ?_)
  refine wpAny_bind (wpAny_callSpecial?_slot (name := Str.ofString "__setitem__") hl.typeIs slot_list_setitem
    (wpAny_call_entry slot_list_setitem hl.typeIs entry_list_setitem ?_ (args_list_setitem _ _ _)))
  show wpAny _ _ (Builtin.List.listSubscript? (.ref sl) >>= _) _ _ s
  refine wpAny_bind ?_
  unfold Builtin.List.listSubscript?
  refine wpAny_bind (wpAny_specialOf hTs slice_no_index ?_)
  simp only [Option.isNone_none, if_true]
  refine wpAny_pure ?_
  show wpAny _ _ (typeOf (.ref sl) >>= _) _ _ s
  refine wpAny_bind (wpAny_typeOf hTs ?_)
  first
    | rw [if_neg (by decide)]
    | refine PySem.W.KFB.if_not (by decide) ?_
  rw [listSliceParts_eq]
  refine wpAny_bind (wpAny_bind (wpAny_field hos hds (x := .none) rfl (wpAny_bind (wpAny_listPart .none ?_))))
  rw [if_neg hstep]
  refine wpAny_bind (wpAny_field hos hds (x := vl) rfl (wpAny_bind (wpAny_listPart pl ?_)))
  refine wpAny_bind (wpAny_field hos hds (x := vu) rfl (wpAny_bind (wpAny_listPart pu (wpAny_pure ?_))))
  first
    | simp only [hsame, Bool.false_eq_true, if_false]
    | refine PySem.W.KFB.if_not hsame ?_
    | (dsimp only
       rw [if_neg (by rw [hsame]; exact Bool.false_ne_true)])
  refine wpAny_bind (m := Builtin.List.listAllItems (.ref b) "must assign iterable to extended slice") ?_
  unfold Builtin.List.listAllItems
  refine wpAny_bind (wpAny_typeOf hb.typeIs ?_)
  first
    | refine PySem.W.KFB.if_so (by decide) ?_
    | rw [if_pos (by decide)]
    | simp only [beq_self_eq_true, Bool.true_or, if_true]
  unfold Builtin.List.listItems
  refine wpAny_bind (wpAny_seqItems e2 rfl (wpAny_pure ?_))
  refine wpAny_bind (wpAny_bind (wpAny_seqItems e rfl (wpAny_pure ?_)))
  refine wpAny_bind (wpAny_of_eq ((sliceIndices_raw (some (a : Int)) (some (c : Int)) none items.size (by simp)).trans (congrArg (pure : Int × Int × Int → Sem (Int × Int × Int)) (bounds_run hac hc))) ?_)
  show wpAny _ _ (if ((1 : Int) == 1) = true then _ else _) _ _ s
  rw [if_pos (by decide)]
  refine wpAny_bind (wpAny_rule ?_)
  first
    | simp only [notLongL hsz, Bool.false_eq_true, if_false]
    | refine PySem.W.KFB.if_not (notLongL hsz) ?_
  first | refine wpAny_bind (wpAny_pure ?_) | skip
  show wpAny _ _ (updateSeq l (fun xs => xs.extract 0 ((a : Int)).toNat ++ new ++ xs.extract (max (a : Int) (c : Int)).toNat xs.size) >>= _) _ _ s
  rw [hmax, Int.toNat_natCast]
  refine wpAny_bind (wpAny_updateSeq (hz := Nat.le_trans (Nat.le_add_right _ _) hsz) (_hz' := hz') e rfl ?_)
  refine wpAny_bind (wpAny_letGo ?_)
  first
    | exact wpAny_bind (wpAny_pure (wpAny_pure ⟨.none, rfl, wpAny_pure h⟩))
    | exact wpAny_pure ⟨.none, rfl, wpAny_pure h⟩
end

section
variable {X : Cx}
/-- xs[a:c] = ys of another list, at the value level: sl is the slice object that was just made -/
theorem set_slice {pins : List (Addr × Obj)} {s : Shared} {σ : St} {H : Hp} {l b sl : Addr} {xs ys : List V} {a c : Int} {vl vu : Value} {Q : Unit → Shared → Prop} (I : Inv X pins σ H s)
    (hH : H l = some (.lst xs)) (hB : H b = some (.lst ys)) (hne : l ≠ b) (hs : s.heap.IsSliceOf sl vl vu .none) (ra : RelV (.int a) vl) (rc : RelV (.int c) vu) (h0 : 0 ≤ a) (hac : a ≤ c) (hc : c ≤ xs.length)
    (hz : xs.length + ys.length ≤ sizeLine) (h : ∀ s', Inv X pins σ (upd H l (.lst (xs.take a.toNat ++ ys ++ xs.drop c.toNat))) s' → Q () s') :
    wpAny (model X.prog X.w) X.A (setItem (.ref l) (.ref sl) (.ref b)) Q X.xe s := by
  obtain ⟨ta, rfl⟩ := ra
  obtain ⟨tc, rfl⟩ := rc
  obtain ⟨z, its, n, r, hl, e⟩ := I.lstM hH
  obtain ⟨z2, its2, n2, r2, hl2, e2⟩ := I.lstM hB
  obtain ⟨a', rfl⟩ := Int.eq_ofNat_of_zero_le h0
  obtain ⟨c', rfl⟩ := Int.eq_ofNat_of_zero_le (Int.le_trans h0 hac)
  simp only [Int.toNat_natCast] at h
  refine setItem_slice (a := a') (c := c') e e2 hne hs (.int _ _) (.int _ _) (by omega) (by rw [List.size_toArray]; omega) (by rw [List.size_toArray, List.size_toArray]; omega) (h _ ?_)
  refine I.lset (its' := its.take a' ++ its2 ++ its.drop c') (t' := s.toks) hH e ?_ (Vals.append (Vals.append (r.take _) r2) (r.drop _)) ?_
  · exact splice_eq its its2 a' c'
  · rw [List.length_append, List.length_append, List.length_take, List.length_drop]
    omega
end
end L2


namespace L2
open PySem PySem.Spec PyProof.Rows

/-! ### lists of pairs as tables -/
section
variable {κ : Type} [DecidableEq κ]
def valV (kvs : List (κ × V)) (k : κ) : Option V := (kvs.find? fun kv => decide (kv.1 = k)).map (·.2)
/-- in its place, or at the end -/
def putK (kvs : List (κ × V)) (k : κ) (v : V) : List (κ × V) :=
  if (kvs.any fun kv => decide (kv.1 = k)) = true then kvs.map (fun kv => if kv.1 = k then (kv.1, v) else kv) else kvs ++ [(k, v)]
def dropK (kvs : List (κ × V)) (k : κ) : List (κ × V) := kvs.filter fun kv => decide (kv.1 ≠ k)

theorem valV_nil {k : κ} : valV ([] : List (κ × V)) k = none := rfl
theorem valV_pos {p : κ × V} {r : List (κ × V)} {k : κ} (e : p.1 = k) : valV (p :: r) k = some p.2 := by simp [valV, List.find?_cons, e]
theorem valV_neg {p : κ × V} {r : List (κ × V)} {k : κ} (e : ¬ p.1 = k) : valV (p :: r) k = valV r k := by simp [valV, List.find?_cons, e]
theorem valV_any (k : κ) : ∀ kvs : List (κ × V), (kvs.any fun kv => decide (kv.1 = k)) = (valV kvs k).isSome
  | [] => rfl
  | p :: r => by
    rw [List.any_cons]
    by_cases e : p.1 = k
    · simp only [valV_pos e, decide_eq_true e, Bool.true_or, Option.isSome_some]
    · rw [valV_neg e, decide_eq_false e, Bool.false_or]; exact valV_any k r
theorem valV_map (k j : κ) (y : V) : ∀ kvs : List (κ × V), valV (kvs.map fun kv => if kv.1 = k then (kv.1, y) else kv) j = (valV kvs j).map fun x => if j = k then y else x
  | [] => rfl
  | p :: r => by
    have ih := valV_map k j y r
    rw [List.map_cons]
    by_cases h : p.1 = k
    · rw [if_pos h]
      by_cases e : p.1 = j
      · rw [valV_pos (p := (p.1, y)) e, valV_pos e, Option.map_some, if_pos (e.symm.trans h)]
      · rw [valV_neg (p := (p.1, y)) e, valV_neg e, ih]
    · rw [if_neg h]
      by_cases e : p.1 = j
      · rw [valV_pos (p := p) e, valV_pos e, Option.map_some, if_neg (fun z => h (e.trans z))]
      · rw [valV_neg (p := p) e, valV_neg e, ih]
theorem valV_snoc (k j : κ) (y : V) : ∀ kvs : List (κ × V), valV kvs k = none → valV (kvs ++ [(k, y)]) j = if j = k then some y else valV kvs j
  | [], _ => by
    by_cases e : k = j
    · rw [if_pos e.symm]; exact valV_pos (p := (k, y)) e
    · rw [if_neg (fun z => e z.symm)]; exact valV_neg (p := (k, y)) e
  | p :: r, hn => by
    rw [List.cons_append]
    have hk : ¬ p.1 = k := fun z => by rw [valV_pos z] at hn; cases hn
    rw [valV_neg hk] at hn
    have ih := valV_snoc k j y r hn
    by_cases e : p.1 = j
    · rw [valV_pos e, valV_pos e, if_neg (fun z => hk (e.trans z))]
    · rw [valV_neg e, valV_neg e, ih]
theorem valV_put (kvs : List (κ × V)) (k j : κ) (y : V) : valV (putK kvs k y) j = if j = k then some y else valV kvs j := by
  unfold putK
  by_cases a : (kvs.any fun kv => decide (kv.1 = k)) = true
  · rw [if_pos a, valV_map]
    rw [valV_any] at a
    by_cases e : j = k
    · obtain ⟨x, hx⟩ := Option.isSome_iff_exists.mp a
      rw [if_pos e, e, hx, Option.map_some, if_pos rfl]
    · rw [if_neg e]
      cases valV kvs j with
      | none => rfl
      | some x => rw [Option.map_some, if_neg e]
  · rw [if_neg a]
    refine valV_snoc k j y kvs ?_
    rw [valV_any] at a
    cases q : valV kvs k with
    | none => rfl
    | some x => rw [q] at a; exact (a rfl).elim
theorem length_putK (kvs : List (κ × V)) (k : κ) (v : V) : (putK kvs k v).length ≤ kvs.length + 1 := by
  unfold putK
  split
  · rw [List.length_map]; omega
  · rw [List.length_append, List.length_cons, List.length_nil]; omega
theorem putK_new {kvs : List (κ × V)} {k : κ} (v : V) (h : valV kvs k = none) : putK kvs k v = kvs ++ [(k, v)] := by
  unfold putK
  rw [valV_any, h]
  exact if_neg (by decide)

theorem RelO.isSome_eq {o : Option V} {u : Option Value} (r : RelO o u) : o.isSome = u.isSome := by
  cases o with
  | none => cases u with
    | none => rfl
    | some _ => exact (show False from r).elim
  | some _ => cases u with
    | none => exact (show False from r).elim
    | some _ => rfl
theorem RelO.getD {o : Option V} {u : Option Value} {d : V} {d' : Value} (r : RelO o u) (rd : RelV d d') : RelV (o.getD d) (u.getD d') := by
  cases o with
  | none => cases u with
    | none => exact rd
    | some _ => exact (show False from r).elim
  | some _ => cases u with
    | none => exact (show False from r).elim
    | some _ => exact r

/-- raw tables of the same keys -/
theorem KV.val {kvs : List (κ × V)} {vs : List (κ × Value)} (r : KV kvs vs) (k : κ) : RelO (valV kvs k) (valueAt vs k) := by
  unfold KV at r
  induction r with
  | nil => exact True.intro
  | @cons p q ps qs h t ih =>
    obtain ⟨h1, h2⟩ := h
    by_cases e : p.1 = k
    · have e' : q.1 = k := h1.symm.trans e
      have b : valueAt (q :: qs) k = some q.2 := by simp [valueAt, List.find?_cons, e']
      rw [valV_pos e, b]; exact h2
    · have e' : ¬ q.1 = k := fun z => e (h1.trans z)
      have b : valueAt (q :: qs) k = valueAt qs k := by simp [valueAt, List.find?_cons, e']
      rw [valV_neg e, b]; exact ih
theorem KV.any {kvs : List (κ × V)} {vs : List (κ × Value)} (r : KV kvs vs) (k : κ) : (kvs.any fun kv => decide (kv.1 = k)) = vs.any fun kv => decide (kv.1 = k) := by
  unfold KV at r
  induction r with
  | nil => rfl
  | cons h t ih => rw [List.any_cons, List.any_cons, ih, h.1]
theorem KV.repl {kvs : List (κ × V)} {vs : List (κ × Value)} (r : KV kvs vs) (k : κ) {y : V} {u : Value} (ry : RelV y u) :
    KV (kvs.map fun kv => if kv.1 = k then (kv.1, y) else kv) (vs.map fun kv => if kv.1 = k then (kv.1, u) else kv) := by
  unfold KV at r ⊢
  induction r with
  | nil => exact .nil
  | @cons p q ps qs h t ih =>
    rw [List.map_cons, List.map_cons]
    refine .cons ?_ ih
    obtain ⟨h1, h2⟩ := h
    by_cases e : p.1 = k
    · rw [if_pos e, if_pos (h1.symm.trans e)]; exact ⟨h1, ry⟩
    · rw [if_neg e, if_neg (fun z => e (h1.trans z))]; exact ⟨h1, h2⟩
theorem KV.put {kvs : List (κ × V)} {vs : List (κ × Value)} (r : KV kvs vs) (k : κ) {y : V} {u : Value} (ry : RelV y u) : KV (putK kvs k y) (stored vs k u) := by
  unfold putK stored
  rw [r.any k]
  by_cases e : (vs.any fun kv => decide (kv.1 = k)) = true
  · rw [if_pos e, if_pos e]; exact r.repl k ry
  · rw [if_neg e, if_neg e]; exact Paired.snoc r ⟨rfl, ry⟩
theorem KV.drop {kvs : List (κ × V)} {vs : List (κ × Value)} (r : KV kvs vs) (k : κ) : KV (dropK kvs k) (without vs k) := by
  unfold KV at r ⊢
  unfold dropK without
  induction r with
  | nil => exact .nil
  | @cons p q ps qs h t ih =>
    obtain ⟨h1, h2⟩ := h
    rw [List.filter_cons, List.filter_cons]
    by_cases e : p.1 = k
    · have a : ¬ decide (p.1 ≠ k) = true := by simp [e]
      have b : ¬ decide (q.1 ≠ k) = true := by simp [h1.symm.trans e]
      rw [if_neg a, if_neg b]; exact ih
    · have e' : ¬ q.1 = k := fun z => e (h1.trans z)
      have a : decide (p.1 ≠ k) = true := by simp [e]
      have b : decide (q.1 ≠ k) = true := by simp [e']
      rw [if_pos a, if_pos b]; exact .cons ⟨h1, h2⟩ ih
theorem KV.keys {kvs : List (κ × V)} {vs : List (κ × Value)} (r : KV kvs vs) : kvs.map (·.1) = vs.map (·.1) := by
  unfold KV at r
  induction r with
  | nil => rfl
  | cons h t ih => rw [List.map_cons, List.map_cons, ih, h.1]
theorem KV.length {kvs : List (κ × V)} {vs : List (κ × Value)} (r : KV kvs vs) : kvs.length = vs.length := Paired.length r
theorem dropK_le (kvs : List (κ × V)) (k : κ) : (dropK kvs k).length ≤ kvs.length := List.length_filter_le _ _
end


/-! ### a tracked dict, its keys ints and texts or tuples of these -/
theorem kV_is {P : Program} {w : World} {k : Key} {u : Value} (r : RelV (kV k) u) : (mixKind P w).is k u = true := by
  cases k with
  | inl i => obtain ⟨t, e⟩ := (show ∃ t, u = Value.int i t from r); subst e; exact mixKind_int P w i t
  | inr x => obtain ⟨t, e⟩ := (show ∃ t, u = Value.str x t from r); subst e; exact mixKind_str P w x t
theorem kV_inj {a b : Key} (e : kV a = kV b) : a = b := by
  cases a with
  | inl i => cases b with
    | inl j => have e' : V.int i = V.int j := e; injection e' with e'; rw [e']
    | inr y => exact nomatch (show V.int i = V.str y from e)
  | inr x => cases b with
    | inl j => exact nomatch (show V.str x = V.int j from e)
    | inr y => have e' : V.str x = V.str y := e; injection e' with e'; rw [e']
theorem kVs_inj : ∀ {a b : List Key}, a.map kV = b.map kV → a = b
  | [], [], _ => rfl
  | [], _ :: _, e => by simp at e
  | _ :: _, [], e => by simp at e
  | x :: xs, y :: ys, e => by
    rw [List.map_cons, List.map_cons] at e
    injection e with e1 e2
    rw [kV_inj e1, kVs_inj e2]
theorem items_are {P : Program} {w : World} : ∀ {ks : List Key} {us : List Value}, Vals (ks.map kV) us → ItemsAre (mixKind P w) ks us
  | [], _, r => by rw [List.map_nil] at r; cases r; exact .nil
  | k :: ks, _, r => by
    rw [List.map_cons] at r
    cases r with
    | cons h t => exact .cons (kV_is h) (items_are t)

/-- raw entries of a dict with tuple keys -/
abbrev KT (H : Hp) : List (List Key × V) → List (List Key × Addr × Value) → Prop := Paired fun p q => p.1 = q.1 ∧ H q.2.1 = some (.tup (p.1.map kV)) ∧ RelV p.2 q.2.2
theorem KT.val {H : Hp} {kvs : List (List Key × V)} {xs : List (List Key × Addr × Value)} (r : KT H kvs xs) (k : List Key) : RelO (valV kvs k) ((atKey xs k).map (·.2)) := by
  induction r with
  | nil => exact True.intro
  | @cons p q ps qs h t ih =>
    obtain ⟨h1, _, h2⟩ := h
    by_cases e : p.1 = k
    · have e' : q.1 = k := h1.symm.trans e
      have b : atKey (q :: qs) k = some q.2 := by simp [atKey, List.find?_cons, e']
      rw [valV_pos e, b]; exact h2
    · have e' : ¬ q.1 = k := fun z => e (h1.trans z)
      have b : atKey (q :: qs) k = atKey qs k := by simp [atKey, List.find?_cons, e']
      rw [valV_neg e, b]; exact ih
theorem KT.repl {H : Hp} {kvs : List (List Key × V)} {xs : List (List Key × Addr × Value)} (r : KT H kvs xs) (k : List Key) {y : V} {u : Value} (ry : RelV y u) :
    KT H (kvs.map fun kv => if kv.1 = k then (kv.1, y) else kv) (xs.map (putAt k u)) := by
  induction r with
  | nil => exact .nil
  | @cons p q ps qs h t ih =>
    rw [List.map_cons, List.map_cons]
    refine .cons ?_ ih
    obtain ⟨h1, h2, h3⟩ := h
    unfold putAt
    by_cases e : p.1 = k
    · rw [if_pos e, if_pos (h1.symm.trans e)]; exact ⟨h1, h2, ry⟩
    · rw [if_neg e, if_neg (fun z => e (h1.trans z))]; exact ⟨h1, h2, h3⟩
theorem KT.put {H : Hp} {kvs : List (List Key × V)} {xs : List (List Key × Addr × Value)} (r : KT H kvs xs) (k : List Key) {b : Addr} {y : V} {u : Value} (hb : H b = some (.tup (k.map kV))) (ry : RelV y u) :
    KT H (putK kvs k y) (storedH xs k b u) := by
  have e : (kvs.any fun kv => decide (kv.1 = k)) = (atKey xs k).isSome := by
    rw [valV_any, (r.val k).isSome_eq, Option.isSome_map]
  unfold putK storedH
  rw [e]
  by_cases q : (atKey xs k).isSome = true
  · rw [if_pos q, if_pos q]; exact r.repl k ry
  · rw [if_neg q, if_neg q]; exact Paired.snoc r ⟨rfl, hb, ry⟩
theorem KT.keeps {H H' : Hp} {kvs : List (List Key × V)} {xs : List (List Key × Addr × Value)} (r : KT H kvs xs) (ht : ∀ b ys, H b = some (.tup ys) → H' b = some (.tup ys)) : KT H' kvs xs :=
  Paired.mapP r fun _ _ z => ⟨z.1, ht _ _ z.2.1, z.2.2⟩

section
variable {P : Program} {w : World} {H : Hp} {h : Heap} {a : Addr}
theorem rd_of {u : HO} (ok : HOk P w H h) (e : Rd H a u) : ObjOk P w H h a u := e.ok ok
theorem dk_rd {kvs : List (Key × V)} (ok : HOk P w H h) (e : Rd H a (.dK kvs)) : kvs.length ≤ sizeLine ∧ (a == sysModules) = false ∧ ∃ vs, KV kvs vs ∧ h.DictOf (mixKind P w) a vs :=
  show ObjOk P w H h a (.dK kvs) from rd_of ok e
theorem dk_of {kvs : List (Key × V)} (ok : HOk P w H h) (e : H a = some (.dK kvs)) : kvs.length ≤ sizeLine ∧ (a == sysModules) = false ∧ ∃ vs, KV kvs vs ∧ h.DictOf (mixKind P w) a vs := dk_rd ok (.inl e)
/-- a tracked tuple of ints and texts is a key -/
theorem key_of {ks : List Key} (ok : HOk P w H h) (e : H a = some (.tup (ks.map kV))) : (tupleKind (mixKind P w)).is h ks a := by
  obtain ⟨_, its, r, o, h1, h2, n, h3⟩ := (show ObjOk P w H h a (.tup (ks.map kV)) from ok a _ e)
  exact ⟨o, its.toArray, n, h1, h2, h3, by simpa using items_are r⟩
theorem dt_rd {kvs : List (List Key × V)} (ok : HOk P w H h) (e : Rd H a (.dT kvs)) : kvs.length ≤ sizeLine ∧ (a == sysModules) = false ∧
    ∃ xs, KT H kvs xs ∧ h.DictOfH (tupleKind (mixKind P w)) a xs := by
  obtain ⟨z, y, xs, r, o, es, ep, h1, h2, h3, h4, h5⟩ := (show ObjOk P w H h a (.dT kvs) from rd_of ok e)
  refine ⟨z, y, xs, r, o, es, ep, h1, h2, h3, h4, fun x hx => ?_, h5⟩
  have all : ∀ {l : List (List Key × V)} {m : List (List Key × Addr × Value)}, KT H l m → ∀ x ∈ m, (tupleKind (mixKind P w)).is h x.1 x.2.1 := by
    intro l m q
    induction q with
    | nil => intro x hx; exact nomatch hx
    | @cons p q ps qs hq t ih =>
      intro x hx
      rcases List.mem_cons.mp hx with e | hx
      · subst e
        exact key_of ok (by rw [← hq.1]; exact hq.2.1)
      · exact ih x hx
  exact all r x hx
theorem dt_of {kvs : List (List Key × V)} (ok : HOk P w H h) (e : H a = some (.dT kvs)) : kvs.length ≤ sizeLine ∧ (a == sysModules) = false ∧
    ∃ xs, KT H kvs xs ∧ h.DictOfH (tupleKind (mixKind P w)) a xs := dt_rd ok (.inl e)
end

/-- what the dict at a holds at the key y -/
def DGet (H : Hp) (a : Addr) (y : V) (r : Option V) : Prop :=
  (∃ kvs k, Rd H a (.dK kvs) ∧ y = kV k ∧ r = valV kvs k) ∨ ∃ kvs k b, Rd H a (.dT kvs) ∧ y = .ref b ∧ H b = some (.tup (k.map kV)) ∧ r = valV kvs k
/-- the heap behind a[y] = v -/
def DPut (H : Hp) (a : Addr) (y v : V) (H' : Hp) : Prop :=
  (∃ kvs k, H a = some (.dK kvs) ∧ y = kV k ∧ kvs.length < sizeLine ∧ H' = upd H a (.dK (putK kvs k v))) ∨
  ∃ kvs k b, H a = some (.dT kvs) ∧ y = .ref b ∧ H b = some (.tup (k.map kV)) ∧ kvs.length < sizeLine ∧ H' = upd H a (.dT (putK kvs k v))
theorem DGet.k {H : Hp} {a : Addr} {kvs : List (Key × V)} {k : Key} (e : H a = some (.dK kvs)) : DGet H a (kV k) (valV kvs k) := .inl ⟨kvs, k, .inl e, rfl, rfl⟩
theorem DGet.t {H : Hp} {a b : Addr} {kvs : List (List Key × V)} {k : List Key} (e : H a = some (.dT kvs)) (eb : H b = some (.tup (k.map kV))) : DGet H a (.ref b) (valV kvs k) := .inr ⟨kvs, k, b, .inl e, rfl, eb, rfl⟩
theorem DPut.k {H : Hp} {a : Addr} {kvs : List (Key × V)} {k : Key} {v : V} (e : H a = some (.dK kvs)) (hl : kvs.length < sizeLine) : DPut H a (kV k) v (upd H a (.dK (putK kvs k v))) := .inl ⟨kvs, k, e, rfl, hl, rfl⟩
theorem DPut.t {H : Hp} {a b : Addr} {kvs : List (List Key × V)} {k : List Key} {v : V} (e : H a = some (.dT kvs)) (eb : H b = some (.tup (k.map kV))) (hl : kvs.length < sizeLine) :
    DPut H a (.ref b) v (upd H a (.dT (putK kvs k v))) := .inr ⟨kvs, k, b, e, rfl, eb, hl, rfl⟩


section
variable {X : Cx} {pins : List (Addr × Obj)} {σ : St} {H : Hp} {s : Shared} {a : Addr} {y v : V} {u r : Value} {o : Option V} {A : Around} {E : Value → Shared → Prop}

theorem Inv.big (I : Inv X pins σ H s) : sysModules < s.heap.objs.size := by
  have h : mainGlobals < s.heap.objs.size := (I.mod.glob.keeps I.bk).lt
  exact Nat.lt_trans (by decide) h

/-- d[y], there -/
theorem d_getItem {Q : Value → Shared → Prop} (hu : A.units + 1 < cLine) (I : Inv X pins σ H s) (g : DGet H a y (some v)) (ry : RelV y u) (h : ∀ w' s', Inv X pins σ H s' → RelV v w' → Q w' s') :
    wpAny (model X.prog X.w) A (getItem (.ref a) u) Q E s := by
  rcases g with ⟨kvs, k, e, ey, l⟩ | ⟨kvs, k, b, e, ey, eb, l⟩
  · subst ey
    obtain ⟨z, hd, vs, rel, dd⟩ := dk_rd I.hok e
    obtain ⟨w', hw, rw'⟩ := RelO.some_of (v := v) (o := valueAt vs k) (by rw [l]; exact rel.val k)
    exact wpAny_getItem_of (kV_is ry) dd.mapOf hw (h w' _ (I.tok _) rw')
  · subst ey
    cases (show u = Value.ref b from ry)
    obtain ⟨z, hd, xs, rel, dd⟩ := dt_rd I.hok e
    obtain ⟨w', hw, rw'⟩ := RelO.some_of (v := v) (o := (atKey xs k).map (·.2)) (by rw [l]; exact rel.val k)
    obtain ⟨p, hp, hp2⟩ := Option.map_eq_some_iff.mp hw
    refine wpAny_getItem_heap (tupleKind_room_in1 hu) (key_of I.hok eb) dd hp ?_
    rw [hp2]
    exact h w' _ (I.tok _) rw'
/-- y in d -/
theorem d_in {Q : Value → Shared → Prop} (hu : A.units + 1 < cLine) (I : Inv X pins σ H s) (g : DGet H a y o) (ry : RelV y u) (h : ∀ s', Inv X pins σ H s' → Q (.bool o.isSome) s') :
    wpAny (model X.prog X.w) A (compareOp .In u (.ref a)) Q E s := by
  rcases g with ⟨kvs, k, e, ey, l⟩ | ⟨kvs, k, b, e, ey, eb, l⟩
  · subst ey
    obtain ⟨z, hd, vs, rel, dd⟩ := dk_rd I.hok e
    refine wpAny_in_of (kV_is ry) hd dd.mapOf ?_
    rw [← (rel.val k).isSome_eq, ← l]
    exact h _ (I.tok _)
  · subst ey
    cases (show u = Value.ref b from ry)
    obtain ⟨z, hd, xs, rel, dd⟩ := dt_rd I.hok e
    refine wpAny_in_heap (tupleKind_room_in1 hu) (key_of I.hok eb) hd dd ?_
    have q := (rel.val k).isSome_eq
    rw [Option.isSome_map] at q
    rw [← q, ← l]
    exact h _ (I.tok _)
theorem d_notIn {Q : Value → Shared → Prop} (hu : A.units + 1 < cLine) (I : Inv X pins σ H s) (g : DGet H a y o) (ry : RelV y u) (h : ∀ s', Inv X pins σ H s' → Q (.bool (!o.isSome)) s') :
    wpAny (model X.prog X.w) A (compareOp .NotIn u (.ref a)) Q E s := by
  rcases g with ⟨kvs, k, e, ey, l⟩ | ⟨kvs, k, b, e, ey, eb, l⟩
  · subst ey
    obtain ⟨z, hd, vs, rel, dd⟩ := dk_rd I.hok e
    refine wpAny_notIn_of (kV_is ry) hd dd.mapOf ?_
    rw [← (rel.val k).isSome_eq, ← l]
    exact h _ (I.tok _)
  · subst ey
    cases (show u = Value.ref b from ry)
    obtain ⟨z, hd, xs, rel, dd⟩ := dt_rd I.hok e
    refine wpAny_notIn_heap (tupleKind_room_in1 hu) (key_of I.hok eb) hd dd ?_
    have q := (rel.val k).isSome_eq
    rw [Option.isSome_map] at q
    rw [← q, ← l]
    exact h _ (I.tok _)
/-- a dict's object is replaced -/
theorem d_write {h' : Heap} {t' : Nat} {ob : HO} (I : Inv X pins σ H s) (mu : Mut (H a)) (hs : Heap.SameBut a s.heap h') (he : ∃ q, h'.get? a = some q) (new : ObjOk X.prog X.w (upd H a ob) h' a ob) :
    Inv X pins σ (upd H a ob) { s with heap := h', toks := t' } :=
  I.write (x := a) (e := a) mu (.inl rfl) (fun b q hb z => (hs.2 b hb).trans z) he new
theorem dk_new {P : Program} {w : World} {H' : Hp} {h' : Heap} {kvs : List (Key × V)} {vs : List (Key × Value)} (z : kvs.length ≤ sizeLine) (hd : (a == sysModules) = false) (rel : KV kvs vs) (dd : h'.DictOf (mixKind P w) a vs) :
    ObjOk P w H' h' a (.dK kvs) := ⟨z, hd, vs, rel, dd⟩
/-- d[y] = v -/
theorem d_setItem {H' : Hp} {Q : Unit → Shared → Prop} (hu : A.units + 1 < cLine) (I : Inv X pins σ H s) (g : DPut H a y v H') (ry : RelV y u) (rv : RelV v r) (h : ∀ s', Inv X pins σ H' s' → Q () s') :
    wpAny (model X.prog X.w) A (setItem (.ref a) u r) Q E s := by
  rcases g with ⟨kvs, k, e, ey, l, eH⟩ | ⟨kvs, k, b, e, ey, eb, l, eH⟩
  · subst ey eH
    obtain ⟨z, hd, vs, rel, dd⟩ := dk_of I.hok e
    have hz : vs.length ≤ sizeLine := by rw [← rel.length]; exact z
    have hl : (putK kvs k v).length ≤ sizeLine := by have := length_putK kvs k v; omega
    refine wpAny_setItem_pairs (hsz := hz) (kV_is ry) dd fun h' dd' hs => h _ ?_
    have he : ∃ q, h'.get? a = some q := let ⟨q, _, _, hq, _⟩ := dd'; ⟨q, hq⟩
    exact d_write I (by rw [e]; exact True.intro) hs he (dk_new hl hd (rel.put k rv) dd')
  · subst ey eH
    cases (show u = Value.ref b from ry)
    obtain ⟨z, hd, xs, rel, dd⟩ := dt_of I.hok e
    have hz : xs.length ≤ sizeLine := by rw [← Paired.length rel]; exact z
    have hl : (putK kvs k v).length ≤ sizeLine := by have := length_putK kvs k v; omega
    refine wpAny_setItem_heap (hsz := hz) (tupleKind_room_in1 hu) (key_of I.hok eb) dd fun h' dd' hs => h _ ?_
    obtain ⟨q, es, ep, hq, h2, h3, h4, _, h5⟩ := dd'
    refine d_write I (by rw [e]; exact True.intro) hs ⟨q, hq⟩ ⟨hl, hd, _, (rel.put k eb rv).keeps fun c ys ec => ?_, q, es, ep, hq, h2, h3, h4, h5⟩
    rw [upd_ne (ne_of ec e (fun z => nomatch z))]
    exact ec
end

section
variable {X : Cx} {pins : List (Addr × Obj)} {σ : St} {H : Hp} {s : Shared} {a : Addr} {kvs : List (Key × V)} {k : Key} {u : Value} {A : Around} {E : Value → Shared → Prop}
/-- del d[k] -/
theorem d_delItem {Q : Unit → Shared → Prop} (I : Inv X pins σ H s) (e : H a = some (.dK kvs)) (ry : RelV (kV k) u) (l : (valV kvs k).isSome = true) (h : ∀ s', Inv X pins σ (upd H a (.dK (dropK kvs k))) s' → Q () s') :
    wpAny (model X.prog X.w) A (delItem (.ref a) u) Q E s := by
  obtain ⟨z, hd, vs, rel, dd⟩ := dk_of I.hok e
  refine wpAny_delItem_slot dd.typeIs (by decide) PySem.F.slot_dict_delitem
    (call_meetsIn PySem.F.slot_dict_delitem dd.typeIs PySem.F.entry_dict_delitem (PySem.F.args_dict_delitem_2 _ _) (meets_dict_delitem_pairs (mixKind X.prog X.w) a (kV_is ry)) ⟨vs, dd, by rw [← rel.length]; exact z, by rw [← (rel.val k).isSome_eq]; exact l, fun h' dd' hs => h _ ?_⟩)
  have he : ∃ q, h'.get? a = some q := let ⟨q, _, _, hq, _⟩ := dd'; ⟨q, hq⟩
  exact d_write I (by rw [e]; exact True.intro) hs he (dk_new (Nat.le_trans (dropK_le kvs k) z) hd (rel.drop k) dd')
/-- d.pop(k[, x]), there -/
theorem d_pop {v : V} {more : List Value} {Q : Value → Shared → Prop} (I : Inv X pins σ H s) (e : H a = some (.dK kvs)) (ry : RelV (kV k) u) (l : valV kvs k = some v) (hm : more = [] ∨ ∃ x, more = [x])
    (h : ∀ w' s', Inv X pins σ (upd H a (.dK (dropK kvs k))) s' → RelV v w' → Q w' s') : wpAny (model X.prog X.w) A (call (.builtin "dict.pop") (.ref a :: u :: more)) Q E s := by
  obtain ⟨z, hd, vs, rel, dd⟩ := dk_of I.hok e
  obtain ⟨w', hw, rw'⟩ := RelO.some_of (v := v) (o := valueAt vs k) (by rw [← l]; exact rel.val k)
  have hp : (keyPart u).isSome = true := by
    cases k with
    | inl i => obtain ⟨t, q⟩ := (show ∃ t, u = Value.int i t from ry); subst q; rfl
    | inr x => obtain ⟨t, q⟩ := (show ∃ t, u = Value.str x t from ry); subst q; rfl
  have ha : argsOk "dict.pop" ⟨.ref a :: u :: more, []⟩ := by
    rcases hm with q | ⟨x, q⟩
    · subst q; exact PySem.F.args_dict_pop_2 _ _
    · subst q; exact PySem.F.args_dict_pop_3 _ _ _
  refine call_meetsIn PySem.F.slot_dict_pop dd.typeIs PySem.F.entry_dict_pop ha (meets_dict_pop_there (mixKind X.prog X.w) a (kV_is ry) more hm hp)
    ⟨vs, w', dd, by rw [← rel.length]; exact z, hw, fun h' dd' hs => h w' _ ?_ rw'⟩
  have he : ∃ q, h'.get? a = some q := let ⟨q, _, _, hq, _⟩ := dd'; ⟨q, hq⟩
  exact d_write I (by rw [e]; exact True.intro) hs he (dk_new (Nat.le_trans (dropK_le kvs k) z) hd (rel.drop k) dd')
/-- d.pop(k, x), not there -/
theorem d_popD {r : Value} {Q : Value → Shared → Prop} (I : Inv X pins σ H s) (e : H a = some (.dK kvs)) (ry : RelV (kV k) u) (l : valV kvs k = none) (h : ∀ s', Inv X pins σ H s' → Q r s') :
    wpAny (model X.prog X.w) A (call (.builtin "dict.pop") [.ref a, u, r]) Q E s := by
  obtain ⟨z, hd, vs, rel, dd⟩ := dk_of I.hok e
  have hn : valueAt vs k = none := RelO.none_of (by rw [← l]; exact rel.val k)
  have hp : (keyPart u).isSome = true := by
    cases k with
    | inl i => obtain ⟨t, q⟩ := (show ∃ t, u = Value.int i t from ry); subst q; rfl
    | inr x => obtain ⟨t, q⟩ := (show ∃ t, u = Value.str x t from ry); subst q; rfl
  exact call_meetsIn PySem.F.slot_dict_pop dd.typeIs PySem.F.entry_dict_pop (PySem.F.args_dict_pop_3 _ _ _) (meets_dict_pop_default (mixKind X.prog X.w) a (kV_is ry) hd hp r) ⟨vs, dd, hn, h _ (I.tok _)⟩
/-- d.clear() -/
theorem d_clear {Q : Value → Shared → Prop} (I : Inv X pins σ H s) (e : H a = some (.dK kvs)) (h : ∀ s', Inv X pins σ (upd H a (.dK [])) s' → Q .none s') : wpAny (model X.prog X.w) A (call (.builtin "dict.clear") [.ref a]) Q E s := by
  obtain ⟨z, hd, vs, rel, dd⟩ := dk_of I.hok e
  refine call_meetsIn PySem.F.slot_dict_clear dd.typeIs PySem.F.entry_dict_clear (PySem.F.args_dict_clear_1 _) (meets_dict_clear (mixKind X.prog X.w) a) ⟨vs, dd, by rw [← rel.length]; exact z, fun h' dd' hs => h _ ?_⟩
  have he : ∃ q, h'.get? a = some q := let ⟨q, _, _, hq, _⟩ := dd'; ⟨q, hq⟩
  exact d_write (t' := s.toks) I (by rw [e]; exact True.intro) hs he (dk_new (Nat.zero_le _) hd .nil dd')
/-- len(d) -/
theorem d_len {Q : Value → Shared → Prop} (I : Inv X pins σ H s) (e : Rd H a (.dK kvs)) (h : ∀ t s', Inv X pins σ H s' → Q (.int kvs.length t) s') : wpAny (model X.prog X.w) A (call (.builtin "len") [.ref a]) Q E s := by
  obtain ⟨z, hd, vs, rel, dd⟩ := dk_rd I.hok e
  refine call_len_dict hd dd (by rw [← rel.length]; rw [sizeLine_eq] at z; omega) ?_
  rw [← rel.length]
  exact h _ _ (I.tok _)
/-- if d -/
theorem d_truth {Q : Bool → Shared → Prop} (I : Inv X pins σ H s) (e : Rd H a (.dK kvs)) (h : ∀ s', Inv X pins σ H s' → Q (!kvs.isEmpty) s') : wpAny (model X.prog X.w) A (truthy (.ref a)) Q E s := by
  obtain ⟨z, hd, vs, rel, dd⟩ := dk_rd I.hok e
  refine wpAny_truthy_dict hd dd (by rw [← rel.length]; rw [sizeLine_eq] at z; omega) ?_
  have q : kvs.isEmpty = vs.isEmpty := by cases rel <;> rfl
  rw [← q]
  exact h _ (I.tok _)
end


/-! ### readings and rules -/
/-- the element of a subscription, not a slice -/
def NoSl (i : Expr) : Prop := ∀ ov iv, subscripted i false ov iv = operate [ov, iv] (getItem ov iv)
theorem subD_of {prog : Program} {w : World} {A : Around} {E : Value → Shared → Prop} {s : Shared} {env : Env} {value slice : Expr} {pos : Pos} {T id : String} {Q : Value → Shared → Prop}
    (hl : typeLookup (.type T) "__getitem__" = pure (some (.builtin id))) (hs : NoSl slice)
    (h : wpAny (model prog w) A (eval value env) (fun o s₁ => wpAny (model prog w) A (eval slice env) (fun i s₂ => s₂.TypeIs o T ∧ wpAny (model prog w) A (getItem o i) Q E s₂) E s₁) E s) :
    wpAny (model prog w) A (eval (.Subscript value slice pos) env) Q E s := by
  refine Subscript_ (wpAny_mono h (fun o s₁ h₁ => wpAny_mono h₁ (fun i s₂ h₂ => ?_) fun _ _ x => x) fun _ _ x => x)
  obtain ⟨hT, h₂⟩ := h₂
  unfold subscriptTail
  refine wpAny_bind ?_
  rw [getitemInPython_of_ne hT.not_modules]
  refine wpAny_bind (wpAny_specialOf hT hl ?_)
  have fin : wpAny (model prog w) A (subscripted slice false o i) (fun r s₃ => wpAny (model prog w) A (letTemporaryGo value o r >>= fun _ => pure r) Q E s₃) E s₂ := by
    rw [hs o i]
    exact wpAny_operating (wpAny_mono h₂ (fun r s₃ h₃ => wpAny_bind (wpAny_letTemporaryGo (wpAny_pure h₃))) fun _ _ x => x)
  first
    | exact wpAny_pure (wpAny_bind fin)
    | exact wpAny_bind (wpAny_pure (wpAny_bind fin))
    | exact wpAny_bind fin

theorem dict_typeIs {X : Cx} {pins : List (Addr × Obj)} {σ : St} {H : Hp} {s : Shared} {a : Addr} {y : V} {o : Option V} (I : Inv X pins σ H s) (g : DGet H a y o) : s.TypeIs (.ref a) "dict" := by
  rcases g with ⟨kvs, k, e, _, _⟩ | ⟨kvs, k, b, e, _, _, _⟩
  · obtain ⟨_, _, vs, _, dd⟩ := dk_rd I.hok e
    exact dd.typeIs
  · obtain ⟨_, _, xs, _, dd⟩ := dt_rd I.hok e
    exact dd.typeIs
theorem dict_noDict {X : Cx} {pins : List (Addr × Obj)} {σ : St} {H : Hp} {s : Shared} {a : Addr} {y : V} {o : Option V} (I : Inv X pins σ H s) (g : DGet H a y o) :
    ∀ b, Value.ref a = .ref b → ∃ ob, s.heap.get? b = some ob ∧ ob.dict = none := fun b q => by
  cases q
  rcases g with ⟨kvs, k, e, _, _⟩ | ⟨kvs, k, b, e, _, _, _⟩
  · obtain ⟨_, _, vs, _, ob, _, _, h1, h2, _⟩ := dk_rd I.hok e
    exact ⟨ob, h1, h2.2.1⟩
  · obtain ⟨_, _, xs, _, ob, _, _, h1, h2, _⟩ := dt_rd I.hok e
    exact ⟨ob, h1, h2.2.1⟩

/-- d[y] -/
def tDGet (td ty : TE) : TE := fun σ H Q => td σ H fun x H1 => ty σ H1 fun y H2 => ∃ a v, x = .ref a ∧ DGet H2 a y (some v) ∧ Q v H2
/-- y in d, y not in d -/
def tDIn (ty td : TE) : TE := fun σ H Q => ty σ H fun y H1 => td σ H1 fun x H2 => ∃ a o, x = .ref a ∧ DGet H2 a y o ∧ Q (.bl o.isSome) H2
def tDNotIn (ty td : TE) : TE := fun σ H Q => ty σ H fun y H1 => td σ H1 fun x H2 => ∃ a o, x = .ref a ∧ DGet H2 a y o ∧ Q (.bl (!o.isSome)) H2
/-- d[y] = v -/
def sDPut (td ty tv : TE) : TS := fun D σ H => tv σ H fun v H1 => td σ H1 fun x H2 => ty σ H2 fun y H3 => ∃ a H4, x = .ref a ∧ DPut H3 a y v H4 ∧ D.nx σ H4
/-- d[y] op= v -/
def sDAug (td ty tv : TE) (rd : V → V → Hp → VK → Prop) : TS := fun D σ H => td σ H fun x H1 => ty σ H1 fun y H2 => ∃ a v, x = .ref a ∧ DGet H2 a y (some v) ∧
  tv σ H2 fun y2 H3 => rd v y2 H3 fun z H4 => ∃ H5, DPut H4 a y z H5 ∧ D.nx σ H5
/-- del d[y] -/
def sDDel (td ty : TE) : TS := fun D σ H => td σ H fun x H1 => ty σ H1 fun y H2 => ∃ a kvs k, x = .ref a ∧ H2 a = some (.dK kvs) ∧ y = kV k ∧ (valV kvs k).isSome = true ∧ D.nx σ (upd H2 a (.dK (dropK kvs k)))

section
variable {X : Cx} {o i e value : Expr} {pos pos' tpos : Pos} {td ty tv : TE}
theorem pe_dget (hu : X.A.units + 1 < cLine) (ho : PE X o td) (hi : PE X i ty) (hs : NoSl i) : PE X (.Subscript o i pos) (tDGet td ty) := by
  intro pins s σ H Q I h
  refine subD_of PySem.F.slot_dict_getitem.lookup hs (thn (ho pins s σ H _ I h) fun u s1 ⟨x, H1, I1, rx, q1⟩ => thn (hi pins s1 σ H1 _ I1 q1) fun iv s2 ⟨y, H2, I2, ry, a, v, ex, g, q2⟩ => ?_)
  subst ex
  obtain rfl : u = Value.ref a := rx
  exact ⟨dict_typeIs I2 g, d_getItem hu I2 g ry fun w' s3 I3 rw' => ⟨v, H2, I3, rw', q2⟩⟩
theorem pc_din (hu : X.A.units + 1 < cLine) (hi : PE X i ty) (ho : PE X o td) : PC X .In i o (tDIn ty td) := by
  intro pins s σ H Q I h
  refine thn (hi pins s σ H _ I h) fun iv s1 ⟨y, H1, I1, ry, q1⟩ => thn (ho pins s1 σ H1 _ I1 q1) fun u s2 ⟨x, H2, I2, rx, a, ov, ex, g, q2⟩ => ?_
  subst ex
  obtain rfl : u = Value.ref a := rx
  exact d_in hu I2 g ry fun s3 I3 => ⟨.bl ov.isSome, H2, I3, rfl, q2⟩
theorem pc_dnotin (hu : X.A.units + 1 < cLine) (hi : PE X i ty) (ho : PE X o td) : PC X .NotIn i o (tDNotIn ty td) := by
  intro pins s σ H Q I h
  refine thn (hi pins s σ H _ I h) fun iv s1 ⟨y, H1, I1, ry, q1⟩ => thn (ho pins s1 σ H1 _ I1 q1) fun u s2 ⟨x, H2, I2, rx, a, ov, ex, g, q2⟩ => ?_
  subst ex
  obtain rfl : u = Value.ref a := rx
  exact d_notIn hu I2 g ry fun s3 I3 => ⟨.bl (!ov.isSome), H2, I3, rfl, q2⟩
theorem ps_dput (hu : X.A.units + 1 < cLine) (ho : PE X o td) (hi : PE X i ty) (hv : PE X value tv) (hs : swapsWith value (some (.Subscript o i pos')) pos.line X.env = pure false) :
    PS X (.Assign [.Subscript o i pos'] value pos) (sDPut td ty tv) := by
  intro pins s σ H D I h
  refine wpAny_Assign_Subscript (thn (hv pins s σ H _ I h) fun r s1 ⟨v, H1, I1, rv, q1⟩ => thn (ho pins s1 σ H1 _ I1 q1) fun u s2 ⟨x, H2, I2, rx, q2⟩ => thn (hi pins s2 σ H2 _ I2 q2) fun iv s3 ⟨y, H3, I3, ry, a, H4, ex, g, q3⟩ => ?_) hs
  subst ex
  obtain rfl : u = Value.ref a := rx
  exact d_setItem hu I3 g ry rv fun s4 I4 => ⟨σ, H4, I4, q3⟩
theorem ps_daug {op : Operator} {rd : V → V → Hp → VK → Prop} (hu : X.A.units + 1 < cLine) (ho : PE X o td) (hi : PE X i ty) (hv : PE X value tv) (hop : InOp X op rd)
    (ha : ∀ ov iv new, augStore i ov iv new = (do holding [new, ov, iv] (setItem ov iv new); release [new, ov, iv] []; pure .next)) : PS X (.AugAssign (.Subscript o i tpos) op value pos) (sDAug td ty tv rd) := by
  intro pins s σ H D I h
  refine wpAny_AugAssign_SubscriptAny (thn (ho pins s σ H _ I h) fun u s1 ⟨x, H1, I1, rx, q1⟩ => thn (hi pins s1 σ H1 _ I1 q1) fun iv s2 ⟨y, H2, I2, ry, a, v, ex, g, q2⟩ => ?_) ha
  subst ex
  obtain rfl : u = Value.ref a := rx
  refine d_getItem hu I2 g ry fun w' s3 I3 rw' => thn (hv pins s3 σ H2 _ I3 q2) fun w2 s4 ⟨y2, H3, I4, ry2, q3⟩ => thn (hop pins s4 σ H3 v y2 w' w2 _ I4 rw' ry2 q3) fun w3 s5 ⟨z, H4, I5, rz, H5, g5, q4⟩ => ?_
  exact d_setItem hu I5 g5 ry rz fun s6 I6 => ⟨σ, H5, I6, q4⟩
theorem ps_ddel (ho : PE X o td) (hi : PE X i ty) : PS X (.Delete [.Subscript o i tpos] pos) (sDDel td ty) := by
  intro pins s σ H D I h
  refine wpAny_Delete (wpAny_deleteEach_cons (wpAny_delete_Subscript (thn (ho pins s σ H _ I h) fun u s1 ⟨x, H1, I1, rx, q1⟩ => thn (hi pins s1 σ H1 _ I1 q1) fun iv s2 ⟨y, H2, I2, ry, a, kvs, k, ex, e, ey, l, q2⟩ => ?_)))
  subst ex ey
  obtain rfl : u = Value.ref a := rx
  exact d_delItem I2 e ry l fun s3 I3 => wpAny_deleteEach_nil ⟨σ, _, I3, q2⟩
end


/-! ### displays -/
theorem dk_empty {P : Program} {w : World} {H : Hp} (h : Heap) (hb : sysModules < h.objs.size) : ObjOk P w H (h.push { cls := .type "dict", data := .dict #[] }) h.objs.size (.dK []) :=
  ⟨Nat.zero_le _, beq_eq_false_iff_ne.mpr (Ne.symm (Nat.ne_of_lt hb)), [], .nil, Heap.DictOf.new h⟩
theorem dt_empty {P : Program} {w : World} {H : Hp} (h : Heap) (hb : sysModules < h.objs.size) : ObjOk P w H (h.push { cls := .type "dict", data := .dict #[] }) h.objs.size (.dT []) :=
  ⟨Nat.zero_le _, beq_eq_false_iff_ne.mpr (Ne.symm (Nat.ne_of_lt hb)), [], .nil, _, #[], 0, Heap.get?_push_size _ rfl, ⟨rfl, rfl, rfl⟩, rfl, rfl, List.nodup_nil⟩
/-- {}, to be a dict of the kind that is wanted -/
def tDNewK : TE := fun _ H Q => ∀ p, H p = none → Q (.ref p) (upd H p (.dK []))
def tDNewT : TE := fun _ H Q => ∀ p, H p = none → Q (.ref p) (upd H p (.dT []))
section
variable {X : Cx} {pos : Pos}
theorem pe_dnewK : PE X (.Dict [] [] pos) tDNewK := fun pins s σ H Q I h =>
  wpAny_Dict_empty ⟨.ref s.heap.objs.size, _, I.laid (a := s.heap.objs.size) (o := .dK []) (t' := s.toks) (fun _ _ q => Heap.get?_push_of_some _ q) (Nat.le_refl _) (dk_empty s.heap I.big), rfl, h _ (I.hok.fresh (Nat.le_refl _))⟩
theorem pe_dnewT : PE X (.Dict [] [] pos) tDNewT := fun pins s σ H Q I h =>
  wpAny_Dict_empty ⟨.ref s.heap.objs.size, _, I.laid (a := s.heap.objs.size) (o := .dT []) (t' := s.toks) (fun _ _ q => Heap.get?_push_of_some _ q) (Nat.le_refl _) (dt_empty s.heap I.big), rfl, h _ (I.hok.fresh (Nat.le_refl _))⟩
end

/-- the pairs of a display, from the left -/
def tPairs : List (TE × TE) → St → Hp → (List (V × V) → Hp → Prop) → Prop
  | [], _, H, Q => Q [] H
  | (tk, tv) :: r, σ, H, Q => tk σ H fun x H1 => tv σ H1 fun y H2 => tPairs r σ H2 fun ps H3 => Q ((x, y) :: ps) H3
abbrev VV : List (V × V) → List (Value × Value) → Prop := Paired fun p q => RelV p.1 q.1 ∧ RelV p.2 q.2
def PPs (X : Cx) (pos : Pos) (keys : List (Option Expr)) (values : List Expr) (trs : List (TE × TE)) : Prop :=
  ∀ (pins : List (Addr × Obj)) (s : Shared) (σ : St) (H : Hp) (Q : List (V × V) → Hp → Prop), Inv X pins σ H s → tPairs trs σ H Q →
    wpAny (model X.prog X.w) X.A (evalPairs (pairTrees keys values X.env pos)) (fun vs s' => ∃ ps H', Inv X pins σ H' s' ∧ VV ps vs ∧ Q ps H') X.xe s
theorem pps_nil {X : Cx} {pos : Pos} : PPs X pos [] [] [] := fun pins s σ H Q I h => pairTrees_nil_walk ⟨[], H, I, .nil, h⟩
theorem pps_cons {X : Cx} {pos : Pos} {k v : Expr} {ks : List (Option Expr)} {vs : List Expr} {tk tv : TE} {trs : List (TE × TE)} (hk : PE X k tk) (hv : PE X v tv) (hr : PPs X pos ks vs trs) :
    PPs X pos (some k :: ks) (v :: vs) ((tk, tv) :: trs) := fun pins s σ H Q I h =>
  pairTrees_cons_walk (thn (hk pins s σ H _ I h) fun u s1 ⟨x, H1, I1, rx, q1⟩ => thn (hv pins s1 σ H1 _ I1 q1) fun w2 s2 ⟨y, H2, I2, ry, q2⟩ =>
    thn (hr pins s2 σ H2 _ I2 q2) fun ws s3 ⟨ps, H3, I3, rel, q3⟩ => ⟨(x, y) :: ps, H3, I3, .cons ⟨rx, ry⟩ rel, q3⟩)

def mergeK (kvs more : List (Key × V)) : List (Key × V) := more.foldl (fun acc kv => putK acc kv.1 kv.2) kvs
theorem KV.merge : ∀ {more : List (Key × V)} {rs : List (Key × Value)} {kvs : List (Key × V)} {vs : List (Key × Value)}, KV more rs → KV kvs vs → KV (mergeK kvs more) (merged vs rs) := by
  intro more rs kvs vs r
  unfold KV at r
  induction r generalizing kvs vs with
  | nil => intro q; exact q
  | @cons p q ps qs h t ih =>
    intro r0
    have e : KV (putK kvs p.1 p.2) (stored vs q.1 q.2) := by
      have := r0.put p.1 h.2
      rw [← h.1]; exact this
    exact ih e
theorem length_mergeK : ∀ (more kvs : List (Key × V)), (mergeK kvs more).length ≤ kvs.length + more.length
  | [], kvs => by show kvs.length ≤ kvs.length + 0; omega
  | p :: r, kvs => by
    have h1 := length_mergeK r (putK kvs p.1 p.2)
    have h2 := length_putK kvs p.1 p.2
    show (mergeK (putK kvs p.1 p.2) r).length ≤ _
    rw [List.length_cons]; omega
theorem carries_of {P : Program} {w : World} : ∀ {kvs : List (Key × V)} {ws : List (Value × Value)}, VV (kvs.map fun kv => (kV kv.1, kv.2)) ws → ∃ rs, Carries (mixKind P w) ws rs ∧ KV kvs rs
  | [], _, r => by rw [List.map_nil] at r; cases r; exact ⟨[], True.intro, .nil⟩
  | p :: kvs, _, r => by
    rw [List.map_cons] at r
    cases r with
    | @cons a b as bs h t =>
      obtain ⟨rs, c, q⟩ := carries_of (P := P) (w := w) t
      obtain ⟨b1, b2⟩ := b
      exact ⟨(p.1, b2) :: rs, ⟨kV_is h.1, rfl, c⟩, .cons ⟨rfl, h.2⟩ q⟩
/-- {k: v, ..} with keys ints and texts; the new dict stands empty while the pairs are made -/
def tDisp (trs : List (TE × TE)) : TE := fun σ H Q => ∀ p, H p = none → tPairs trs σ (upd H p (.dK [])) fun ps H2 => H2 p = some (.dK []) ∧ ∃ kvs : List (Key × V), ps = kvs.map (fun kv => (kV kv.1, kv.2)) ∧ kvs.length ≤ 15 ∧ Q (.ref p) (upd H2 p (.dK (mergeK [] kvs)))
theorem pe_disp {X : Cx} {pos : Pos} {keys : List (Option Expr)} {values : List Expr} {trs : List (TE × TE)} (h : PPs X pos keys values trs) (hall : keys.all (·.isSome) = true) (hl : keys.length = values.length) (h0 : keys ≠ [])
    (h15 : keys.length ≤ 15) : PE X (.Dict keys values pos) (tDisp trs) := by
  intro pins s σ H Q I q
  have hn := I.hok.fresh (Nat.le_refl s.heap.objs.size)
  have I1 := I.laid (a := s.heap.objs.size) (o := .dK []) (h' := s.heap.push { cls := .type "dict", data := .dict #[] }) (t' := s.toks) (fun _ _ q => Heap.get?_push_of_some _ q) (Nat.le_refl _) (dk_empty s.heap I.big)
  refine wpAny_Dict_walk (knd := mixKind X.prog X.w) hall hl h0 h15 (thn (h pins _ σ _ _ I1 (q _ hn)) fun ws s2 ⟨ps, H2, I2, rel, e, kvs, ep, lk, q2⟩ => ?_)
  subst ep
  obtain ⟨rs, c, rk⟩ := carries_of (P := X.prog) (w := X.w) rel
  obtain ⟨z, hd, vs0, r0, dd⟩ := dk_of I2.hok e
  cases r0
  refine ⟨rs, c, dd, fun h' dd' hs => ⟨.ref s.heap.objs.size, _, ?_, rfl, q2⟩⟩
  have hz : (mergeK [] kvs).length ≤ sizeLine := by
    have h1 := length_mergeK kvs []
    rw [List.length_nil] at h1
    rw [sizeLine_eq]; omega
  have he : ∃ q, h'.get? s.heap.objs.size = some q := let ⟨q, _, _, hq, _⟩ := dd'; ⟨q, hq⟩
  exact d_write I2 (by rw [e]; exact True.intro) hs he (dk_new hz hd (rk.merge .nil) dd')


/-! ### methods -/
/-- a method call o.m(e) of a built-in, with one argument: what must be seen of the text -/
structure M1 (X : Cx) (o : Expr) (m : Str) (apos : Pos) (e : Expr) (cpos : Pos) : Prop where
  base : attributeBase o m X.env (eval o X.env) = eval o X.env
  few : ((backTo cpos (starEach [e] X.env)).all (fun x => !x.1) && (backToKw cpos (keywordEach [] X.env)).all (fun x => x.1.isSome)
    && decide (([e] : List Expr).length + ([] : List Keyword).length + (if ([] : List Keyword).isEmpty then 0 else 1) < 30)) = true
  line : (apos.endLine == cpos.line) = true
  trees : backTo cpos (starEach [e] X.env) = [(false, eval e X.env)]
structure M2 (X : Cx) (o : Expr) (m : Str) (apos : Pos) (e f : Expr) (cpos : Pos) : Prop where
  base : attributeBase o m X.env (eval o X.env) = eval o X.env
  few : ((backTo cpos (starEach [e, f] X.env)).all (fun x => !x.1) && (backToKw cpos (keywordEach [] X.env)).all (fun x => x.1.isSome)
    && decide (([e, f] : List Expr).length + ([] : List Keyword).length + (if ([] : List Keyword).isEmpty then 0 else 1) < 30)) = true
  line : (apos.endLine == cpos.line) = true
  trees : backTo cpos (starEach [e, f] X.env) = [(false, eval e X.env), (false, eval f X.env)]

/-- a is a dict, whatever its keys -/
def IsD (H : Hp) (a : Addr) : Prop := (∃ kvs, Rd H a (.dK kvs)) ∨ ∃ kvs, Rd H a (.dT kvs)
theorem isD_at {X : Cx} {pins : List (Addr × Obj)} {σ : St} {H : Hp} {s : Shared} {a : Addr} (I : Inv X pins σ H s) (d : IsD H a) :
    s.TypeIs (.ref a) "dict" ∧ (∀ b, Value.ref a = .ref b → ∃ ob, s.heap.get? b = some ob ∧ ob.dict = none) ∧ (a == sysModules) = false := by
  rcases d with ⟨kvs, e⟩ | ⟨kvs, e⟩
  · obtain ⟨_, hd, vs, _, dd⟩ := dk_rd I.hok e
    refine ⟨dd.typeIs, fun b q => ?_, hd⟩
    cases q
    obtain ⟨ob, _, _, h1, h2, _⟩ := dd
    exact ⟨ob, h1, h2.2.1⟩
  · obtain ⟨_, hd, xs, _, dd⟩ := dt_rd I.hok e
    refine ⟨dd.typeIs, fun b q => ?_, hd⟩
    cases q
    obtain ⟨ob, _, _, h1, h2, _⟩ := dd
    exact ⟨ob, h1, h2.2.1⟩

section
variable {X : Cx} {pins : List (Addr × Obj)} {σ : St} {H : Hp} {s : Shared} {a : Addr} {y d : V} {u r : Value} {o : Option V} {A : Around} {E : Value → Shared → Prop}
/-- d.get(y) -/
theorem d_get1 {Q : Value → Shared → Prop} (hu : A.units + 1 < cLine) (I : Inv X pins σ H s) (g : DGet H a y o) (ry : RelV y u) (h : ∀ w' s', Inv X pins σ H s' → RelV (o.getD .non) w' → Q w' s') :
    wpAny (model X.prog X.w) A (call (.builtin "dict.get") [.ref a, u]) Q E s := by
  rcases g with ⟨kvs, k, e, ey, l⟩ | ⟨kvs, k, b, e, ey, eb, l⟩
  · subst ey
    obtain ⟨z, hd, vs, rel, dd⟩ := dk_rd I.hok e
    refine call_meetsIn PySem.F.slot_dict_get dd.typeIs PySem.F.entry_dict_get (PySem.F.args_dict_get_2 _ _) (meets_dict_get (mixKind X.prog X.w) a (kV_is ry) hd) ⟨_, dd.mapOf, h _ _ (I.tok _) ?_⟩
    rw [l]
    exact (rel.val k).getD rfl
  · subst ey
    cases (show u = Value.ref b from ry)
    obtain ⟨z, hd, xs, rel, dd⟩ := dt_rd I.hok e
    refine call_meetsIn PySem.F.slot_dict_get dd.typeIs PySem.F.entry_dict_get (PySem.F.args_dict_get_2 _ _) (meetsH_dict_get (tupleKind (mixKind X.prog X.w)) a b hd) ⟨tupleKind_room_in1 hu, k, xs, key_of I.hok eb, dd, h _ _ (I.tok _) ?_⟩
    rw [l]
    exact (rel.val k).getD rfl
/-- d.get(y, x) -/
theorem d_get2 {Q : Value → Shared → Prop} (hu : A.units + 1 < cLine) (I : Inv X pins σ H s) (g : DGet H a y o) (ry : RelV y u) (rd : RelV d r) (h : ∀ w' s', Inv X pins σ H s' → RelV (o.getD d) w' → Q w' s') :
    wpAny (model X.prog X.w) A (call (.builtin "dict.get") [.ref a, u, r]) Q E s := by
  rcases g with ⟨kvs, k, e, ey, l⟩ | ⟨kvs, k, b, e, ey, eb, l⟩
  · subst ey
    obtain ⟨z, hd, vs, rel, dd⟩ := dk_rd I.hok e
    refine call_meetsIn PySem.F.slot_dict_get dd.typeIs PySem.F.entry_dict_get (PySem.F.args_dict_get_3 _ _ _) (meets_dict_get_default (mixKind X.prog X.w) a (kV_is ry) hd r) ⟨_, dd.mapOf, h _ _ (I.tok _) ?_⟩
    rw [l]
    exact (rel.val k).getD rd
  · subst ey
    cases (show u = Value.ref b from ry)
    obtain ⟨z, hd, xs, rel, dd⟩ := dt_rd I.hok e
    refine call_meetsIn PySem.F.slot_dict_get dd.typeIs PySem.F.entry_dict_get (PySem.F.args_dict_get_3 _ _ _) (meetsH_dict_get_default (tupleKind (mixKind X.prog X.w)) a b hd r) ⟨tupleKind_room_in1 hu, k, xs, key_of I.hok eb, dd, h _ _ (I.tok _) ?_⟩
    rw [l]
    exact (rel.val k).getD rd
end

def tDGet1 (td ty : TE) : TE := fun σ H Q => td σ H fun x H1 => ∃ a, x = .ref a ∧ IsD H1 a ∧ ty σ H1 fun y H2 => ∃ o, DGet H2 a y o ∧ Q (o.getD .non) H2
def tDGet2 (td ty tx : TE) : TE := fun σ H Q => td σ H fun x H1 => ∃ a, x = .ref a ∧ IsD H1 a ∧ ty σ H1 fun y H2 => tx σ H2 fun z H3 => ∃ o, DGet H3 a y o ∧ Q (o.getD z) H3
/-- d.pop(k): there; d.pop(k, x): there or not -/
def tDPop1 (td ty : TE) : TE := fun σ H Q => td σ H fun x H1 => ∃ a, x = .ref a ∧ IsD H1 a ∧ ty σ H1 fun y H2 => ∃ kvs k v, H2 a = some (.dK kvs) ∧ y = kV k ∧ valV kvs k = some v ∧ Q v (upd H2 a (.dK (dropK kvs k)))
def tDPop2 (td ty tx : TE) : TE := fun σ H Q => td σ H fun x H1 => ∃ a, x = .ref a ∧ IsD H1 a ∧ ty σ H1 fun y H2 => tx σ H2 fun z H3 => ∃ kvs k, H3 a = some (.dK kvs) ∧ y = kV k ∧
  (∀ v, valV kvs k = some v → Q v (upd H3 a (.dK (dropK kvs k)))) ∧ (valV kvs k = none → Q z H3)
section
variable {X : Cx} {o e f : Expr} {apos cpos : Pos} {td ty tx : TE}
theorem pe_dget1 (hu : X.A.units + 1 < cLine) (ho : PE X o td) (he : PE X e ty) (m : M1 X o "get" apos e cpos) : PE X (.Call (.Attribute o "get" apos) [e] [] cpos) (tDGet1 td ty) := by
  intro pins s σ H Q I h
  refine wpAny_Call_method m.base m.few m.line PySem.F.plainAttrs_dict PySem.F.slot_dict_get PySem.F.type_dict_get (thn (ho pins s σ H _ I h) fun u s1 ⟨x, H1, I1, rx, a, ex, d, q1⟩ => ?_)
  subst ex
  obtain rfl : u = Value.ref a := rx
  obtain ⟨t1, t2, _⟩ := isD_at I1 d
  refine ⟨t1, t2, ?_⟩
  rw [m.trees]
  refine Calls.callWith_builtin rfl (Calls.evalArgs_plain (Calls.spliced_cons (thn (he pins s1 σ H1 _ I1 q1) fun iv s2 ⟨y, H2, I2, ry, ov, g, q2⟩ => Calls.spliced_nil ?_)))
  exact d_get1 hu I2 g ry fun w' s3 I3 rw' => ⟨_, H2, I3, rw', q2⟩
theorem pe_dget2 (hu : X.A.units + 1 < cLine) (ho : PE X o td) (he : PE X e ty) (hf : PE X f tx) (m : M2 X o "get" apos e f cpos) : PE X (.Call (.Attribute o "get" apos) [e, f] [] cpos) (tDGet2 td ty tx) := by
  intro pins s σ H Q I h
  refine wpAny_Call_method m.base m.few m.line PySem.F.plainAttrs_dict PySem.F.slot_dict_get PySem.F.type_dict_get (thn (ho pins s σ H _ I h) fun u s1 ⟨x, H1, I1, rx, a, ex, d, q1⟩ => ?_)
  subst ex
  obtain rfl : u = Value.ref a := rx
  obtain ⟨t1, t2, _⟩ := isD_at I1 d
  refine ⟨t1, t2, ?_⟩
  rw [m.trees]
  refine Calls.callWith_builtin rfl (Calls.evalArgs_plain (Calls.spliced_cons (thn (he pins s1 σ H1 _ I1 q1) fun iv s2 ⟨y, H2, I2, ry, q2⟩ =>
    Calls.spliced_cons (thn (hf pins s2 σ H2 _ I2 q2) fun fv s3 ⟨z, H3, I3, rz, ov, g, q3⟩ => Calls.spliced_nil ?_))))
  exact d_get2 hu I3 g ry rz fun w' s4 I4 rw' => ⟨_, H3, I4, rw', q3⟩
theorem pe_dpop1 (ho : PE X o td) (he : PE X e ty) (m : M1 X o "pop" apos e cpos) : PE X (.Call (.Attribute o "pop" apos) [e] [] cpos) (tDPop1 td ty) := by
  intro pins s σ H Q I h
  refine wpAny_Call_method m.base m.few m.line PySem.F.plainAttrs_dict PySem.F.slot_dict_pop PySem.F.type_dict_pop (thn (ho pins s σ H _ I h) fun u s1 ⟨x, H1, I1, rx, a, ex, d, q1⟩ => ?_)
  subst ex
  obtain rfl : u = Value.ref a := rx
  obtain ⟨t1, t2, _⟩ := isD_at I1 d
  refine ⟨t1, t2, ?_⟩
  rw [m.trees]
  refine Calls.callWith_builtin rfl (Calls.evalArgs_plain (Calls.spliced_cons (thn (he pins s1 σ H1 _ I1 q1) fun iv s2 ⟨y, H2, I2, ry, kvs, k, v, ea, ey, l, q2⟩ => Calls.spliced_nil ?_)))
  subst ey
  exact d_pop I2 ea ry l (.inl rfl) fun w' s3 I3 rw' => ⟨v, _, I3, rw', q2⟩
theorem pe_dpop2 (ho : PE X o td) (he : PE X e ty) (hf : PE X f tx) (m : M2 X o "pop" apos e f cpos) : PE X (.Call (.Attribute o "pop" apos) [e, f] [] cpos) (tDPop2 td ty tx) := by
  intro pins s σ H Q I h
  refine wpAny_Call_method m.base m.few m.line PySem.F.plainAttrs_dict PySem.F.slot_dict_pop PySem.F.type_dict_pop (thn (ho pins s σ H _ I h) fun u s1 ⟨x, H1, I1, rx, a, ex, d, q1⟩ => ?_)
  subst ex
  obtain rfl : u = Value.ref a := rx
  obtain ⟨t1, t2, _⟩ := isD_at I1 d
  refine ⟨t1, t2, ?_⟩
  rw [m.trees]
  refine Calls.callWith_builtin rfl (Calls.evalArgs_plain (Calls.spliced_cons (thn (he pins s1 σ H1 _ I1 q1) fun iv s2 ⟨y, H2, I2, ry, q2⟩ =>
    Calls.spliced_cons (thn (hf pins s2 σ H2 _ I2 q2) fun fv s3 ⟨z, H3, I3, rz, kvs, k, ea, ey, q3, q4⟩ => Calls.spliced_nil ?_))))
  subst ey
  cases l : valV kvs k with
  | some v => exact d_pop I3 ea ry l (.inr ⟨fv, rfl⟩) fun w' s4 I4 rw' => ⟨v, _, I4, rw', q3 v l⟩
  | none => exact d_popD I3 ea ry l fun s4 I4 => ⟨z, H3, I4, rz, q4 l⟩
end

/-! ### dict(d): a copy -/
section
variable {X : Cx} {pins : List (Addr × Obj)} {σ : St} {H : Hp} {s : Shared} {a : Addr} {kvs : List (Key × V)} {A : Around} {E : Value → Shared → Prop}
theorem d_copyOf {Q : Value → Shared → Prop} (I : Inv X pins σ H s) (e : Rd H a (.dK kvs)) (h : ∀ p s', H p = none → Inv X pins σ (upd H p (.dK kvs)) s' → Q (.ref p) s') : wpAny (model X.prog X.w) A (call (.type "dict") [.ref a]) Q E s := by
  obtain ⟨z, hd, vs, rel, dd⟩ := dk_rd I.hok e
  refine kt_call_dict hd dd (by rw [← rel.length]; exact z) fun h' dd' hs => ?_
  refine h _ _ (I.hok.fresh (Nat.le_refl _)) (I.laid (a := s.heap.objs.size) (o := .dK kvs) (t' := s.toks) (fun b q hq => ?_) (Nat.le_refl _) (dk_new z (beq_eq_false_iff_ne.mpr (Ne.symm (Nat.ne_of_lt I.big))) rel dd'))
  exact (hs.2 b (Nat.ne_of_lt (Heap.lt_size hq))).trans (Heap.get?_push_of_some _ hq)
end


section
variable {X : Cx} {pins : List (Addr × Obj)} {σ : St} {H : Hp} {s : Shared} {a : Addr} {y : V} {u : Value} {A : Around} {E : Value → Shared → Prop}
/-- d[y], not there: a KeyError -/
theorem d_missing {Q : Value → Shared → Prop} (hu : A.units + 1 < cLine) (hh : A.handled = none) (I : Inv X pins σ H s) (g : DGet H a y none) (ry : RelV y u)
    (h : ∀ h' e t', Heap.NewExc s.heap h' e "KeyError" → E (.ref e) { s with heap := h', toks := t' }) : wpAny (model X.prog X.w) A (getItem (.ref a) u) Q E s := by
  rcases g with ⟨kvs, k, e, ey, l⟩ | ⟨kvs, k, b, e, ey, eb, l⟩
  · subst ey
    obtain ⟨z, hd, vs, rel, dd⟩ := dk_rd I.hok e
    have hn : valueAt vs k = none := RelO.none_of (by rw [l]; exact rel.val k)
    exact wpAny_getItem_missing_of (kV_is ry) hd hh dd.mapOf hn fun h' ex ne => h h' ex _ ne
  · subst ey
    cases (show u = Value.ref b from ry)
    obtain ⟨z, hd, xs, rel, dd⟩ := dt_rd I.hok e
    have hn : (atKey xs k).map (·.2) = none := RelO.none_of (by rw [l]; exact rel.val k)
    exact wpAny_getItem_missing_heap (tupleKind_room_in1 hu) (key_of I.hok eb) hd hh dd (Option.map_eq_none_iff.mp hn) fun h' ex ne => h h' ex _ ne
end
end L2

namespace Att
open PySem PySem.W PySem.Calls PyProof.Rows

/-! ### the script -/
theorem ints_of_wellAll {P : Params} {h : Heap} : ∀ (ns : List Int) (vs : List Value), WellAll P h vs (ns.map WData.int) → IntsAre vs ns := by
  intro ns
  induction ns with
  | nil =>
    intro vs w
    rw [List.map_nil] at w
    cases w
    exact .nil
  | cons n ns ih =>
    intro vs w
    rw [List.map_cons] at w
    cases w with
    | cons a b =>
      cases a
      exact .cons _ _ (ih _ b)

theorem script_of {l : OpenLaw} {n : Nat} (hn : l.most = some n) {P : Params} {h : Heap} {args : List WData} {vals : List Value}
    (hpre : l.row.toRowW.claim.pre args = true) (hwl : WellAll P h vals args) :
    ∃ a vs ns, vals = [Value.ref a] ∧ args = [WData.list (ns.map WData.int)] ∧ h.get? a = some { cls := .type "list", data := .seq vs.toArray } ∧ IntsAre vs ns ∧ ns.length ≤ n := by
  have hsh : WShape.hasAll [] args [.list .int] = true := (pre_splitW hpre).1
  have hc : l.pre.holds [] { args := args } = true := (pre_splitW hpre).2
  obtain ⟨d, r, rfl, h1, h2⟩ := hasAllW_cons hsh
  obtain rfl := hasAllW_nil h2
  obtain ⟨xs, rfl, h3⟩ := hasW_list h1
  obtain ⟨ns, rfl⟩ := items_int h3
  have hlen : ns.length ≤ n := by
    unfold OpenLaw.pre at hc
    have h4 : (WTm.not (.lt (.lit (.int (n : Int))) (.len (.arg 0)))).holds [] { args := [.list (ns.map .int)] } = true := by
      have h4 := (holds_andW hc).1
      rw [hn] at h4
      exact h4
    have h5 := condW_of h4 (w_not (w_lt w_lit (w_len_list (w_arg rfl))))
    rw [List.length_map] at h5
    refine Nat.le_of_not_lt fun q => ?_
    have q' : (n : Int) < ((ns.length : Nat) : Int) := by omega
    first
      | (rw [decide_eq_true q'] at h5; exact absurd h5 (by decide))
      | (simp at h5; omega)
  cases hwl with
  | cons w1 w2 =>
    cases w2
    cases w1 with
    | list ho hall => exact ⟨_, _, ns, rfl, rfl, ho, ints_of_wellAll ns _ hall, hlen⟩

theorem post_true (l : OpenLaw) (args : List WData) : l.row.toRowW.claim.post args (.bool true) args = true :=
  postW_of (r := l.row.toRowW) (X := (true == true))
    (show WShape.has [] (.bool true) .bool = true by first | rfl | decide | simp [WShape.has, WShape.arms, WShape.armsAll])
    (show (WTm.eq .res (.lit (.bool true))).value [] { args := args, res := some (.bool true), after := args } = some (.bool (true == true)) from w_eq_bool (w_res rfl) w_lit) rfl

/-! ### the attachment: holds_open's last premise (the goal 'hc' behind k_head) from a wpAny of the law's body -/
theorem attach {l : OpenLaw} {n : Nat} {q : Program} {loose : List Str} {XP : (Str → Option Value) → Heap → Prop} {YP : World → Heap → Prop} {d : DefRec} {x : Str}
    (hn : l.most = some n) (hdf : d.params.defaults = [])
    (hbind : ∀ pm cd doc v : Value, bindArgs (docDef d.name d.params d.body d.scope pm cd doc) ⟨[v], []⟩ = pure [(x, v)])
    (hx : d.scope.names.lookup x = some .local ∨ d.scope.names.lookup x = some .cell)
    (hk : d.scope.kind = .function) (hco : d.scope.isCoroutine = false) (hgen : d.scope.isGenerator = false)
    (body : ∀ (w : World) (s₀ s₁ s : Shared) (mg mb : Str → Option Value) (fa : Addr) (o : Obj) (pm cd doc : Value) (a : Addr) (vs : List Value) (ns : List Int),
      Ground q loose [] XP w s₀ mg mb s₁.heap → YP w s₁.heap →
      s₁.heap.get? fa = some o → o.data = .func (docDef d.name d.params d.body d.scope pm cd doc) → s₁.heap.CodeRec cd d.name → mg d.name = some (.ref fa) →
      s₁.heap.get? a = some { cls := .type "list", data := .seq vs.toArray } → IntsAre vs ns → ns.length ≤ n →
      s.gens = #[] → s.os = s₁.os →
      Fr s₁.heap s₁.heap.objs.size s.heap (bindL (envOfC d.name d.scope s₁.heap.objs.size fa cd).kindOf [(x, .ref a)] fun _ => none) →
      Cl s₁.heap.objs.size (cellsFrom (s₁.heap.objs.size + 1) d.scope.names []) s.heap (bindC (envOfC d.name d.scope s₁.heap.objs.size fa cd).kindOf [(x, .ref a)] fun _ => none) →
      wpAny (model l.prog w) (callerA.deeper (envOfC d.name d.scope s₁.heap.objs.size fa cd)) (execs d.body (envOfC d.name d.scope s₁.heap.objs.size fa cd))
        (fun f s' => f = .ret (.bool true) ∧ OldK s₁.heap s'.heap ∧ s'.os = s₁.os ∧ AllBare s'.gens) (fun _ _ => False) s) :
    WalkO q loose XP YP l.row.toRowW d [] (fun f vs => PySem.call f vs) := by
  intro w s₀ s₁ mg mb G Y fa o pm cd doc dV kV ho hd hcd hD hmg hg args vals as hpre hlay hrd hwl hlo
  obtain rfl : dV = .none := Dflts.none hD hdf
  obtain rfl : kV = .none := Dflts.noKw hD
  obtain ⟨a, vs, ns, rfl, rfl, hobj, hints, hlen⟩ := script_of hn hpre hwl
  refine enter_call ?_
  refine call_cells_ret (o := o) (by rw [depth_caller]; decide) ho (fd_plain hd) G.T.nolimit hcd (hbind pm cd doc (.ref a)) (fun y hy => ?_) (fun h₁ tk F X => ?_) hco hgen hk
  · obtain rfl : y = (x, Value.ref a) := List.mem_singleton.mp hy
    rcases hx with e | e
    · exact .inl e
    · exact .inr ⟨e, cellsFrom_some _ _ _ (.inl e)⟩
  · refine wpAny_mono (body w s₀ s₁ { s₁ with heap := h₁, toks := tk } mg mb fa o pm cd doc a vs ns G Y ho (fd_plain hd) hcd hmg hobj hints hlen hg rfl F X) (fun f s' hq => ?_) (fun _ _ hq => hq)
    obtain ⟨rfl, h2, h3, h4⟩ := hq
    exact ⟨.inl ⟨.bool true, .bool true, [], rfl, fun _ => rfl, .bool true, post_true l _, fun _ => ⟨List.Pairwise.nil, fun _ hm => (nomatch hm)⟩⟩, h2, h3, h4⟩

/-- the same from a codeAny of the CALL (for a layer whose function contracts speak of calls) -/
theorem attach_call {l : OpenLaw} {n : Nat} {q : Program} {loose : List Str} {XP : (Str → Option Value) → Heap → Prop} {YP : World → Heap → Prop} {d : DefRec}
    (hn : l.most = some n) (hdf : d.params.defaults = [])
    (call : ∀ (w : World) (s₀ s₁ : Shared) (mg mb : Str → Option Value) (fa : Addr) (o : Obj) (pm cd doc : Value) (a : Addr) (vs : List Value) (ns : List Int),
      Ground q loose [] XP w s₀ mg mb s₁.heap → YP w s₁.heap →
      s₁.heap.get? fa = some o → o.data = .func (docDef d.name d.params d.body d.scope pm cd doc) → s₁.heap.CodeRec cd d.name → mg d.name = some (.ref fa) →
      s₁.heap.get? a = some { cls := .type "list", data := .seq vs.toArray } → IntsAre vs ns → ns.length ≤ n → s₁.gens = #[] →
      codeAny (model l.prog w) callerA (.call (.ref fa) ⟨[.ref a], []⟩) (fun r s' => r = .ok (.ret (.bool true)) ∧ OldK s₁.heap s'.heap ∧ s'.os = s₁.os ∧ AllBare s'.gens) s₁) :
    WalkO q loose XP YP l.row.toRowW d [] (fun f vs => PySem.call f vs) := by
  intro w s₀ s₁ mg mb G Y fa o pm cd doc dV kV ho hd hcd hD hmg hg args vals as hpre hlay hrd hwl hlo
  obtain rfl : dV = .none := Dflts.none hD hdf
  obtain rfl : kV = .none := Dflts.noKw hD
  obtain ⟨a, vs, ns, rfl, rfl, hobj, hints, hlen⟩ := script_of hn hpre hwl
  refine enter_call (codeAny_mono (call w s₀ s₁ mg mb fa o pm cd doc a vs ns G Y ho (fd_plain hd) hcd hmg hobj hints hlen hg) fun r s' hq => ?_)
  obtain ⟨rfl, h2, h3, h4⟩ := hq
  exact ⟨.inl ⟨.bool true, .bool true, [], rfl, fun _ => rfl, .bool true, post_true l _, fun _ => ⟨List.Pairwise.nil, fun _ hm => (nomatch hm)⟩⟩, h2, h3, h4⟩

/-- the same where the top left finished generators (o_head chose holds_openN): nothing may have changed at all and no generator may be left -/
theorem attachN {l : OpenLaw} {n : Nat} {q : Program} {loose : List Str} {XP : (Str → Option Value) → Heap → Prop} {YP : World → Heap → Prop} {d : DefRec} {x : Str}
    (hn : l.most = some n) (hdf : d.params.defaults = [])
    (hbind : ∀ pm cd doc v : Value, bindArgs (docDef d.name d.params d.body d.scope pm cd doc) ⟨[v], []⟩ = pure [(x, v)])
    (hx : d.scope.names.lookup x = some .local ∨ d.scope.names.lookup x = some .cell)
    (hk : d.scope.kind = .function) (hco : d.scope.isCoroutine = false) (hgen : d.scope.isGenerator = false)
    (body : ∀ (w : World) (s₀ s₁ s : Shared) (mg mb : Str → Option Value) (fa : Addr) (o : Obj) (pm cd doc : Value) (a : Addr) (vs : List Value) (ns : List Int),
      Ground q loose [] XP w s₀ mg mb s₁.heap → YP w s₁.heap →
      s₁.heap.get? fa = some o → o.data = .func (docDef d.name d.params d.body d.scope pm cd doc) → s₁.heap.CodeRec cd d.name → mg d.name = some (.ref fa) →
      s₁.heap.get? a = some { cls := .type "list", data := .seq vs.toArray } → IntsAre vs ns → ns.length ≤ n →
      s.gens = #[] → s.os = s₁.os →
      Fr s₁.heap s₁.heap.objs.size s.heap (bindL (envOfC d.name d.scope s₁.heap.objs.size fa cd).kindOf [(x, .ref a)] fun _ => none) →
      Cl s₁.heap.objs.size (cellsFrom (s₁.heap.objs.size + 1) d.scope.names []) s.heap (bindC (envOfC d.name d.scope s₁.heap.objs.size fa cd).kindOf [(x, .ref a)] fun _ => none) →
      wpAny (model l.prog w) (callerA.deeper (envOfC d.name d.scope s₁.heap.objs.size fa cd)) (execs d.body (envOfC d.name d.scope s₁.heap.objs.size fa cd))
        (fun f s' => f = .ret (.bool true) ∧ (∀ b o, s₁.heap.get? b = some o → s'.heap.get? b = some o) ∧ s'.os = s₁.os ∧ s'.gens = #[]) (fun _ _ => False) s) :
    WalkN q loose XP YP l.row.toRowW d [] (fun f vs => PySem.call f vs) := by
  intro w s₀ s₁ mg mb G Y fa o pm cd doc dV kV ho hd hcd hD hmg hg args vals as hpre hlay hrd hwl hlo
  obtain rfl : dV = .none := Dflts.none hD hdf
  obtain rfl : kV = .none := Dflts.noKw hD
  obtain ⟨a, vs, ns, rfl, rfl, hobj, hints, hlen⟩ := script_of hn hpre hwl
  refine enter_callW ?_
  refine call_cells_ret (o := o) (by rw [depth_caller]; decide) ho (fd_plain hd) G.T.nolimit hcd (hbind pm cd doc (.ref a)) (fun y hy => ?_) (fun h₁ tk F X => ?_) hco hgen hk
  · obtain rfl : y = (x, Value.ref a) := List.mem_singleton.mp hy
    rcases hx with e | e
    · exact .inl e
    · exact .inr ⟨e, cellsFrom_some _ _ _ (.inl e)⟩
  · refine wpAny_mono (body w s₀ s₁ { s₁ with heap := h₁, toks := tk } mg mb fa o pm cd doc a vs ns G Y ho (fd_plain hd) hcd hmg hobj hints hlen hg rfl F X) (fun f s' hq => ?_) (fun _ _ hq => hq)
    obtain ⟨rfl, h2, h3, h4⟩ := hq
    exact ⟨.inl ⟨.bool true, .bool true, [], rfl, fun _ => rfl, .bool true, post_true l _, fun _ => ⟨List.Pairwise.nil, fun _ hm => (nomatch hm)⟩⟩, h2, h3, h4⟩

/-! ### rules over ANY heap (no ledger) from facts about the written part K: the library's own take a ledger (News) for what they write -/
section
variable {prog : Program} {w : World} {A : Around} {E : Value → Shared → Prop} {s : Shared} {K : Frag}

/-- a def of the module, or a method (qual 'C.m'), entered: the frame is the next address; cells behind it -/
theorem call_fn {R : Result → Shared → Prop} {name qual : Str} {params : Arguments} {body : List Stmt} {scope : Scope} {dV kV doc pm cdv ct oc : Value} {an od : Option Addr} {osl : Array (Option Value)} {f : Addr} {args : Args} {binds : List (Str × Value)}
    (X : K.In s.heap) (hlim : s.heap.NoLimit) (ho : K.lookup f = some ⟨oc, od, .func (fnOf name qual params body scope dV kV doc pm an cdv ct), osl⟩) (hcd : codeIn K cdv qual = true) (hroom : A.depth < recursionLimit)
    (hbind : BindsTo s (fnOf name qual params body scope dV kV doc pm an cdv ct) args binds)
    (hkind : (binds.all fun y => scope.names.lookup y.1 == some .local || scope.names.lookup y.1 == some .cell) = true)
    (h : ∀ s₁, InCallC s s.heap.objs.size (bindL (envOfC qual scope s.heap.objs.size f cdv).kindOf binds fun _ => none) (cellsFrom (s.heap.objs.size + 1) scope.names [])
        (bindC (envOfC qual scope s.heap.objs.size f cdv).kindOf binds fun _ => none) s₁ →
      wpAny (model prog w) (A.deeper (envOfC qual scope s.heap.objs.size f cdv)) (execs body (envOfC qual scope s.heap.objs.size f cdv))
        (fun fl s' => R (.ok (.ret (match fl with | .ret v => v | _ => .none))) s')
        (fun e s' => wpAny (model prog w) (A.deeper (envOfC qual scope s.heap.objs.size f cdv)) (leaving (envOfC qual scope s.heap.objs.size f cdv) e) (fun _ s'' => R (.error e) s'') (fun e' s'' => R (.error e') s'') s') s₁)
    (hco : scope.isCoroutine = false) (hgen : scope.isGenerator = false) (hk : scope.kind = .function) : codeAny (model prog w) A (.call (.ref f) args) R s := by
  refine codeAny_call_function hroom (X _ _ ho) rfl hco hgen rfl (codeRec_of X hcd) (hbind _ _ _ _ ?_)
  refine wpAny_newFunctionEnv_cells hk (kindsX hkind _) fun env he s₁ x => ?_
  subst he
  exact ⟨hlim.keeps x.toInCall.keep, codeAny_func (h s₁ x)⟩

/-- C(..): dict at size, instance at size + 1, then __init__ -/
theorem make_obj {R : Result → Shared → Prop} {C fI : Addr} {rest : List Value} {kw : List (Str × Value)}
    (X : K.In s.heap) (hm : makesIn K C = true) (hi : findIn K (.ref C) "__init__" = some (some (.ref fI))) (hf : isFn K (.ref fI) = true)
    (h : codeAny (model prog w) (A.under (.builtin "type.__call__" ⟨.ref C :: rest, kw⟩)) (.call (.ref fI) ⟨.ref (s.heap.objs.size + 1) :: rest, kw⟩) (InitBack (s.heap.objs.size + 1) R)
      { s with heap := (s.heap.push emptyDict).push (instObj C s.heap.objs.size) }) : codeAny (model prog w) A (.call (.ref C) ⟨rest, kw⟩) R s := by
  obtain ⟨hh, g, d, t, os⟩ := s
  exact make_core (makes_of X hm) (looks_findIn X hi) (fun self => bind_fn X self (beq_iff_eq.mp hf)) (.inl rfl) h

/-- x.name where the instance's dict holds the name and the class does not -/
theorem get_field {x C : Addr} {ox : Obj} {es : List DictEntry} {n : Nat} {name : Str} {expr : Bool} {v : Value} {Q : Value → Shared → Prop}
    (X : K.In s.heap) (I : PySem.W.InstAt s.heap x ox C (some (dictOf es n))) (hg : plainGet K C name = true) (hh : hasDictIn K C = true) (ha : findIn K (.ref C) name = some none)
    (hl : getL name es = some (some v)) (hv : handedIn v = true) (h : Q v { s with toks := s.toks + 1 }) : wpAny (model prog w) A (getAttr (.ref x) name expr) Q E s :=
  get_value X I (plainGet_of hg).1 (findObj_own hh ha rfl hl) hv h

/-- x.m(..): the method found in the class -/
theorem get_method {x C f : Addr} {ox : Obj} {es : List DictEntry} {n : Nat} {name : Str} {pl : Sem Bool} {Q : Value × List Value → Shared → Prop}
    (X : K.In s.heap) (I : PySem.W.InstAt s.heap x ox C (some (dictOf es n))) (hg : plainGet K C name = true) (hf : findIn K (.ref C) name = some (some (.ref f))) (ht : isFn K (.ref f) = true)
    (hl : getL name es = some none) (h : Q (.ref f, [.ref x]) s) : wpAny (model prog w) A (getMethod (.ref x) name pl) Q E s :=
  method_fn X I (plainGet_of hg).1 (plainGet_of hg).2 hf (beq_iff_eq.mp ht) (by show (lookIn name (dictOf es n)).map _ = _; rw [lookIn_dict, hl]; rfl) h

/-! the whole heap as the ledger: makes every rule that writes through a ledger a rule over any heap -/
def noObjs (h : Heap) : Heap := { h with objs := #[] }
theorem noObjs_get (h : Heap) (b : Addr) : (noObjs h).get? b = none := by
  cases e : (noObjs h).get? b with
  | none => rfl
  | some o => exact absurd (Heap.lt_size e) (Nat.not_lt_zero _)
def ledger (h : Heap) (L d : Addr) : List (Addr × Obj) := (List.range h.objs.size).filterMap fun a => if a = L ∨ a = d then none else (h.get? a).map fun o => (a, o)
theorem mem_ledger {h : Heap} {L d a : Addr} {o : Obj} : (a, o) ∈ ledger h L d ↔ a ≠ L ∧ a ≠ d ∧ h.get? a = some o := by
  unfold ledger
  rw [List.mem_filterMap]
  constructor
  · rintro ⟨b, _, e⟩
    split at e
    · cases e
    · rename_i hb
      obtain ⟨o', ho, e'⟩ := Option.map_eq_some_iff.mp e
      cases e'
      exact ⟨fun q => hb (.inl q), fun q => hb (.inr q), ho⟩
  · rintro ⟨n1, n2, ho⟩
    refine ⟨a, List.mem_range.mpr (Heap.lt_size ho), ?_⟩
    rw [if_neg (show ¬ (a = L ∨ a = d) from fun q => q.elim n1 n2), ho] <;> rfl
theorem news_ledger {h : Heap} {L d : Addr} {od : Obj} (hne : d ≠ L) (ho : h.get? d = some od) : News (noObjs h) L h ([] ++ (d, od) :: ledger h L d) := by
  rintro ⟨a, o⟩ hp
  rcases List.mem_cons.mp hp with e | hp
  · cases e
    exact ⟨ho, hne, noObjs_get _ _⟩
  · obtain ⟨n1, n2, e⟩ := mem_ledger.mp hp
    exact ⟨e, n1, noObjs_get _ _⟩
theorem fr_all {h : Heap} {L : Addr} {m : Str → Option Value} (n : h.Ns L m) : Fr (noObjs h) L h m :=
  ⟨n, fun b o e => (by rw [noObjs_get] at e; cases e), Nat.zero_le _⟩
/-- Upd of the head entry (for append_K, setItem_K ..) -/
theorem upd_ledger {h : Heap} {L d : Addr} {o o' : Obj} : Upd d o o' ((d, o) :: ledger h L d) ((d, o') :: ledger h L d) :=
  .head fun ⟨_, _⟩ hp => (mem_ledger.mp hp).2.1

/-- x.name = v over any heap: L is any namespace of the heap (the frame's, say): its map stays, its object is not told; all else but the dict stays -/
theorem set_field {x C dx L : Addr} {ox : Obj} {m : Str → Option Value} {es es' : List DictEntry} {n n' : Nat} {name : Str} {v : Value} {Q : Unit → Shared → Prop}
    (X : K.In s.heap) (I : PySem.W.InstAt s.heap x ox C (some (dictOf es n))) (hd : ox.dict = some dx) (hL : s.heap.Ns L m) (hne : dx ≠ L)
    (hs : findIn K (.ref C) "__setattr__" = some (some (.builtin "object.__setattr__"))) (hp : plainOver K C = true) (ht : takerIn K C name = some none) (hh : hasDictIn K C = true) (hl : (getL name es).isSome = true)
    (e : (putL name (PyData.keyHash w.params name) (.str name (s.toks + 1)) v es, putN name es n) = (es', n')) (hz : es'.length ≤ 1000)
    (h : ∀ h' : Heap, h'.Ns L m → h'.get? dx = some (dictOf es' n') → (∀ b o, b ≠ dx → b ≠ L → s.heap.get? b = some o → h'.get? b = some o) → Q () { s with heap := h', toks := s.toks + 2 }) :
    wpAny (model prog w) A (setAttr (.ref x) name v) Q E s := by
  obtain ⟨e1, e2⟩ := Prod.mk.inj e
  have hdx : s.heap.get? dx = some (dictOf es n) := by
    have := I.dict
    rw [hd] at this
    exact this
  refine set_plain X I hs (osa_dict (s := { s with toks := s.toks + 1 }) (h₀ := noObjs s.heap) (L := L) (m := m) (od := dictOf es n) (od' := dictOf es' n') (es := es') (n := n') (pre := []) (post := ledger s.heap L dx)
    (fr_all hL) (news_ledger hne hdx) X I hd hp ht hh hl (fun _ q => nomatch q) (fun ⟨_, _⟩ q => (mem_ledger.mp q).2.1) (by rw [putName_dict, e1, e2]) rfl hz fun h' F' N' => ?_)
  exact h h' F'.ns (N'.get (List.Mem.head _)) fun b o n1 n2 ho => N'.get (List.Mem.tail _ (mem_ledger.mpr ⟨n2, n1, ho⟩))
end
end Att

namespace L2
open PySem PySem.Spec PyProof.Rows

theorem vals_ints : ∀ {vs : List Value} {ns : List Int}, IntsAre vs ns → Vals (ns.map V.int) vs
  | _, _, .nil => .nil
  | _, _, .cons n t h => .cons ⟨t, rfl⟩ (vals_ints h)

/-- nothing is tracked but the script, known to the object (or it is an object of the module) -/
def Only (H : Hp) : Prop := ∀ b, H b = none ∨ ∃ o xs, H b = some (.frz o (.lst xs))

/-- THE HEAD: the law's promise, at the heap behind the top. F, the promise of the law's def, may use that base is part of the heap (so K.In base, base.Ns mainGlobals mg stand in Mod) -/
theorem law_call {P : Program} {w : World} {K : PySem.W.Frag} {mg mb : Str → Option Value} {CX : CXT} {k : Nat} {fa a : Addr} {fd : FuncData} {x : Str} {sp : Sp} {s₁ : Shared} {vs : List Value} {ns : List Int}
    (KX : K.In s₁.heap) (hns : s₁.heap.Ns mainGlobals mg) (hb : s₁.heap.Ns builtinsNs mb) (hbb : ∀ x : Str, x ≠ "__name__" → mb x = bootBuiltins x) (hlim : s₁.heap.NoLimit) (hg : s₁.gens = #[])
    (ha : s₁.heap.get? a = some { cls := .type "list", data := .seq vs.toArray }) (hi : IntsAre vs ns) (hl : ns.length ≤ sizeLine) (hr : Room k callerA)
    (F : ∀ base : Heap, K.In base → base.Ns mainGlobals mg → FnOk P w K mg base CX k fa fd [x] sp) (hbind : ∀ (s : Shared) (u : Value), BindsTo s fd ⟨[u], []⟩ [(x, u)])
    (hsp : ∀ H : Hp, Only H → SqL K H a (ns.map V.int) → sp [.ref a] H (fun v _ => v = .bl true) fun _ _ _ => False)
    (hCX : ∀ H e s', CX [] H s₁ (fun _ _ _ => False) e s' → False) :
    codeAny (model P w) callerA (.call (.ref fa) ⟨[.ref a], []⟩) (fun r s' => r = .ok (.ret (.bool true)) ∧ OldK s₁.heap s'.heap ∧ s'.os = s₁.os ∧ AllBare s'.gens) s₁ := by
  have rv := vals_ints hi
  have lenV := hi.length
  -- from an abstract heap in which nothing but the script may be tracked
  have core : ∀ H : Hp, Only H → SqL K H a (ns.map V.int) → HOk P w H s₁.heap → (∀ b, H b ≠ none → b = a) → (H a ≠ none → K.lookup a = none) →
      codeAny (model P w) callerA (.call (.ref fa) ⟨[.ref a], []⟩) (fun r s' => r = .ok (.ret (.bool true)) ∧ OldK s₁.heap s'.heap ∧ s'.os = s₁.os ∧ AllBare s'.gens) s₁ := by
    intro H hO hS hok hA hK
    have base_of : ∀ {b : Addr} {o : Obj}, s₁.heap.get? b = some o → H b = none → (hidT s₁.heap H).get? b = some o := fun e n => hidT_get e n
    have noA : ∀ {b : Addr} {o : Obj} {es : Array DictEntry} {ep : Nat}, s₁.heap.get? b = some o → o.data = .dict es ep → H b = none := fun {b o es ep} e d => by
      cases q : H b with
      | none => rfl
      | some u =>
        have e' : b = a := hA b (by rw [q]; simp)
        subst e'
        rw [ha] at e; cases e
        have d' : Data.seq vs.toArray _ = Data.dict es ep := d
        cases d'
    have nsK : ∀ {b : Addr} {m : Str → Option Value}, s₁.heap.Ns b m → (hidT s₁.heap H).Ns b m := fun {b m} ⟨o, es, ep, e, d, r⟩ => ⟨o, es, ep, base_of e (noA e d), d, r⟩
    have hKb : K.In (hidT s₁.heap H) := fun b o e => base_of (KX b o e) (by
      cases q : H b with
      | none => rfl
      | some u =>
        have e' : b = a := hA b (by rw [q]; simp)
        subst e'
        rw [hK (by rw [q]; simp)] at e; cases e)
    have hM : Mod K mg (hidT s₁.heap H) := ⟨hKb, nsK hns, ⟨mb, nsK hb, hbb⟩, let ⟨mc, h1, h2⟩ := hlim; ⟨mc, nsK h1, h2⟩⟩
    have e0 : Env0 P w K mg (hidT s₁.heap H) callerA [] s₁ H := ⟨rfl, hM, fun b o e => of_hidT e, Nat.le_of_eq (hidT_size _ _), trivial, fun b hb => absurd (show b ∈ ([] : List Addr) from hb) (by simp), hok, .of_eq hg⟩
    refine codeAny_mono ((F _ hKb (nsK hns)).run callerA [] s₁ H ⟨[.ref a], []⟩ [.ref a] [.ref a] _ _ hr e0 (hbind s₁ (.ref a)) (.cons rfl .nil) (hsp H hO hS)) fun r s' h => ?_
    cases r with
    | error e => exact (hCX H e s' h).elim
    | ok fl =>
      cases fl with
      | next => exact False.elim h
      | brk => exact False.elim h
      | cont => exact False.elim h
      | ret u =>
        obtain ⟨v, H', os, bare, un, hok', r', q⟩ := h
        have q' : v = .bl true := q
        subst q'
        obtain rfl : u = Value.bool true := r'
        refine ⟨rfl, OldK.of_keep fun b o e => ?_, os, bare⟩
        cases q : H b with
        | none => exact un.keep b o e q (by intro z; exact absurd (show b ∈ ([] : List Addr) from z) (by simp)) (by simp)
        | some u =>
          rcases hO b with z | ⟨ob, xs, z⟩
          · rw [q] at z; cases z
          · have z2 := un.frzs b ob _ z
            obtain ⟨e1, _⟩ := hok b _ z
            obtain ⟨e2, _⟩ := hok' b _ z2
            rw [e] at e1; cases e1
            exact e2
  cases hk : K.lookup a with
  | some o =>
    -- the script is one of the module's own objects
    have e := KX a o hk
    rw [ha] at e
    cases e
    refine core (fun _ => none) (fun _ => .inl rfl) (.inr ⟨_, vs.toArray, _, hk, rfl, rfl, rfl, by rw [List.size_toArray, lenV]; exact hl, by simpa using rv⟩) (fun b u z => by have z' : (none : Option HO) = some u := z; cases z') (fun b z => absurd rfl z) fun z => absurd rfl z
  | none =>
    refine core (fun b => if b = a then some (.frz { cls := .type "list", data := .seq vs.toArray } (.lst (ns.map V.int))) else none) (fun b => ?_) (.inl (.inr ⟨{ cls := .type "list", data := .seq vs.toArray }, if_pos rfl⟩)) (fun b u z => ?_) (fun b z => ?_) fun _ => hk
    · by_cases hb : b = a
      · exact .inr ⟨_, _, if_pos hb⟩
      · exact .inl (if_neg hb)
    · by_cases hb : b = a
      · have z' := (if_pos hb).symm.trans z
        cases z'
        subst hb
        exact ⟨ha, by rw [List.length_map]; exact hl, vs, _, rv, ha⟩
      · have z' := (if_neg hb).symm.trans z
        cases z'
    · by_cases hb : b = a
      · exact hb
      · exact absurd (if_neg hb) z
end L2

namespace L2
open PySem PySem.Spec PyProof.Rows

abbrev KOf {K : PySem.W.Frag} {h : Heap} (_ : K.In h) : PySem.W.Frag := K

/-- the goal that k_head leaves (case hc), from the law's promise. F gives the function object fd (K's own) once, then the promise over every base -/
theorem walk_of {l : PySem.W.OpenLaw} {n k : Nat} {q : Program} {loose : List Str} {XP : (Str → Option Value) → Heap → Prop} {YP : World → Heap → Prop} {d : DefRec} {K : Params → PySem.W.Frag} {CX : World → CXT} {sp : World → Sp} {x : Str}
    (hn : l.most = some n) (hn2 : n ≤ sizeLine) (hdf : d.params.defaults = []) (hr : Room k callerA)
    (hY : ∀ (w : World) (h : Heap), YP w h → (K w.params).In h)
    (F : ∀ (w : World) (mg : Str → Option Value) (fa : Addr) (h : Heap), (K w.params).In h → h.Ns mainGlobals mg → mg d.name = some (.ref fa) →
      ∃ fd : FuncData, (∀ (s : Shared) (u : Value), BindsTo s fd ⟨[u], []⟩ [(x, u)]) ∧
        ∀ base : Heap, (K w.params).In base → base.Ns mainGlobals mg → FnOk l.prog w (K w.params) mg base (CX w) k fa fd [x] (sp w))
    (hsp : ∀ (w : World) (H : Hp) (a : Addr) (ns : List Int), ns.length ≤ n → Only H → SqL (K w.params) H a (ns.map V.int) → sp w [.ref a] H (fun v _ => v = .bl true) fun _ _ _ => False)
    (hCX : ∀ (w : World) (H : Hp) (s : Shared) (e : Value) (s' : Shared), CX w [] H s (fun _ _ _ => False) e s' → False) :
    PySem.W.WalkO q loose XP YP l.row.toRowW d [] (fun f vs => PySem.call f vs) := by
  refine Att.attach_call hn hdf fun w s₀ s₁ mg mb fa o pm cd doc a vs ns G Y ho hd hcd hmg hobj hints hlen hg => ?_
  have KX := hY w _ Y
  obtain ⟨fd, hb, hF⟩ := F w mg fa _ KX G.T.g hmg
  exact law_call KX G.T.g G.T.b G.T.builtins G.T.nolimit hg hobj hints (Nat.le_trans hlen hn2) hr hF hb (fun H hO hS => hsp w H a ns hlen hO hS) fun H e s' => hCX w H s₁ e s'
/-- the same where the promise hangs on the written part alone: (sp := My.sp_law), no hole under a binder -/
theorem walk_ofK {l : PySem.W.OpenLaw} {n k : Nat} {q : Program} {loose : List Str} {XP : (Str → Option Value) → Heap → Prop} {YP : World → Heap → Prop} {d : DefRec} {K : Params → PySem.W.Frag} {CX : CXT} {sp : PySem.W.Frag → Sp} {x : Str}
    (hn : l.most = some n) (hn2 : n ≤ sizeLine) (hdf : d.params.defaults = []) (hr : Room k callerA)
    (hY : ∀ (w : World) (h : Heap), YP w h → (K w.params).In h)
    (F : ∀ (w : World) (mg : Str → Option Value) (fa : Addr) (h : Heap), (K w.params).In h → h.Ns mainGlobals mg → mg d.name = some (.ref fa) →
      ∃ fd : FuncData, (∀ (s : Shared) (u : Value), BindsTo s fd ⟨[u], []⟩ [(x, u)]) ∧
        ∀ base : Heap, (K w.params).In base → base.Ns mainGlobals mg → FnOk l.prog w (K w.params) mg base CX k fa fd [x] (sp (K w.params)))
    (hsp : ∀ (K : PySem.W.Frag) (H : Hp) (a : Addr) (ns : List Int), ns.length ≤ n → Only H → SqL K H a (ns.map V.int) → sp K [.ref a] H (fun v _ => v = .bl true) fun _ _ _ => False)
    (hCX : ∀ (H : Hp) (s : Shared) (e : Value) (s' : Shared), CX [] H s (fun _ _ _ => False) e s' → False) :
    PySem.W.WalkO q loose XP YP l.row.toRowW d [] (fun f vs => PySem.call f vs) :=
  walk_of (K := K) (CX := fun _ => CX) (sp := fun w => sp (K w.params)) hn hn2 hdf hr hY F (fun w H a ns h1 h2 h3 => hsp (K w.params) H a ns h1 h2 h3) fun _ H s e s' => hCX H s e s'
end L2

/- THE LAST THEOREM (shape; LID, My.* are yours):
   My.Adr: a structure of the addresses that your layer names (classes, functions); My.Txt K t: a structure (Prop) of the equations over K;
   My.txt_mk : {K} {implicit addresses ..} (e1 : nsIn K mainGlobals "law" = some (some (.ref f))) (e2 : K.lookup f = some ⟨oc, od, .func (fnOf "law" "law" params body scope dV kV doc pm an cdv ct), sl⟩) (e3 : codeIn K cdv "law" = true) .. : ∃ t, My.Txt K t

theorem PySem.Challenge.cw_LID_holds : PySem.Challenge.rw_LID.Holds := by
  w_on; o_law; k_head; (case hw => w_witness2)
  k_fill
  refine L2.walk_of (l := PySem.Challenge.rw_LID) (n := 63) (k := 40) (x := "script") (CX := fun w => ..) (sp := fun _ => My.sp_law) rfl (by decide) rfl ⟨rfl, by decide, by decide⟩ (fun w h Y => PySem.W.kIn_of Y) ?F ?S ?C
  case F =>
    intro w mg fa h KX G hmg
    have T : ∃ t, My.Txt (L2.KOf KX) t := by
      dsimp only [L2.KOf]                          -- K must stand as «<heap const> w.params» for k_is
      refine' My.txt_mk ?e1 ?e2 ?e3 ..
      (case e1 => PySem.W.k_is)                    -- in the order: a name -> its address -> its object -> its parts
      (case e2 => PySem.W.k_is)
      ..
    obtain ⟨t, T⟩ := T
    have e0 := hmg.symm.trans (PySem.W.mg_of KX G T.law)
    cases e0                                       -- fa is the law's own address
    exact ⟨_, fun s u => .of_eq rfl, fun base kb nb => My.law_fn T kb nb⟩     -- if «.of_eq rfl» comes too early: refine' ⟨_, ?b, fun base kb nb => My.law_fn T kb nb⟩; exact fun s u => .of_eq rfl
  case S => exact fun w H a ns hl hO hS => ..
  case C => exact ..
(the tactic k_is has no namespace: write k_is) -/

/-! SHORT WORDS over the layer: a def of the text, its body, what a loop and a test want. -/
namespace L2
open PySem PySem.Spec PyProof.Rows

/-! ### the text by places -/
/-- the j-th statement of a class's body -/
def inClass (s : Stmt) (j : Nat) : Stmt := match s with
  | .ClassDef _ _ _ body _ _ _ _ _ _ _ => body.getD j (.Pass ⟨0, 0, 0, 0⟩)
  | _ => .Pass ⟨0, 0, 0, 0⟩
def defArgs (s : Stmt) : Arguments := match s with
  | .FunctionDef _ a _ _ _ _ _ _ _ _ => a
  | _ => { posonlyargs := [], args := [], vararg := none, kwonlyargs := [], kw_defaults := [], kwarg := none, defaults := [] }
def defBody (s : Stmt) : List Stmt := match s with
  | .FunctionDef _ _ b _ _ _ _ _ _ _ => b
  | _ => []
def defScope (s : Stmt) : Scope := match s with
  | .FunctionDef _ _ _ _ _ _ sc _ _ _ => sc
  | _ => { kind := .function, names := [], isGenerator := false, isCoroutine := false }

/-! ### no exception leaves a def -/
abbrev CX0 : CXT := fun _ _ _ _ _ _ => False
abbrev E0 : XK := fun _ _ _ => False
theorem pass0 {X : Cx} : Passes CX0 X E0 := fun _ _ _ _ _ _ _ h => h.elim

/-! ### a def (or method) of the text as it stands behind the top -/
structure Fun (K : PySem.W.Frag) (x qual : Str) (st : Stmt) (f : Addr) (fd : FuncData) : Prop where
  ex : ∃ (oc : Value) (od : Option Addr) (kV doc pm : Value) (an : Option Addr) (cdv ct : Value) (osl : Array (Option Value)),
    fd = PySem.W.fnOf x qual (defArgs st) (defBody st) (defScope st) .none kV doc pm an cdv ct ∧ K.lookup f = some ⟨oc, od, .func fd, osl⟩ ∧ PySem.W.codeIn K cdv qual = true
  kp : PySem.W.keepIn K (.ref f) = true
section
variable {P : Program} {w : World} {K : PySem.W.Frag} {mg : Str → Option Value} {base : Heap}
/-- THE RULE for a def: its body as a term of rules, and the reading of that term -/
theorem Fun.ok {x qual : Str} {st : Stmt} {f : Addr} {fd : FuncData} {N ps : List Str} {k : Nat} {sp : Sp} (F : Fun K x qual st f fd) (S : FnScope N ps (defScope st)) (len : ∀ vs H Q E, sp vs H Q E → vs.length = ps.length)
    (hbody : ∀ (cdv : Value) (A : Around) (outer : List Env) (s : Shared) (H : Hp) (vs : List V) (Q : VK) (E : XK), Room k (A.deeper (envOfC qual (defScope st) s.heap.objs.size f cdv)) → sp vs H Q E →
      ∃ t, PSs (cxOf CX0 P w K mg base N qual (defScope st) f cdv A outer s H E).nox (defBody st) t ∧ t { nx := fun _ H' => Q .non H', rt := Q } (start N vs) H) : FnOk P w K mg base CX0 (k + 1) f fd ps sp := by
  obtain ⟨oc, od, kV, doc, pm, an, cdv, ct, osl, rfl, lk, hcd⟩ := F.ex
  refine fn_of lk hcd S len fun A outer s H vs Q E hr hsp => ?_
  obtain ⟨t, h, q⟩ := hbody cdv A outer s H vs Q E hr hsp
  exact ⟨t, h.nox, q⟩
/-- how its arguments bind (no defaults): h is «fun _ _ _ _ _ _ us hl => match us, hl with | [_, _], _ => rfl», one _ a parameter -/
theorem Fun.binds {x qual : Str} {st : Stmt} {f : Addr} {fd : FuncData} {ps : List Str} (F : Fun K x qual st f fd)
    (h : ∀ (kV doc pm : Value) (an : Option Addr) (cdv ct : Value) (us : List Value), us.length = ps.length → bindArgs (PySem.W.fnOf x qual (defArgs st) (defBody st) (defScope st) .none kV doc pm an cdv ct) ⟨us, []⟩ = pure (ps.zip us)) : Binds K fd ps [] := by
  obtain ⟨oc, od, kV, doc, pm, an, cdv, ct, osl, rfl, lk, hcd⟩ := F.ex
  exact .all (h kV doc pm an cdv ct)
theorem fun_mk {x qual : Str} {st : Stmt} {f : Addr} {oc : Value} {od an : Option Addr} {osl : Array (Option Value)} {kV doc pm cdv ct : Value} (l : K.lookup f = some ⟨oc, od, .func (PySem.W.fnOf x qual (defArgs st) (defBody st) (defScope st) .none kV doc pm an cdv ct), osl⟩)
    (c : PySem.W.codeIn K cdv qual = true) (k : PySem.W.keepIn K (.ref f) = true) : Fun K x qual st f (PySem.W.fnOf x qual (defArgs st) (defBody st) (defScope st) .none kV doc pm an cdv ct) := ⟨⟨oc, od, kV, doc, pm, an, cdv, ct, osl, rfl, l, c⟩, k⟩
end
theorem hu_of {A : Around} {k : Nat} (hr : Room k A) : A.units + 1 < cLine := Nat.lt_of_le_of_lt (Nat.add_le_add_left (by decide : 1 ≤ 64) _) hr.units
theorem small1000 {n : Nat} (h : n ≤ 1000) : n < sizeLine := Nat.lt_of_le_of_lt h (by decide)

/-! ### expressions in short: the name that stands in the i-th slot -/
section
variable {X : Cx}
theorem pv (i : Nat) {x : Str} {pos : Pos} (hN : X.N[i]? = some x := by rfl) (hv : Vis X.env.scope x := by first | exact Or.inl rfl | exact Or.inr (Or.inl rfl) | exact Or.inr (Or.inr rfl)) (hd : (x == ("__debug__" : Str)) = false := by decide)
    (hcd : (x == ("__classdict__" : Str)) = false := by decide) : PE X (.Name x pos) (tVar i) := pe_var hN hv hd hcd
/-- len of a dict -/
theorem call_lenD : CallR X (.builtin "len") (fun xs H Q => ∃ a kvs, xs = [V.ref a] ∧ H a = some (.dK kvs) ∧ Q (.int kvs.length) H) := by
  intro pins s σ H xs us Q I r h
  obtain ⟨a, kvs, rfl, ha, q⟩ := h
  obtain ⟨u, rfl, ru⟩ := vals1 r
  cases ru
  exact d_len I (.inl ha) fun t s' I' => ⟨.int kvs.length, H, I', ⟨t, rfl⟩, q⟩
end

/-! ### tests -/
theorem iteF {A B : Prop} (h : B) : if false = true then A else B := by
  rw [if_neg Bool.false_ne_true]
  exact h
theorem iteT {A B : Prop} (h : A) : if true = true then A else B := by
  rw [if_pos rfl]
  exact h
theorem ite2 {c A B : Prop} [Decidable c] (h1 : c → A) (h2 : ¬ c → B) : if c then A else B := by
  by_cases h : c
  · rw [if_pos h]
    exact h1 h
  · rw [if_neg h]
    exact h2 h
theorem iteNS {c A B : Prop} [Decidable c] (hc : c) (h : B) : if (!decide c) = true then A else B := by
  rw [decide_eq_true hc]
  exact iteF h

/-! ### heaps -/
/-- all that was tracked is as it was -/
def Same (H H' : Hp) : Prop := ∀ b o, H b = some o → H' b = some o
theorem Same.refl (H : Hp) : Same H H := fun _ _ h => h
theorem Same.trans {H H1 H2 : Hp} (a : Same H H1) (b : Same H1 H2) : Same H H2 := fun c o h => b c o (a c o h)
theorem Same.free {H H' : Hp} (e : Same H H') {l : Addr} (h : H' l = Option.none) : H l = Option.none := by
  cases q : H l with
  | none => rfl
  | some o =>
    rw [e l o q] at h
    cases h
theorem Same.seq {K : PySem.W.Frag} {H H' : Hp} {a : Addr} {xs : List V} (e : Same H H') (h : SqL K H a xs) : SqL K H' a xs := by
  rcases h with (h | ⟨o, h⟩) | h
  · exact .inl (.inl (e _ _ h))
  · exact .inl (.inr ⟨o, e _ _ h⟩)
  · exact .inr h

/-! ### a dict's pairs: keys that differ -/
section
variable {κ : Type} [DecidableEq κ]
theorem valV_not {kvs : List (κ × V)} {k : κ} (h : valV kvs k = none) : ¬ k ∈ kvs.map (·.1) := by
  intro m
  obtain ⟨p, hp, e⟩ := List.mem_map.mp m
  have q : (kvs.any fun kv => decide (kv.1 = k)) = true := List.any_eq_true.mpr ⟨p, hp, decide_eq_true e⟩
  rw [valV_any, h] at q
  exact absurd q (by simp)
theorem valV_in {kvs : List (κ × V)} {k : κ} {v : V} (h : valV kvs k = some v) : k ∈ kvs.map (·.1) := by
  have q : (kvs.any fun kv => decide (kv.1 = k)) = true := by
    rw [valV_any, h]
    all_goals rfl
  obtain ⟨p, hp, e⟩ := List.any_eq_true.mp q
  exact List.mem_map.mpr ⟨p, hp, of_decide_eq_true e⟩
theorem nd_snoc : ∀ {l : List κ} {k : κ}, l.Nodup → ¬ k ∈ l → (l ++ [k]).Nodup
  | [], k, _, _ => by simp
  | a :: r, k, h, hk => by
    obtain ⟨h1, h2⟩ := List.nodup_cons.mp h
    show (a :: (r ++ [k])).Nodup
    refine List.nodup_cons.mpr ⟨fun m => ?_, nd_snoc h2 fun m => hk (List.mem_cons.mpr (Or.inr m))⟩
    rcases List.mem_append.mp m with q | q
    · exact h1 q
    · exact hk (List.mem_cons.mpr (Or.inl (List.mem_singleton.mp q).symm))
theorem nd_putK {kvs : List (κ × V)} {k : κ} (v : V) (hn : (kvs.map (·.1)).Nodup) (h : valV kvs k = none) : ((putK kvs k v).map (·.1)).Nodup := by
  rw [putK_new v h, List.map_append]
  exact nd_snoc hn (valV_not h)
theorem dropK_pos {p : κ × V} {r : List (κ × V)} {k : κ} (e : p.1 = k) : dropK (p :: r) k = dropK r k := by
  unfold dropK
  rw [List.filter_cons, if_neg (by simp [e])]
theorem dropK_neg {p : κ × V} {r : List (κ × V)} {k : κ} (e : ¬ p.1 = k) : dropK (p :: r) k = p :: dropK r k := by
  unfold dropK
  rw [List.filter_cons, if_pos (by simp [e])]
theorem dropK_no : ∀ {kvs : List (κ × V)} {k : κ}, ¬ k ∈ kvs.map (·.1) → dropK kvs k = kvs
  | [], _, _ => rfl
  | p :: r, k, h => by
    have h' : ¬ k ∈ r.map (·.1) := fun m => by
      obtain ⟨q, hq, e⟩ := List.mem_map.mp m
      exact h (List.mem_map.mpr ⟨q, List.mem_cons.mpr (Or.inr hq), e⟩)
    rw [dropK_neg fun e => h (List.mem_map.mpr ⟨p, List.mem_cons.mpr (Or.inl rfl), e⟩), dropK_no h']
theorem dropK_mem {kvs : List (κ × V)} {k : κ} {p : κ × V} (h : p ∈ dropK kvs k) : p ∈ kvs := (List.mem_filter.mp h).1
theorem nd_dropK : ∀ {kvs : List (κ × V)} {k : κ}, (kvs.map (·.1)).Nodup → ((dropK kvs k).map (·.1)).Nodup
  | [], _, _ => List.nodup_nil
  | p :: r, k, h => by
    have h : (p.1 :: r.map (·.1)).Nodup := h
    obtain ⟨h1, h2⟩ := List.nodup_cons.mp h
    by_cases e : p.1 = k
    · rw [dropK_pos e]
      exact nd_dropK h2
    · rw [dropK_neg e]
      show (p.1 :: (dropK r k).map (·.1)).Nodup
      refine List.nodup_cons.mpr ⟨fun m => h1 ?_, nd_dropK h2⟩
      obtain ⟨q, hq, eq⟩ := List.mem_map.mp m
      exact List.mem_map.mpr ⟨q, dropK_mem hq, eq⟩
theorem dropK_len : ∀ {kvs : List (κ × V)} {k : κ}, (kvs.map (·.1)).Nodup → k ∈ kvs.map (·.1) → (dropK kvs k).length + 1 = kvs.length
  | [], _, _, m => by simp at m
  | p :: r, k, h, m => by
    have h : (p.1 :: r.map (·.1)).Nodup := h
    have m : k = p.1 ∨ k ∈ r.map (·.1) := List.mem_cons.mp m
    obtain ⟨h1, h2⟩ := List.nodup_cons.mp h
    by_cases e : p.1 = k
    · subst e
      rw [dropK_pos rfl, dropK_no h1]
      all_goals rfl
    · have m' : k ∈ r.map (·.1) := m.resolve_left fun z => e z.symm
      have q := dropK_len h2 m'
      rw [dropK_neg e, List.length_cons, List.length_cons]
      omega
end
end L2


/-! M3: a small machine of its own. Values without tuples' addresses, a heap by numbers, deterministic. -/
namespace M3
open PySem

inductive D where
  | non | bl (b : Bool) | int (i : Int) | str (x : Str) | tup (xs : List D) | ref (n : Nat)
  deriving Inhabited

mutual
def D.beq : D → D → Bool
  | .non, .non => true
  | .bl a, .bl b => a == b
  | .int a, .int b => a == b
  | .str a, .str b => decide (a = b)
  | .tup a, .tup b => D.beqs a b
  | .ref a, .ref b => a == b
  | _, _ => false
def D.beqs : List D → List D → Bool
  | [], [] => true
  | a :: r, b :: t => D.beq a b && D.beqs r t
  | _, _ => false
end
mutual
theorem D.beq_iff : ∀ (x y : D), D.beq x y = true ↔ x = y
  | .non, y => by cases y <;> simp [D.beq]
  | .bl a, y => by cases y <;> simp [D.beq]
  | .int a, y => by cases y <;> simp [D.beq]
  | .str a, y => by cases y <;> simp [D.beq]
  | .tup a, y => by
    cases y with
    | tup b => simp only [D.beq, D.tup.injEq]; exact D.beqs_iff a b
    | _ => simp [D.beq]
  | .ref a, y => by cases y <;> simp [D.beq]
theorem D.beqs_iff : ∀ (x y : List D), D.beqs x y = true ↔ x = y
  | [], y => by cases y <;> simp [D.beqs]
  | a :: r, y => by
    cases y with
    | nil => simp [D.beqs]
    | cons b t =>
      simp only [D.beqs, Bool.and_eq_true, List.cons.injEq]
      rw [D.beq_iff a b, D.beqs_iff r t]
end
instance : DecidableEq D := fun x y => decidable_of_iff _ (D.beq_iff x y)

abbrev Key := Sum Int Str
/-- what stands in the heap: a list, a list that is only read, a dict by ints and texts, a dict by tuples of these, an instance (its class, its fields by number) -/
inductive O where
  | lst (xs : List D) | frz (xs : List D) | dK (kvs : List (Key × D)) | dT (kvs : List (List Key × D)) | ins (C : Nat) (fs : List (Nat × D))
  deriving Inhabited, DecidableEq

inductive Oc (α : Type) where
  | ok (a : α) | exc (c : Nat)
abbrev Hh := List O
abbrev M (α : Type) := Hh → Option (Oc α × Hh)
def ret {α : Type} (a : α) : M α := fun G => some (.ok a, G)
def fail {α : Type} : M α := fun _ => none
def bnd {α β : Type} (m : M α) (k : α → M β) : M β := fun G => match m G with
  | some (.ok a, G') => k a G'
  | some (.exc c, G') => some (.exc c, G')
  | none => none
/-- what holds behind a run; E: of an exception -/
def run {α : Type} (m : M α) (G : Hh) (Q : α → Hh → Prop) (E : Nat → Hh → Prop) : Prop := match m G with
  | some (.ok a, G') => Q a G'
  | some (.exc c, G') => E c G'
  | none => False
theorem run_bnd {α β : Type} {m : M α} {k : α → M β} {G : Hh} {Q : β → Hh → Prop} {E : Nat → Hh → Prop} (h : run (bnd m k) G Q E) : run m G (fun a G1 => run (k a) G1 Q E) E := by
  unfold run bnd at *
  cases e : m G with
  | none => rw [e] at h; exact h
  | some p =>
    obtain ⟨o, G1⟩ := p
    rw [e] at h
    cases o with
    | ok a => exact h
    | exc c => exact h
theorem run_ret {α : Type} {a : α} {G : Hh} {Q : α → Hh → Prop} {E : Nat → Hh → Prop} (h : run (ret a) G Q E) : Q a G := h
theorem run_mono {α : Type} {m : M α} {G : Hh} {Q Q' : α → Hh → Prop} {E E' : Nat → Hh → Prop} (h : run m G Q E) (hq : ∀ a G', Q a G' → Q' a G') (he : ∀ c G', E c G' → E' c G') : run m G Q' E' := by
  unfold run at *
  cases e : m G with
  | none => rw [e] at h; exact h
  | some p =>
    obtain ⟨o, G1⟩ := p
    rw [e] at h
    cases o with
    | ok a => exact hq _ _ h
    | exc c => exact he _ _ h
@[simp] theorem bnd_ret {α β : Type} (a : α) (k : α → M β) : bnd (ret a) k = k a := rfl
theorem bnd_ok {α β : Type} {m : M α} {k : α → M β} {G G' : Hh} {a : α} (h : m G = some (.ok a, G')) : bnd m k G = k a G' := by unfold bnd; rw [h]
theorem bnd_exc {α β : Type} {m : M α} {k : α → M β} {G G' : Hh} {c : Nat} (h : m G = some (.exc c, G')) : bnd m k G = some (.exc c, G') := by unfold bnd; rw [h]
theorem bnd_assoc {α β γ : Type} (m : M α) (k : α → M β) (l : β → M γ) : bnd (bnd m k) l = bnd m fun a => bnd (k a) l := by
  funext G
  unfold bnd
  cases m G with
  | none => rfl
  | some p =>
    obtain ⟨o, G1⟩ := p
    cases o <;> rfl

abbrev St := List (Option D)
abbrev E3 := St → M D
abbrev T3 := St → M Bool
abbrev A3 := St → M (List D)
inductive Fl where
  | next | brk | cont | ret (d : D)
abbrev S3 := St → M (Fl × St)

/-! expressions -/
def eVar (i : Nat) : E3 := fun σ => match σ[i]? with
  | some (some d) => ret d
  | _ => fail
def eC (d : D) : E3 := fun _ => ret d
def eOp (f : D → D → M D) (a b : E3) : E3 := fun σ => bnd (a σ) fun x => bnd (b σ) fun y => f x y
def eUn (f : D → M D) (a : E3) : E3 := fun σ => bnd (a σ) f
def aNil : A3 := fun _ => ret []
def aCons (e : E3) (r : A3) : A3 := fun σ => bnd (e σ) fun x => bnd (r σ) fun xs => ret (x :: xs)
def sizeL : Nat := 16777216
def new (o : O) : M D := fun G => some (.ok (.ref G.length), G ++ [o])
def eTup (a : A3) : E3 := fun σ => bnd (a σ) fun xs => if xs.length ≤ sizeL then ret (.tup xs) else fail
def eLst (a : A3) : E3 := fun σ => bnd (a σ) fun xs => if xs.length ≤ sizeL then new (.lst xs) else fail
/-- a call of a def, of a builtin -/
def eCall (f : List D → M D) (a : A3) : E3 := fun σ => bnd (a σ) f
def eIf (t : T3) (a b : E3) : E3 := fun σ => bnd (t σ) fun c => if c then a σ else b σ

/-! tests -/
def truth (d : D) : M Bool := fun G => match d with
  | .non => some (.ok false, G)
  | .bl b => some (.ok b, G)
  | .int i => some (.ok (i != 0), G)
  | .str x => if x.length ≤ sizeL then some (.ok (x.length != 0), G) else none
  | .tup xs => some (.ok (!xs.isEmpty), G)
  | .ref n => match G[n]? with
    | some (.lst xs) => some (.ok (!xs.isEmpty), G)
    | some (.frz xs) => some (.ok (!xs.isEmpty), G)
    | some (.dK kvs) => some (.ok (!kvs.isEmpty), G)
    | _ => none
def tOf (e : E3) : T3 := fun σ => bnd (e σ) truth
/-- a value that is a bool, as a test -/
def asB (d : D) : M Bool := match d with
  | .bl b => ret b
  | _ => fail
def tB (e : E3) : T3 := fun σ => bnd (e σ) asB
def tAnd (t u : T3) : T3 := fun σ => bnd (t σ) fun c => if c then u σ else ret false
def tOr (t u : T3) : T3 := fun σ => bnd (t σ) fun c => if c then ret true else u σ
def tNot (t : T3) : T3 := fun σ => bnd (t σ) fun c => ret (!c)
/-- and, or, not of bools as values -/
def eAnd (a b : E3) : E3 := fun σ => bnd (a σ) fun x => bnd (asB x) fun c => if c then b σ else ret (.bl false)
def eOr (a b : E3) : E3 := fun σ => bnd (a σ) fun x => bnd (asB x) fun c => if c then ret (.bl true) else b σ
def eNot (a : E3) : E3 := fun σ => bnd (a σ) fun x => bnd (asB x) fun c => ret (.bl (!c))

/-! operations on values -/
def small (i : Int) : Bool := decide (-(2 ^ 64) < i ∧ i < 2 ^ 64)
def oAdd (x y : D) : M D := match x, y with
  | .int i, .int j => ret (.int (i + j))
  | .str a, .str b => if a.length + b.length ≤ sizeL then ret (.str (a ++ b)) else fail
  | .tup a, .tup b => if a ≠ [] ∧ a.length + b.length ≤ sizeL then ret (.tup (a ++ b)) else fail
  | .ref i, .ref j => fun G => match G[i]?, G[j]? with
    | some (.lst a), some (.lst b) => if a.length + b.length ≤ sizeL then new (.lst (a ++ b)) G else none
    | _, _ => none
  | _, _ => fail
def oSub (x y : D) : M D := match x, y with
  | .int i, .int j => ret (.int (i - j))
  | _, _ => fail
def oMul (x y : D) : M D := match x, y with
  | .int i, .int j => if small i || small j then ret (.int (i * j)) else fail
  | .str a, .int k => if 0 ≤ k ∧ k ≤ 1000 ∧ a.length ≤ 1000 then ret (.str (Txt.mul a k)) else fail
  | _, _ => fail
def oMod (x y : D) : M D := match x, y with
  | .int i, .int j => if 0 < j then ret (.int (i % j)) else fail
  | _, _ => fail
def oDiv (x y : D) : M D := match x, y with
  | .int i, .int j => if 0 < j ∧ j < 1073741824 then ret (.int (i / j)) else fail
  | _, _ => fail
def oNeg (x : D) : M D := match x with
  | .int i => ret (.int (-i))
  | _ => fail
/-- tuples of ints: the lesser -/
def ltIs : List Int → List Int → Bool
  | [], [] => false
  | [], _ :: _ => true
  | _ :: _, [] => false
  | a :: r, b :: t => if a = b then ltIs r t else decide (a < b)
def intsOf : List D → Option (List Int)
  | [] => some []
  | .int i :: r => (intsOf r).map (i :: ·)
  | _ :: _ => none
def oLt (x y : D) : M D := match x, y with
  | .int i, .int j => ret (.bl (decide (i < j)))
  | .tup a, .tup b => match intsOf a, intsOf b with
    | some m, some n => ret (.bl (ltIs m n))
    | _, _ => fail
  | _, _ => fail
def oGt (x y : D) : M D := match x, y with
  | .int i, .int j => ret (.bl (decide (j < i)))
  | .tup a, .tup b => match intsOf a, intsOf b with
    | some m, some n => ret (.bl (ltIs n m))
    | _, _ => fail
  | _, _ => fail
def oLe (x y : D) : M D := match x, y with
  | .int i, .int j => ret (.bl (decide (i ≤ j)))
  | _, _ => fail
def oGe (x y : D) : M D := match x, y with
  | .int i, .int j => ret (.bl (decide (j ≤ i)))
  | _, _ => fail
/-- == at a depth of k: item by item, as far as both go -/
def eqZ (f : D → D → Option Bool) : List D → List D → Option Bool
  | a :: r, b :: t => match f a b, eqZ f r t with
    | some p, some q => some (p && q)
    | _, _ => none
  | _, _ => some true
def listOf (G : Hh) (n : Nat) : Option (List D) := match G[n]? with
  | some (.lst xs) => some xs
  | some (.frz xs) => some xs
  | _ => none
def eqG (G : Hh) : Nat → D → D → Option Bool
  | 0, _, _ => none
  | k + 1, x, y => match x, y with
    | .non, .non => some true
    | .bl a, .bl b => some (a == b)
    | .int a, .int b => some (decide (a = b))
    | .str a, .str b => some (decide (a = b))
    | .tup a, .tup b => (eqZ (eqG G k) a b).map (· && decide (a.length = b.length))
    | .ref i, .ref j => match listOf G i, listOf G j with
      | some a, some b => if a.length = b.length then eqZ (eqG G k) a b else some false
      | _, _ => none
    | .non, .int _ => some false
    | .int _, .non => some false
    | .non, .str _ => some false
    | .str _, .non => some false
    | .non, .tup _ => some false
    | .tup _, .non => some false
    | .int _, .str _ => some false
    | .str _, .int _ => some false
    | .int _, .tup _ => some false
    | .tup _, .int _ => some false
    | _, _ => none
def oEq (x y : D) : M D := fun G => match eqG G 8 x y with
  | some b => some (.ok (.bl b), G)
  | none => none
def oNe (x y : D) : M D := fun G => match eqG G 8 x y with
  | some b => some (.ok (.bl (!b)), G)
  | none => none
def oIsN (x : D) : M D := ret (.bl (decide (x = .non)))
def oNotN (x : D) : M D := ret (.bl (!decide (x = .non)))
/-- x in a list: by == from the left -/
def memG (G : Hh) (x : D) : List D → Option Bool
  | [] => some false
  | y :: r => match eqG G 8 y x, memG G x r with
    | some p, some q => some (p || q)
    | _, _ => none
def keyK (d : D) : Option Key := match d with
  | .int i => some (.inl i)
  | .str x => some (.inr x)
  | _ => none
def keysK : List D → Option (List Key)
  | [] => some []
  | d :: r => match keyK d, keysK r with
    | some k, some ks => some (k :: ks)
    | _, _ => none
def keyT (d : D) : Option (List Key) := match d with
  | .tup xs => keysK xs
  | _ => none
def look {κ : Type} [DecidableEq κ] (kvs : List (κ × D)) (k : κ) : Option D := (kvs.find? fun kv => decide (kv.1 = k)).map (·.2)
def put {κ : Type} [DecidableEq κ] (kvs : List (κ × D)) (k : κ) (v : D) : List (κ × D) :=
  if (kvs.any fun kv => decide (kv.1 = k)) then kvs.map fun kv => if kv.1 = k then (kv.1, v) else kv else kvs ++ [(k, v)]
def inG (G : Hh) (x y : D) : Option Bool := match y with
  | .tup ys => memG G x ys
  | .ref n => match G[n]? with
    | some (.lst ys) => memG G x ys
    | some (.frz ys) => memG G x ys
    | some (.dK kvs) => match keyK x with
      | some k => some (look kvs k).isSome
      | none => none
    | _ => none
  | _ => none
def oIn (x y : D) : M D := fun G => match inG G x y with
  | some b => some (.ok (.bl b), G)
  | none => none
def oNotIn (x y : D) : M D := fun G => match inG G x y with
  | some b => some (.ok (.bl (!b)), G)
  | none => none
/-- an item by its place -/
def ixN (n : Nat) (i : Int) : Option Nat := if 0 ≤ i then (if i < n then some i.toNat else none) else if -(n : Int) ≤ i then some (i + n).toNat else none
def atI (xs : List D) (i : Int) : Option D := (ixN xs.length i).bind fun j => xs[j]?
def giveO (o : Option D) : M D := match o with
  | some d => ret d
  | none => fail
def oIx (x y : D) : M D := match x, y with
  | .tup xs, .int i => giveO (atI xs i)
  | .ref n, y => fun G => match G[n]?, y with
    | some (.lst xs), .int i => giveO (atI xs i) G
    | some (.frz xs), .int i => giveO (atI xs i) G
    | some (.dK kvs), y => match keyK y with
      | some k => giveO (look kvs k) G
      | none => none
    | _, _ => none
  | _, _ => fail

/-! builtins -/
/-- the kind of a value -/
inductive Kd where
  | non | bl | int | str | tup | lst | dic
def kdOf (G : Hh) (d : D) : Option Kd := match d with
  | .non => some .non
  | .bl _ => some .bl
  | .int _ => some .int
  | .str _ => some .str
  | .tup _ => some .tup
  | .ref n => match G[n]? with
    | some (.lst _) => some .lst
    | some (.frz _) => some .lst
    | some (.dK _) => some .dic
    | some (.dT _) => some .dic
    | _ => none
def subK : Kd → Kd → Bool
  | .non, .non => true | .bl, .bl => true | .bl, .int => true | .int, .int => true | .str, .str => true | .tup, .tup => true | .lst, .lst => true | .dic, .dic => true
  | _, _ => false
def bIs (c : Kd) (ds : List D) : M D := fun G => match ds with
  | [d] => match kdOf G d with
    | some k => some (.ok (.bl (subK k c)), G)
    | none => none
  | _ => none
def bLen (ds : List D) : M D := fun G => match ds with
  | [.tup xs] => if xs.length ≤ sizeL then some (.ok (.int xs.length), G) else none
  | [.str x] => if x.length ≤ sizeL then some (.ok (.int x.length), G) else none
  | [.ref n] => match G[n]? with
    | some (.lst xs) => some (.ok (.int xs.length), G)
    | some (.frz xs) => some (.ok (.int xs.length), G)
    | some (.dK kvs) => some (.ok (.int kvs.length), G)
    | _ => none
  | _ => none
def maxI : Int → List Int → Int
  | m, [] => m
  | m, x :: r => maxI (if x > m then x else m) r
def bMax (ds : List D) : M D := fun G => match ds with
  | [.int i, .int j] => some (.ok (.int (if j > i then j else i)), G)
  | [.ref n] => match G[n]? with
    | some (.lst xs) => match intsOf xs with
      | some (m :: r) => some (.ok (.int (maxI m r)), G)
      | _ => none
    | _ => none
  | _ => none
def bMin (ds : List D) : M D := fun G => match ds with
  | [.int i, .int j] => some (.ok (.int (if j < i then j else i)), G)
  | _ => none
def bList (ds : List D) : M D := fun G => match ds with
  | [.ref n] => match G[n]? with
    | some (.lst xs) => new (.lst xs) G
    | some (.frz xs) => new (.lst xs) G
    | _ => none
  | [.tup xs] => if xs.length ≤ sizeL then new (.lst xs) G else none
  | _ => none
def bInt (ds : List D) : M D := fun G => match ds with
  | [.int i] => some (.ok (.int i), G)
  | [.bl b] => some (.ok (.int (if b then 1 else 0)), G)
  | [.str x] => match PySem.intText? x with
    | some n => if x.length ≤ 640 then some (.ok (.int n), G) else none
    | none => none
  | _ => none
/-- xs.append(y) -/
def mAppend (x y : D) : M D := fun G => match x with
  | .ref n => match G[n]? with
    | some (.lst xs) => if xs.length < sizeL then some (.ok .non, G.set n (.lst (xs ++ [y]))) else none
    | _ => none
  | _ => none

/-- a list's method: the receiver is looked at ahead of the arguments -/
def isL (x : D) : M Unit := fun G => match x with
  | .ref n => match G[n]? with
    | some (.lst _) => some (.ok (), G)
    | _ => none
  | _ => none
def eApp (o a : E3) : E3 := fun σ => bnd (o σ) fun x => bnd (isL x) fun _ => bnd (a σ) fun y => mAppend x y

/-! instances -/
def putN (f : Nat) (v : D) : List (Nat × D) → List (Nat × D)
  | [] => [(f, v)]
  | (g, x) :: r => if g = f then (g, v) :: r else (g, x) :: putN f v r
def getF (x : D) (f : Nat) : M D := fun G => match x with
  | .ref n => match G[n]? with
    | some (.ins _ fs) => match fs.lookup f with
      | some d => some (.ok d, G)
      | none => none
    | _ => none
  | _ => none
def setF (x : D) (f : Nat) (y : D) : M Unit := fun G => match x with
  | .ref n => match G[n]? with
    | some (.ins C fs) => if fs.length < 1000 then some (.ok (), G.set n (.ins C (putN f y fs))) else none
    | _ => none
  | _ => none
/-- it is of the class -/
def isC (C : Nat) (x : D) : M Unit := fun G => match x with
  | .ref n => match G[n]? with
    | some (.ins C' _) => if C' = C then some (.ok (), G) else none
    | _ => none
  | _ => none
def eFld (o : E3) (f : Nat) : E3 := fun σ => bnd (o σ) fun x => getF x f
def sFldS (o : E3) (f : Nat) (e : E3) : S3 := fun σ => bnd (e σ) fun y => bnd (o σ) fun x => bnd (setF x f y) fun _ => ret (.next, σ)
def eMeth (C : Nat) (g : List D → M D) (o : E3) (a : A3) : E3 := fun σ => bnd (o σ) fun x => bnd (isC C x) fun _ => bnd (a σ) fun ds => g (x :: ds)
def isNon (d : D) : M Unit := match d with
  | .non => ret ()
  | _ => fail
def eMake (C : Nat) (g : List D → M D) (a : A3) : E3 := fun σ => bnd (a σ) fun ds => bnd (new (.ins C [])) fun x => bnd (g (x :: ds)) fun r => bnd (isNon r) fun _ => ret x

/-! places are written; parts are cut -/
def setI (x i v : D) : M Unit := fun G => match x with
  | .ref n => match G[n]? with
    | some (.lst xs) => match i with
      | .int k => match ixN xs.length k with
        | some j => some (.ok (), G.set n (.lst (xs.set j v)))
        | none => none
      | _ => none
    | some (.dK kvs) => match keyK i with
      | some k => if kvs.length < sizeL then some (.ok (), G.set n (.dK (put kvs k v))) else none
      | none => none
    | _ => none
  | _ => none
def sSubS (o i e : E3) : S3 := fun σ => bnd (e σ) fun v => bnd (o σ) fun x => bnd (i σ) fun y => bnd (setI x y v) fun _ => ret (.next, σ)
def eDict0 : E3 := fun _ => new (.dK [])
def sIx (n d : Nat) : Option Int → Nat
  | none => d
  | some v => if v < 0 then (v + (n : Int)).toNat else min v.toNat n
def cutD (xs : List D) (lo hi : Option Int) : List D := (xs.drop (sIx xs.length 0 lo)).take (sIx xs.length xs.length hi - sIx xs.length 0 lo)
abbrev P3 := St → M (Option Int)
def pNone : P3 := fun _ => ret none
def asI (d : D) : M (Option Int) := match d with
  | .int i => ret (some i)
  | _ => fail
def pSome (e : E3) : P3 := fun σ => bnd (e σ) asI
def oSl (x : D) (lo hi : Option Int) : M D := fun G => match x with
  | .tup xs => if sIx xs.length 0 lo = 0 ∧ sIx xs.length xs.length hi = xs.length then none else some (.ok (.tup (cutD xs lo hi)), G)
  | .ref n => match G[n]? with
    | some (.lst xs) => new (.lst (cutD xs lo hi)) G
    | some (.frz xs) => new (.lst (cutD xs lo hi)) G
    | _ => none
  | _ => none
def eSl (e : E3) (lo hi : P3) : E3 := fun σ => bnd (e σ) fun x => bnd (lo σ) fun l => bnd (hi σ) fun h => oSl x l h
/-- xs.extend(ys), xs.pop(), xs.pop(i) -/
def mExtend (x y : D) : M D := fun G => match x, y with
  | .ref n, .ref m => match G[n]?, G[m]? with
    | some (.lst xs), some (.lst ys) => if xs.length + ys.length ≤ sizeL then some (.ok .non, G.set n (.lst (xs ++ ys))) else none
    | _, _ => none
  | _, _ => none
def mPopAt (x i : D) : M D := fun G => match x, i with
  | .ref n, .int i => match G[n]? with
    | some (.lst xs) => match ixN xs.length i with
      | some k => match xs[k]? with
        | some y => if -(2 ^ 62) ≤ i ∧ i < 2 ^ 62 then some (.ok y, G.set n (.lst (xs.eraseIdx k))) else none
        | none => none
      | none => none
    | _ => none
  | _, _ => none
def eExt (o a : E3) : E3 := fun σ => bnd (o σ) fun x => bnd (isL x) fun _ => bnd (a σ) fun y => mExtend x y
def ePopAt (o a : E3) : E3 := fun σ => bnd (o σ) fun x => bnd (isL x) fun _ => bnd (a σ) fun y => mPopAt x y

/-- list(d.values()) -/
def mVals (x : D) : M D := fun G => match x with
  | .ref n => match G[n]? with
    | some (.dK kvs) => new (.lst (kvs.map (·.2))) G
    | _ => none
  | _ => none
def eVals (o : E3) : E3 := fun σ => bnd (o σ) mVals

/-! what is walked -/
structure Src where
  xs : List D
  ck : Hh → Bool
abbrev I3 := St → M Src
def srcOf (d : D) : M Src := match d with
  | .tup xs => ret ⟨xs, fun _ => true⟩
  | .ref n => fun G => match G[n]? with
    | some (.lst xs) => some (.ok ⟨xs, fun G' => decide (G'[n]? = some (.lst xs))⟩, G)
    | some (.frz xs) => some (.ok ⟨xs, fun G' => decide (G'[n]? = some (.frz xs))⟩, G)
    | _ => none
  | _ => fail
def iOf (e : E3) : I3 := fun σ => bnd (e σ) srcOf
def inRng (i : Int) : Bool := decide (-(2 ^ 62) ≤ i ∧ i < 2 ^ 62)
def rng (i : Int) (n : Nat) : List D := (List.range n).map fun (k : Nat) => .int (i + (k : Int))
def rng1 (x : D) : M Src := match x with
  | .int j => if inRng j then ret ⟨rng 0 j.toNat, fun _ => true⟩ else fail
  | _ => fail
def rng2 (x y : D) : M Src := match x, y with
  | .int i, .int j => if inRng i && inRng j then ret ⟨rng i (j - i).toNat, fun _ => true⟩ else fail
  | _, _ => fail
def iRng1 (a : E3) : I3 := fun σ => bnd (a σ) rng1
def iRng2 (a b : E3) : I3 := fun σ => bnd (a σ) fun x => bnd (b σ) fun y => rng2 x y
/-- a comprehension: its own name ahead, then the names that it takes from around -/
def capt (σ : St) (cap : List Nat) : St := cap.map fun i => (σ[i]?).join
def compL (ck : Hh → Bool) (cond : D → M Bool) (elt : D → M D) : List D → List D → M (List D)
  | [], acc => fun G => if ck G then some (.ok acc, G) else none
  | x :: r, acc => fun G => if ck G then bnd (cond x) (fun c => if c then bnd (elt x) (fun y => if acc.length < sizeL then compL ck cond elt r (acc ++ [y]) else fail) else compL ck cond elt r acc) G else none
def eComp (it : I3) (cap : List Nat) (cond : T3) (elt : E3) : E3 := fun σ => bnd (it σ) fun s =>
  bnd (compL s.ck (fun x => cond (some x :: capt σ cap)) (fun x => elt (some x :: capt σ cap)) s.xs []) fun ys => new (.lst ys)
def tTrue : T3 := fun _ => ret true

/-! statements -/
def sNil : S3 := fun σ => ret (.next, σ)
def sSeq (a b : S3) : S3 := fun σ => bnd (a σ) fun r => match r.1 with
  | .next => b r.2
  | f => ret (f, r.2)
def sSet (i : Nat) (e : E3) : S3 := fun σ => bnd (e σ) fun d => ret (.next, σ.set i (some d))
/-- (a, b, ..) = e, all of them names -/
def setAll : List Nat → List D → St → Option St
  | [], [], σ => some σ
  | i :: r, d :: t, σ => setAll r t (σ.set i (some d))
  | _, _, _ => none
def gUn (is : List Nat) (d : D) (σ : St) : M St := match d with
  | .tup ds => match setAll is ds σ with
    | some σ' => ret σ'
    | none => fail
  | _ => fail
def gNm (i : Nat) (d : D) (σ : St) : M St := ret (σ.set i (some d))
def sUn (is : List Nat) (e : E3) : S3 := fun σ => bnd (e σ) fun d => bnd (gUn is d σ) fun σ' => ret (.next, σ')
def sExpr (e : E3) : S3 := fun σ => bnd (e σ) fun _ => ret (.next, σ)
def sRet (e : E3) : S3 := fun σ => bnd (e σ) fun d => ret (.ret d, σ)
def sIf (t : T3) (a b : S3) : S3 := fun σ => bnd (t σ) fun c => if c then a σ else b σ
def forL (ck : Hh → Bool) (body : D → St → M (Fl × St)) : List D → St → M (Fl × St)
  | [], σ => fun G => if ck G then some (.ok (.next, σ), G) else none
  | x :: r, σ => fun G => if ck G then bnd (body x σ) (fun p => match p.1 with
      | .next => forL ck body r p.2
      | .cont => forL ck body r p.2
      | .brk => ret (.next, p.2)
      | .ret d => ret (.ret d, p.2)) G else none
/-- while, at most k turns -/
def whileL (t : T3) (body : S3) : Nat → St → M (Fl × St)
  | 0, _ => fail
  | k + 1, σ => bnd (t σ) fun c => if c then bnd (body σ) (fun p => match p.1 with
      | .next => whileL t body k p.2
      | .cont => whileL t body k p.2
      | .brk => ret (.next, p.2)
      | .ret d => ret (.ret d, p.2)) else ret (.next, σ)
def turns0 : Nat := 1000000000
def sWhile (t : T3) (body : S3) : S3 := fun σ => whileL t body turns0 σ
def sBrk : S3 := fun σ => ret (.brk, σ)
def sCont : S3 := fun σ => ret (.cont, σ)
def sFor (it : I3) (g : D → St → M St) (body : S3) : S3 := fun σ => bnd (it σ) fun s => forL s.ck (fun x σ => bnd (g x σ) body) s.xs σ

/-! enumerate, list(reversed(x)), targets that are places -/
def enumD (xs : List D) : List D := xs.mapIdx fun i x => .tup [.int (i : Int), x]
def enumOf (d : D) : M Src := fun G => match d with
  | .ref n => match G[n]? with
    | some (.lst xs) => some (.ok ⟨enumD xs, fun G' => decide (G'[n]? = some (.lst xs))⟩, G)
    | some (.frz xs) => some (.ok ⟨enumD xs, fun G' => decide (G'[n]? = some (.frz xs))⟩, G)
    | _ => none
  | _ => none
def iEnum (e : E3) : I3 := fun σ => bnd (e σ) enumOf
def mRev (x : D) : M D := fun G => match x with
  | .ref n => match G[n]? with
    | some (.lst xs) => if xs.length ≤ sizeL then new (.lst xs.reverse) G else none
    | _ => none
  | _ => none
def eRevL (o : E3) : E3 := fun σ => bnd (o σ) mRev
def gSub (o i : E3) (d : D) (σ : St) : M St := bnd (o σ) fun x => bnd (i σ) fun y => bnd (setI x y d) fun _ => ret σ
def gAll : List (D → St → M St) → List D → St → M St
  | [], [], σ => ret σ
  | g :: r, d :: t, σ => bnd (g d σ) fun σ' => gAll r t σ'
  | _, _, _ => fail
def gTup (gs : List (D → St → M St)) (d : D) (σ : St) : M St := match d with
  | .tup ds => if ds.length = gs.length then gAll gs ds σ else fail
  | _ => fail
def sAsg (g : D → St → M St) (e : E3) : S3 := fun σ => bnd (e σ) fun d => bnd (g d σ) fun σ' => ret (.next, σ')

def throw {α : Type} (c : Nat) : M α := fun G => some (.exc c, G)
def sRaise (c : Nat) (a : A3) : S3 := fun σ => bnd (a σ) fun xs => if xs.length ≤ sizeL then throw c else fail
def pick (c : Nat) : List ((Nat → Bool) × S3) → Option S3
  | [] => none
  | (m, f) :: r => if m c then some f else pick c r
/-- try, over one expression: k goes on with its value -/
def sTry (e : E3) (k : D → St → Fl × St) (ms : List ((Nat → Bool) × S3)) : S3 := fun σ G => match e σ G with
  | some (.ok d, G') => some (.ok (k d σ), G')
  | some (.exc c, G') => match pick c ms with
    | some f => f σ G'
    | none => none
  | none => none
theorem run_try {e : E3} {k : D → St → Fl × St} {ms : List ((Nat → Bool) × S3)} {σ : St} {G : Hh} {Q : Fl × St → Hh → Prop} {Z : Nat → Hh → Prop} (h : run (sTry e k ms σ) G Q Z) :
    run (e σ) G (fun d G' => Q (k d σ) G') fun c G' => ∃ f, pick c ms = some f ∧ run (f σ) G' Q Z := by
  unfold run sTry at *
  cases q : e σ G with
  | none => rw [q] at h; exact h
  | some p =>
    obtain ⟨o, G1⟩ := p
    rw [q] at h
    cases o with
    | ok d => exact h
    | exc c =>
      dsimp only at h ⊢
      cases z : pick c ms with
      | none => rw [z] at h; exact False.elim h
      | some f => rw [z] at h; exact ⟨f, rfl, h⟩
/-- a def: n parameters, and room for its other names -/
def fnM (n : Nat) (pad : St) (body : S3) : List D → M D := fun ds => if ds.length = n then bnd (body (ds.map some ++ pad)) (fun p => match p.1 with
  | .ret d => ret d
  | .next => ret .non
  | _ => fail) else fail
end M3

/-! W3: how the machine is walked: rules backward over run -/
namespace M3
open PySem
section
variable {α β : Type} {G G' : Hh} {E : Nat → Hh → Prop} {σ : St}
theorem w_bnd {m : M α} {k : α → M β} {Q : β → Hh → Prop} (h : run m G (fun a G1 => run (k a) G1 Q E) E) : run (bnd m k) G Q E := by
  unfold run bnd at *
  cases e : m G with
  | none => rw [e] at h; exact h
  | some p =>
    obtain ⟨o, G1⟩ := p
    rw [e] at h
    cases o with
    | ok a => exact h
    | exc c => exact h
theorem w_ret {a : α} {Q : α → Hh → Prop} (h : Q a G) : run (ret a) G Q E := h
theorem w_ite {c : Bool} {m m' : M α} {Q : α → Hh → Prop} (h1 : c = true → run m G Q E) (h2 : c = false → run m' G Q E) : run (if c = true then m else m') G Q E := by
  cases c with
  | true => exact h1 rfl
  | false => exact h2 rfl
theorem w_iteT {m m' : M α} {Q : α → Hh → Prop} (h1 : run m G Q E) : run (if true = true then m else m') G Q E := h1
theorem w_iteF {m m' : M α} {Q : α → Hh → Prop} (h1 : run m' G Q E) : run (if false = true then m else m') G Q E := h1
theorem w_iteNT {m m' : M α} {Q : α → Hh → Prop} (h1 : run m' G Q E) : run (if (!true) = true then m else m') G Q E := h1
theorem w_iteNF {m m' : M α} {Q : α → Hh → Prop} (h1 : run m G Q E) : run (if (!false) = true then m else m') G Q E := h1
/-- out of a run: its value -/
theorem run_some {m : M α} {Q : α → Hh → Prop} {a : α} (h : m G = some (.ok a, G')) (q : Q a G') : run m G Q E := by
  unfold run; rw [h]; exact q
theorem some_of_run {m : M α} {Q : α → Hh → Prop} (h : run m G Q (fun _ _ => False)) : ∃ a G', m G = some (.ok a, G') ∧ Q a G' := by
  unfold run at h
  cases e : m G with
  | none => rw [e] at h; exact h.elim
  | some p =>
    obtain ⟨o, G1⟩ := p
    rw [e] at h
    cases o with
    | ok a => exact ⟨a, G1, rfl, h⟩
    | exc c => exact h.elim

variable {Q : D → Hh → Prop} {QB : Bool → Hh → Prop} {QA : List D → Hh → Prop} {QS : Fl × St → Hh → Prop}
theorem w_var {i : Nat} {d : D} (e : σ[i]? = some (some d)) (h : Q d G) : run (eVar i σ) G Q E := by
  unfold eVar; rw [e]; exact h
theorem w_c {d : D} (h : Q d G) : run (eC d σ) G Q E := h
theorem w_op {f : D → D → M D} {a b : E3} (h : run (a σ) G (fun x G1 => run (b σ) G1 (fun y G2 => run (f x y) G2 Q E) E) E) : run (eOp f a b σ) G Q E :=
  w_bnd (run_mono h (fun _ _ q => w_bnd q) fun _ _ q => q)
theorem w_un {f : D → M D} {a : E3} (h : run (a σ) G (fun x G1 => run (f x) G1 Q E) E) : run (eUn f a σ) G Q E := w_bnd h
theorem w_aNil (h : QA [] G) : run (aNil σ) G QA E := h
theorem w_aCons {e : E3} {r : A3} (h : run (e σ) G (fun x G1 => run (r σ) G1 (fun xs G2 => QA (x :: xs) G2) E) E) : run (aCons e r σ) G QA E :=
  w_bnd (run_mono h (fun _ _ q => w_bnd q) fun _ _ q => q)
theorem w_tup {a : A3} (h : run (a σ) G (fun xs G1 => xs.length ≤ sizeL ∧ Q (.tup xs) G1) E) : run (eTup a σ) G Q E :=
  w_bnd (run_mono h (fun _ _ q => by rw [if_pos q.1]; exact q.2) fun _ _ q => q)
theorem w_lst {a : A3} (h : run (a σ) G (fun xs G1 => xs.length ≤ sizeL ∧ Q (.ref G1.length) (G1 ++ [.lst xs])) E) : run (eLst a σ) G Q E :=
  w_bnd (run_mono h (fun _ _ q => by rw [if_pos q.1]; exact q.2) fun _ _ q => q)
theorem w_call {f : List D → M D} {a : A3} (h : run (a σ) G (fun ds G1 => run (f ds) G1 Q E) E) : run (eCall f a σ) G Q E := w_bnd h
theorem w_tOf {e : E3} (h : run (e σ) G (fun x G1 => run (truth x) G1 QB E) E) : run (tOf e σ) G QB E := w_bnd h
theorem w_tB {e : E3} (h : run (e σ) G (fun x G1 => run (asB x) G1 QB E) E) : run (tB e σ) G QB E := w_bnd h
theorem w_asB {b : Bool} (h : QB b G) : run (asB (.bl b)) G QB E := h
theorem w_truB {b : Bool} (h : QB b G) : run (truth (.bl b)) G QB E := h
theorem w_tNot {t : T3} (h : run (t σ) G (fun c G1 => QB (!c) G1) E) : run (tNot t σ) G QB E := w_bnd h
theorem w_tAnd {t u : T3} (h : run (t σ) G (fun c G1 => run (if c = true then u σ else ret false) G1 QB E) E) : run (tAnd t u σ) G QB E := w_bnd h
theorem w_tOr {t u : T3} (h : run (t σ) G (fun c G1 => run (if c = true then ret true else u σ) G1 QB E) E) : run (tOr t u σ) G QB E := w_bnd h
theorem w_eAnd {a b : E3} (h : run (a σ) G (fun x G1 => run (asB x) G1 (fun c G2 => run (if c = true then b σ else ret (.bl false)) G2 Q E) E) E) : run (eAnd a b σ) G Q E :=
  w_bnd (run_mono h (fun _ _ q => w_bnd q) fun _ _ q => q)
theorem w_eOr {a b : E3} (h : run (a σ) G (fun x G1 => run (asB x) G1 (fun c G2 => run (if c = true then ret (.bl true) else b σ) G2 Q E) E) E) : run (eOr a b σ) G Q E :=
  w_bnd (run_mono h (fun _ _ q => w_bnd q) fun _ _ q => q)
theorem w_eNot {a : E3} (h : run (a σ) G (fun x G1 => run (asB x) G1 (fun c G2 => Q (.bl (!c)) G2) E) E) : run (eNot a σ) G Q E :=
  w_bnd (run_mono h (fun _ _ q => w_bnd q) fun _ _ q => q)
theorem w_eIf {t : T3} {a b : E3} (h : run (t σ) G (fun c G1 => run (if c = true then a σ else b σ) G1 Q E) E) : run (eIf t a b σ) G Q E := w_bnd h

/-! values -/
theorem w_addI {i j : Int} (h : Q (.int (i + j)) G) : run (oAdd (.int i) (.int j)) G Q E := h
theorem w_addS {a b : Str} (hl : a.length + b.length ≤ sizeL) (h : Q (.str (a ++ b)) G) : run (oAdd (.str a) (.str b)) G Q E := by
  show run (if a.length + b.length ≤ sizeL then ret (D.str (a ++ b)) else fail) G Q E
  rw [if_pos hl]; exact h
theorem w_addL {i j : Nat} {a b : List D} (h1 : G[i]? = some (.lst a)) (h2 : G[j]? = some (.lst b)) (hl : a.length + b.length ≤ sizeL) (h : Q (.ref G.length) (G ++ [.lst (a ++ b)])) : run (oAdd (.ref i) (.ref j)) G Q E := by
  refine run_some (G' := G ++ [.lst (a ++ b)]) (a := .ref G.length) ?_ h
  show (match G[i]?, G[j]? with
    | some (.lst a), some (.lst b) => if a.length + b.length ≤ sizeL then new (.lst (a ++ b)) G else none
    | _, _ => none) = _
  rw [h1, h2]
  show (if a.length + b.length ≤ sizeL then new (.lst (a ++ b)) G else none) = _
  rw [if_pos hl]; rfl
theorem w_subI {i j : Int} (h : Q (.int (i - j)) G) : run (oSub (.int i) (.int j)) G Q E := h
theorem w_mulI {i j : Int} (c : (small i || small j) = true) (h : Q (.int (i * j)) G) : run (oMul (.int i) (.int j)) G Q E := by
  show run (if (small i || small j) = true then ret (D.int (i * j)) else fail) G Q E
  rw [if_pos c]; exact h
theorem w_mulL {i j : Int} (c : small i = true) (h : Q (.int (i * j)) G) : run (oMul (.int i) (.int j)) G Q E := w_mulI (by rw [c]; rfl) h
theorem w_mulR {i j : Int} (c : small j = true) (h : Q (.int (i * j)) G) : run (oMul (.int i) (.int j)) G Q E := w_mulI (by rw [c]; exact Bool.or_true _) h
theorem w_modI {i j : Int} (c : 0 < j) (h : Q (.int (i % j)) G) : run (oMod (.int i) (.int j)) G Q E := by
  show run (if 0 < j then ret (D.int (i % j)) else fail) G Q E
  rw [if_pos c]; exact h
theorem w_divI {i j : Int} (c : 0 < j ∧ j < 1073741824) (h : Q (.int (i / j)) G) : run (oDiv (.int i) (.int j)) G Q E := by
  show run (if 0 < j ∧ j < 1073741824 then ret (D.int (i / j)) else fail) G Q E
  rw [if_pos c]; exact h
theorem w_ltI {i j : Int} (h : Q (.bl (decide (i < j))) G) : run (oLt (.int i) (.int j)) G Q E := h
theorem w_gtI {i j : Int} (h : Q (.bl (decide (j < i))) G) : run (oGt (.int i) (.int j)) G Q E := h
theorem w_leI {i j : Int} (h : Q (.bl (decide (i ≤ j))) G) : run (oLe (.int i) (.int j)) G Q E := h
theorem w_geI {i j : Int} (h : Q (.bl (decide (j ≤ i))) G) : run (oGe (.int i) (.int j)) G Q E := h
theorem w_gtT {a b : List D} {m n : List Int} (e1 : intsOf a = some m) (e2 : intsOf b = some n) (h : Q (.bl (ltIs n m)) G) : run (oGt (.tup a) (.tup b)) G Q E := by
  show run (match intsOf a, intsOf b with
    | some m, some n => ret (.bl (ltIs n m))
    | _, _ => fail) G Q E
  rw [e1, e2]; exact h
theorem w_eq {x y : D} {b : Bool} (e : eqG G 8 x y = some b) (h : Q (.bl b) G) : run (oEq x y) G Q E := by
  refine run_some (a := .bl b) (G' := G) ?_ h
  unfold oEq; rw [e]
theorem w_ne {x y : D} {b : Bool} (e : eqG G 8 x y = some b) (h : Q (.bl (!b)) G) : run (oNe x y) G Q E := by
  refine run_some (a := .bl (!b)) (G' := G) ?_ h
  unfold oNe; rw [e]
theorem w_in {x y : D} {b : Bool} (e : inG G x y = some b) (h : Q (.bl b) G) : run (oIn x y) G Q E := by
  refine run_some (a := .bl b) (G' := G) ?_ h
  unfold oIn; rw [e]
theorem w_notIn {x y : D} {b : Bool} (e : inG G x y = some b) (h : Q (.bl (!b)) G) : run (oNotIn x y) G Q E := by
  refine run_some (a := .bl (!b)) (G' := G) ?_ h
  unfold oNotIn; rw [e]
theorem w_ixT {xs : List D} {i : Int} {d : D} (e : atI xs i = some d) (h : Q d G) : run (oIx (.tup xs) (.int i)) G Q E := by
  refine run_some (a := d) (G' := G) ?_ h
  show giveO (atI xs i) G = _
  rw [e]; rfl
theorem w_ixL {n : Nat} {xs : List D} {i : Int} {d : D} (hl : G[n]? = some (.lst xs)) (e : atI xs i = some d) (h : Q d G) : run (oIx (.ref n) (.int i)) G Q E := by
  refine run_some (a := d) (G' := G) ?_ h
  unfold oIx
  dsimp only
  rw [hl]
  show giveO (atI xs i) G = _
  rw [e]; rfl
theorem w_ixF {n : Nat} {xs : List D} {i : Int} {d : D} (hl : G[n]? = some (.frz xs)) (e : atI xs i = some d) (h : Q d G) : run (oIx (.ref n) (.int i)) G Q E := by
  refine run_some (a := d) (G' := G) ?_ h
  unfold oIx
  dsimp only
  rw [hl]
  show giveO (atI xs i) G = _
  rw [e]; rfl
theorem w_isN {x : D} (h : Q (.bl (decide (x = .non))) G) : run (oIsN x) G Q E := h
theorem w_notN {x : D} (h : Q (.bl (!decide (x = .non))) G) : run (oNotN x) G Q E := h
theorem w_is_int_non (h : Q (.bl false) G) : run (bIs .int [(.non)]) G Q E := h
theorem w_is_int_bl {z : Bool} (h : Q (.bl true) G) : run (bIs .int [(.bl z)]) G Q E := h
theorem w_is_int_int {z : Int} (h : Q (.bl true) G) : run (bIs .int [(.int z)]) G Q E := h
theorem w_is_int_str {z : Str} (h : Q (.bl false) G) : run (bIs .int [(.str z)]) G Q E := h
theorem w_is_int_tup {z : List D} (h : Q (.bl false) G) : run (bIs .int [(.tup z)]) G Q E := h
theorem w_is_int_lst {n : Nat} {xs : List D} (hl : G[n]? = some (.lst xs)) (h : Q (.bl false) G) : run (bIs .int [.ref n]) G Q E := by
  refine run_some (a := .bl false) (G' := G) ?_ h
  unfold bIs kdOf; dsimp only; rw [hl]; rfl
theorem w_is_bl_non (h : Q (.bl false) G) : run (bIs .bl [(.non)]) G Q E := h
theorem w_is_bl_bl {z : Bool} (h : Q (.bl true) G) : run (bIs .bl [(.bl z)]) G Q E := h
theorem w_is_bl_int {z : Int} (h : Q (.bl false) G) : run (bIs .bl [(.int z)]) G Q E := h
theorem w_is_bl_str {z : Str} (h : Q (.bl false) G) : run (bIs .bl [(.str z)]) G Q E := h
theorem w_is_bl_tup {z : List D} (h : Q (.bl false) G) : run (bIs .bl [(.tup z)]) G Q E := h
theorem w_is_bl_lst {n : Nat} {xs : List D} (hl : G[n]? = some (.lst xs)) (h : Q (.bl false) G) : run (bIs .bl [.ref n]) G Q E := by
  refine run_some (a := .bl false) (G' := G) ?_ h
  unfold bIs kdOf; dsimp only; rw [hl]; rfl
theorem w_is_str_non (h : Q (.bl false) G) : run (bIs .str [(.non)]) G Q E := h
theorem w_is_str_bl {z : Bool} (h : Q (.bl false) G) : run (bIs .str [(.bl z)]) G Q E := h
theorem w_is_str_int {z : Int} (h : Q (.bl false) G) : run (bIs .str [(.int z)]) G Q E := h
theorem w_is_str_str {z : Str} (h : Q (.bl true) G) : run (bIs .str [(.str z)]) G Q E := h
theorem w_is_str_tup {z : List D} (h : Q (.bl false) G) : run (bIs .str [(.tup z)]) G Q E := h
theorem w_is_str_lst {n : Nat} {xs : List D} (hl : G[n]? = some (.lst xs)) (h : Q (.bl false) G) : run (bIs .str [.ref n]) G Q E := by
  refine run_some (a := .bl false) (G' := G) ?_ h
  unfold bIs kdOf; dsimp only; rw [hl]; rfl
theorem w_is_tup_non (h : Q (.bl false) G) : run (bIs .tup [(.non)]) G Q E := h
theorem w_is_tup_bl {z : Bool} (h : Q (.bl false) G) : run (bIs .tup [(.bl z)]) G Q E := h
theorem w_is_tup_int {z : Int} (h : Q (.bl false) G) : run (bIs .tup [(.int z)]) G Q E := h
theorem w_is_tup_str {z : Str} (h : Q (.bl false) G) : run (bIs .tup [(.str z)]) G Q E := h
theorem w_is_tup_tup {z : List D} (h : Q (.bl true) G) : run (bIs .tup [(.tup z)]) G Q E := h
theorem w_is_tup_lst {n : Nat} {xs : List D} (hl : G[n]? = some (.lst xs)) (h : Q (.bl false) G) : run (bIs .tup [.ref n]) G Q E := by
  refine run_some (a := .bl false) (G' := G) ?_ h
  unfold bIs kdOf; dsimp only; rw [hl]; rfl
theorem w_is_lst_non (h : Q (.bl false) G) : run (bIs .lst [(.non)]) G Q E := h
theorem w_is_lst_bl {z : Bool} (h : Q (.bl false) G) : run (bIs .lst [(.bl z)]) G Q E := h
theorem w_is_lst_int {z : Int} (h : Q (.bl false) G) : run (bIs .lst [(.int z)]) G Q E := h
theorem w_is_lst_str {z : Str} (h : Q (.bl false) G) : run (bIs .lst [(.str z)]) G Q E := h
theorem w_is_lst_tup {z : List D} (h : Q (.bl false) G) : run (bIs .lst [(.tup z)]) G Q E := h
theorem w_is_lst_lst {n : Nat} {xs : List D} (hl : G[n]? = some (.lst xs)) (h : Q (.bl true) G) : run (bIs .lst [.ref n]) G Q E := by
  refine run_some (a := .bl true) (G' := G) ?_ h
  unfold bIs kdOf; dsimp only; rw [hl]; rfl
theorem w_is_dic_non (h : Q (.bl false) G) : run (bIs .dic [(.non)]) G Q E := h
theorem w_is_dic_bl {z : Bool} (h : Q (.bl false) G) : run (bIs .dic [(.bl z)]) G Q E := h
theorem w_is_dic_int {z : Int} (h : Q (.bl false) G) : run (bIs .dic [(.int z)]) G Q E := h
theorem w_is_dic_str {z : Str} (h : Q (.bl false) G) : run (bIs .dic [(.str z)]) G Q E := h
theorem w_is_dic_tup {z : List D} (h : Q (.bl false) G) : run (bIs .dic [(.tup z)]) G Q E := h
theorem w_is_dic_lst {n : Nat} {xs : List D} (hl : G[n]? = some (.lst xs)) (h : Q (.bl false) G) : run (bIs .dic [.ref n]) G Q E := by
  refine run_some (a := .bl false) (G' := G) ?_ h
  unfold bIs kdOf; dsimp only; rw [hl]; rfl
theorem w_lenT {xs : List D} (hl : xs.length ≤ sizeL) (h : Q (.int xs.length) G) : run (bLen [.tup xs]) G Q E := by
  refine run_some (a := .int xs.length) (G' := G) ?_ h
  show (if xs.length ≤ sizeL then some (Oc.ok (D.int xs.length), G) else none) = _
  rw [if_pos hl]
theorem w_lenL {n : Nat} {xs : List D} (hl : G[n]? = some (.lst xs)) (h : Q (.int xs.length) G) : run (bLen [.ref n]) G Q E := by
  refine run_some (a := .int xs.length) (G' := G) ?_ h
  unfold bLen; dsimp only; rw [hl]
theorem w_lenF {n : Nat} {xs : List D} (hl : G[n]? = some (.frz xs)) (h : Q (.int xs.length) G) : run (bLen [.ref n]) G Q E := by
  refine run_some (a := .int xs.length) (G' := G) ?_ h
  unfold bLen; dsimp only; rw [hl]
theorem w_negI {i : Int} (h : Q (.int (-i)) G) : run (oNeg (.int i)) G Q E := h
theorem w_app {o a : E3} (h : run (o σ) G (fun x G1 => run (isL x) G1 (fun _ G2 => run (a σ) G2 (fun y G3 => run (mAppend x y) G3 Q E) E) E) E) : run (eApp o a σ) G Q E :=
  w_bnd (run_mono h (fun _ _ q => w_bnd (run_mono q (fun _ _ q => w_bnd q) fun _ _ q => q)) fun _ _ q => q)
theorem w_isL {n : Nat} {xs : List D} {QU : Unit → Hh → Prop} (hl : G[n]? = some (.lst xs)) (h : QU () G) : run (isL (.ref n)) G QU E := by
  refine run_some (a := ()) (G' := G) ?_ h
  unfold isL; dsimp only; rw [hl]
theorem w_min {i j : Int} (h : Q (.int (if j < i then j else i)) G) : run (bMin [.int i, .int j]) G Q E := h
theorem w_max {i j : Int} (h : Q (.int (if j > i then j else i)) G) : run (bMax [.int i, .int j]) G Q E := h
theorem w_maxL {n : Nat} {xs : List D} {m : Int} {r : List Int} (hl : G[n]? = some (.lst xs)) (e : intsOf xs = some (m :: r)) (h : Q (.int (maxI m r)) G) : run (bMax [.ref n]) G Q E := by
  refine run_some (a := .int (maxI m r)) (G' := G) ?_ h
  unfold bMax; dsimp only; rw [hl]; dsimp only; rw [e]
theorem w_listL {n : Nat} {xs : List D} (hl : G[n]? = some (.lst xs)) (h : Q (.ref G.length) (G ++ [.lst xs])) : run (bList [.ref n]) G Q E := by
  refine run_some (a := .ref G.length) (G' := G ++ [.lst xs]) ?_ h
  unfold bList; dsimp only; rw [hl]; rfl
theorem w_append {n : Nat} {xs : List D} {y : D} (hl : G[n]? = some (.lst xs)) (hz : xs.length < sizeL) (h : Q .non (G.set n (.lst (xs ++ [y])))) : run (mAppend (.ref n) y) G Q E := by
  refine run_some (a := .non) (G' := G.set n (.lst (xs ++ [y]))) ?_ h
  unfold mAppend; dsimp only; rw [hl]; dsimp only; rw [if_pos hz]

/-! what is walked -/
theorem w_iOf {e : E3} {QI : Src → Hh → Prop} (h : run (e σ) G (fun x G1 => run (srcOf x) G1 QI E) E) : run (iOf e σ) G QI E := w_bnd h
theorem w_srcL {n : Nat} {xs : List D} {QI : Src → Hh → Prop} (hl : G[n]? = some (.lst xs)) (h : QI ⟨xs, fun G' => decide (G'[n]? = some (.lst xs))⟩ G) : run (srcOf (.ref n)) G QI E := by
  refine run_some (G' := G) ?_ h
  unfold srcOf; dsimp only; rw [hl]
theorem w_iRng1 {a : E3} {QI : Src → Hh → Prop} (h : run (a σ) G (fun x G1 => run (rng1 x) G1 QI E) E) : run (iRng1 a σ) G QI E := w_bnd h
theorem w_iRng2 {a b : E3} {QI : Src → Hh → Prop} (h : run (a σ) G (fun x G1 => run (b σ) G1 (fun y G2 => run (rng2 x y) G2 QI E) E) E) : run (iRng2 a b σ) G QI E := w_bnd (run_mono h (fun _ _ q => w_bnd q) fun _ _ q => q)
theorem w_rng1 {j : Int} {QI : Src → Hh → Prop} (c : inRng j = true) (h : QI ⟨rng 0 j.toNat, fun _ => true⟩ G) : run (rng1 (.int j)) G QI E := by
  show run (if inRng j = true then ret (⟨rng 0 j.toNat, fun _ => true⟩ : Src) else fail) G QI E
  rw [if_pos c]; exact h
theorem w_rng2 {i j : Int} {QI : Src → Hh → Prop} (c : (inRng i && inRng j) = true) (h : QI ⟨rng i (j - i).toNat, fun _ => true⟩ G) : run (rng2 (.int i) (.int j)) G QI E := by
  show run (if (inRng i && inRng j) = true then ret (⟨rng i (j - i).toNat, fun _ => true⟩ : Src) else fail) G QI E
  rw [if_pos c]; exact h
theorem rng_get {i : Int} {n k : Nat} {x : D} (h : (rng i n)[k]? = some x) : x = .int (i + k) ∧ k < n := by
  unfold rng at h
  rw [List.getElem?_map] at h
  by_cases hk : k < n
  · rw [List.getElem?_range hk] at h
    simp at h
    exact ⟨h.symm, hk⟩
  · rw [List.getElem?_eq_none (by simpa using hk)] at h
    cases h
theorem rng_len {i : Int} {n : Nat} : (rng i n).length = n := by simp [rng]

/-- a comprehension, by what holds between two turns -/
theorem w_compL {ck : Hh → Bool} {cond : D → M Bool} {elt : D → M D} {xs : List D} (P : Nat → List D → Hh → Prop)
    (hck : ∀ i acc G, P i acc G → ck G = true)
    (hs : ∀ i x acc G, xs[i]? = some x → P i acc G → run (cond x) G (fun c G1 => if c = true then run (elt x) G1 (fun y G2 => acc.length < sizeL ∧ P (i + 1) (acc ++ [y]) G2) E else P (i + 1) acc G1) E)
    (hd : ∀ acc G, P xs.length acc G → QA acc G) : ∀ (r : List D) (i : Nat) (acc : List D) (G : Hh), xs.drop i = r → i ≤ xs.length → P i acc G → run (compL ck cond elt r acc) G QA E
  | [], i, acc, G, e, hi, p => by
    have hl : i = xs.length := by
      have := congrArg List.length e
      simp at this
      omega
    subst hl
    refine run_some (G' := G) (a := acc) ?_ (hd acc G p)
    unfold compL; rw [if_pos (hck _ _ _ p)]
  | x :: r, i, acc, G, e, hi, p => by
    have hx : xs[i]? = some x := by
      have := congrArg (fun l => l[0]?) e
      simpa using this
    have hlt : i < xs.length := (List.getElem?_eq_some_iff.mp hx).1
    have er : xs.drop (i + 1) = r := by
      have := congrArg List.tail e
      simpa using this
    have key : run (bnd (cond x) (fun c => if c = true then bnd (elt x) (fun y => if acc.length < sizeL then compL ck cond elt r (acc ++ [y]) else fail) else compL ck cond elt r acc)) G QA E := by
      refine w_bnd (run_mono (hs i x acc G hx p) (fun c G1 q => ?_) fun _ _ q => q)
      cases c with
      | false => exact w_compL P hck hs hd r (i + 1) acc G1 er hlt q
      | true =>
        refine w_bnd (run_mono q (fun y G2 q2 => ?_) fun _ _ q => q)
        rw [if_pos q2.1]
        exact w_compL P hck hs hd r (i + 1) (acc ++ [y]) G2 er hlt q2.2
    unfold run at key ⊢
    rw [show compL ck cond elt (x :: r) acc G = bnd (cond x) (fun c => if c = true then bnd (elt x) (fun y => if acc.length < sizeL then compL ck cond elt r (acc ++ [y]) else fail) else compL ck cond elt r acc) G by
      conv => lhs; unfold compL
      rw [if_pos (hck _ _ _ p)]]
    exact key
theorem w_comp {it : I3} {cap : List Nat} {cond : T3} {elt : E3}
    (h : run (it σ) G (fun s G1 => run (compL s.ck (fun x => cond (some x :: capt σ cap)) (fun x => elt (some x :: capt σ cap)) s.xs []) G1 (fun ys G2 => Q (.ref G2.length) (G2 ++ [.lst ys])) E) E) : run (eComp it cap cond elt σ) G Q E :=
  w_bnd (run_mono h (fun s G1 q => w_bnd q) fun _ _ q => q)

/-! statements -/
def sK (b : S3) (r : Fl × St) : M (Fl × St) := match r.1 with
  | .next => b r.2
  | f => ret (f, r.2)
theorem w_seq {a b : S3} (h : run (a σ) G (fun r G1 => run (sK b r) G1 QS E) E) : run (sSeq a b σ) G QS E := w_bnd h
theorem w_next {b : S3} {σ' : St} (h : run (b σ') G QS E) : run (sK b (.next, σ')) G QS E := h
theorem w_kret {b : S3} {σ' : St} {d : D} (h : QS (.ret d, σ') G) : run (sK b (.ret d, σ')) G QS E := h
theorem w_nil (h : QS (.next, σ) G) : run (sNil σ) G QS E := h
theorem w_set {i : Nat} {e : E3} (h : run (e σ) G (fun d G1 => QS (.next, σ.set i (some d)) G1) E) : run (sSet i e σ) G QS E := w_bnd h
theorem w_sun {is : List Nat} {e : E3} (h : run (e σ) G (fun d G1 => run (gUn is d σ) G1 (fun σ' G2 => QS (.next, σ') G2) E) E) : run (sUn is e σ) G QS E :=
  w_bnd (run_mono h (fun _ _ q => w_bnd q) fun _ _ q => q)
theorem w_gUn {is : List Nat} {ds : List D} {σ' : St} {QG : St → Hh → Prop} (e : setAll is ds σ = some σ') (h : QG σ' G) : run (gUn is (.tup ds) σ) G QG E := by
  show run (match setAll is ds σ with
    | some σ' => ret σ'
    | none => fail) G QG E
  rw [e]; exact h
theorem w_expr {e : E3} (h : run (e σ) G (fun _ G1 => QS (.next, σ) G1) E) : run (sExpr e σ) G QS E := w_bnd h
theorem w_sret {e : E3} (h : run (e σ) G (fun d G1 => QS (.ret d, σ) G1) E) : run (sRet e σ) G QS E := w_bnd h
theorem w_sif {t : T3} {a b : S3} (h : run (t σ) G (fun c G1 => run (if c = true then a σ else b σ) G1 QS E) E) : run (sIf t a b σ) G QS E := w_bnd h
/-- a loop, by what holds between two turns -/
theorem w_forL {ck : Hh → Bool} {body : D → St → M (Fl × St)} {xs : List D} (P : Nat → St → Hh → Prop)
    (hck : ∀ i σ G, P i σ G → ck G = true)
    (hs : ∀ i x σ G, xs[i]? = some x → P i σ G → run (body x σ) G (fun p G1 => match p.1 with
      | .next => P (i + 1) p.2 G1
      | .cont => P (i + 1) p.2 G1
      | .brk => QS (.next, p.2) G1
      | .ret d => QS (.ret d, p.2) G1) E)
    (hd : ∀ σ G, P xs.length σ G → QS (.next, σ) G) : ∀ (r : List D) (i : Nat) (σ : St) (G : Hh), xs.drop i = r → i ≤ xs.length → P i σ G → run (forL ck body r σ) G QS E
  | [], i, σ, G, e, hi, p => by
    have hl : i = xs.length := by
      have := congrArg List.length e
      simp at this
      omega
    subst hl
    refine run_some (G' := G) (a := (.next, σ)) ?_ (hd σ G p)
    unfold forL; rw [if_pos (hck _ _ _ p)]
  | x :: r, i, σ, G, e, hi, p => by
    have hx : xs[i]? = some x := by
      have := congrArg (fun l => l[0]?) e
      simpa using this
    have hlt : i < xs.length := (List.getElem?_eq_some_iff.mp hx).1
    have er : xs.drop (i + 1) = r := by
      have := congrArg List.tail e
      simpa using this
    have key : run (bnd (body x σ) (fun p => match p.1 with
      | .next => forL ck body r p.2
      | .cont => forL ck body r p.2
      | .brk => ret (.next, p.2)
      | .ret d => ret (.ret d, p.2))) G QS E := by
      refine w_bnd (run_mono (hs i x σ G hx p) (fun c G1 q => ?_) fun _ _ q => q)
      obtain ⟨f, σ1⟩ := c
      cases f with
      | next => exact w_forL P hck hs hd r (i + 1) σ1 G1 er hlt q
      | cont => exact w_forL P hck hs hd r (i + 1) σ1 G1 er hlt q
      | brk => exact q
      | ret d => exact q
    unfold run at key ⊢
    rw [show forL ck body (x :: r) σ G = bnd (body x σ) (fun p => match p.1 with
      | .next => forL ck body r p.2
      | .cont => forL ck body r p.2
      | .brk => ret (.next, p.2)
      | .ret d => ret (.ret d, p.2)) G by
      conv => lhs; unfold forL
      rw [if_pos (hck _ _ _ p)]
      all_goals rfl]
    exact key
theorem w_for {it : I3} {g : D → St → M St} {body : S3} (h : run (it σ) G (fun s G1 => run (forL s.ck (fun x σ => bnd (g x σ) body) s.xs σ) G1 QS E) E) : run (sFor it g body σ) G QS E := w_bnd h
theorem w_gNm {i : Nat} {d : D} {QG : St → Hh → Prop} (h : QG (σ.set i (some d)) G) : run (gNm i d σ) G QG E := h
def fK (p : Fl × St) : M D := match p.1 with
  | .ret d => ret d
  | .next => ret .non
  | _ => fail
theorem w_fn {n : Nat} {pad : St} {body : S3} {ds : List D} (hl : ds.length = n) (h : run (body (ds.map some ++ pad)) G (fun p G1 => run (fK p) G1 Q E) E) : run (fnM n pad body ds) G Q E := by
  unfold fnM
  rw [if_pos hl]
  exact w_bnd h
theorem w_fRet {d : D} {σ' : St} (h : Q d G) : run (fK (.ret d, σ')) G Q E := h
theorem w_fNext {σ' : St} (h : Q .non G) : run (fK (.next, σ')) G Q E := h
end
end M3

/-! W4: backward rules for classes, dicts, places, parts, exceptions -/
namespace M3
open PySem
section
variable {α β : Type} {G G' : Hh} {E : Nat → Hh → Prop} {σ : St}
variable {Q : D → Hh → Prop} {QB : Bool → Hh → Prop} {QA : List D → Hh → Prop} {QS : Fl × St → Hh → Prop} {QU : Unit → Hh → Prop}
theorem w_throw {c : Nat} {Qa : α → Hh → Prop} (h : E c G) : run (throw c : M α) G Qa E := h
theorem w_raise {c : Nat} {a : A3} (h : run (a σ) G (fun xs G1 => xs.length ≤ sizeL ∧ E c G1) E) : run (sRaise c a σ) G QS E :=
  w_bnd (run_mono h (fun xs G1 ⟨l, q⟩ => by show run (if xs.length ≤ sizeL then throw c else fail) G1 QS E; rw [if_pos l]; exact q) fun _ _ z => z)
theorem w_try {e : E3} {k : D → St → Fl × St} {ms : List ((Nat → Bool) × S3)} (h : run (e σ) G (fun d G' => QS (k d σ) G') fun c G' => ∃ f, pick c ms = some f ∧ run (f σ) G' QS E) : run (sTry e k ms σ) G QS E := by
  unfold run sTry at *
  cases q : e σ G with
  | none => rw [q] at h; exact h
  | some p =>
    obtain ⟨o, G1⟩ := p
    rw [q] at h
    cases o with
    | ok d => exact h
    | exc c =>
      obtain ⟨f, hf, hr⟩ := h
      dsimp only
      rw [hf]
      exact hr
theorem w_fld {o : E3} {f : Nat} (h : run (o σ) G (fun x G1 => run (getF x f) G1 Q E) E) : run (eFld o f σ) G Q E := w_bnd h
theorem w_getF {n C f : Nat} {fs : List (Nat × D)} {d : D} (hn : G[n]? = some (.ins C fs)) (hf : fs.lookup f = some d) (h : Q d G) : run (getF (.ref n) f) G Q E := by
  unfold run getF
  dsimp only
  rw [hn]
  dsimp only
  rw [hf]
  exact h
theorem w_setF {n C f : Nat} {fs : List (Nat × D)} {y : D} (hn : G[n]? = some (.ins C fs)) (hl : fs.length < 1000) (h : QU () (G.set n (.ins C (putN f y fs)))) : run (setF (.ref n) f y) G QU E := by
  unfold run setF
  dsimp only
  rw [hn]
  dsimp only
  rw [if_pos hl]
  exact h
theorem w_isC {n C : Nat} {fs : List (Nat × D)} (hn : G[n]? = some (.ins C fs)) (h : QU () G) : run (isC C (.ref n)) G QU E := by
  unfold run isC
  dsimp only
  rw [hn]
  dsimp only
  rw [if_pos rfl]
  exact h
theorem w_fldS {o e : E3} {f : Nat} (h : run (e σ) G (fun y G1 => run (o σ) G1 (fun x G2 => run (setF x f y) G2 (fun _ G3 => QS (.next, σ) G3) E) E) E) : run (sFldS o f e σ) G QS E :=
  w_bnd (run_mono h (fun y G1 q => w_bnd (run_mono q (fun x G2 q => w_bnd q) fun _ _ z => z)) fun _ _ z => z)
theorem w_meth {C : Nat} {g : List D → M D} {o : E3} {a : A3} (h : run (o σ) G (fun x G1 => run (isC C x) G1 (fun _ G2 => run (a σ) G2 (fun ds G3 => run (g (x :: ds)) G3 Q E) E) E) E) : run (eMeth C g o a σ) G Q E :=
  w_bnd (run_mono h (fun x G1 q => w_bnd (run_mono q (fun _ G2 q => w_bnd q) fun _ _ z => z)) fun _ _ z => z)
theorem w_isNon (h : QU () G) : run (isNon .non) G QU E := h
theorem w_make {C : Nat} {g : List D → M D} {a : A3} (h : run (a σ) G (fun ds G1 => run (g (.ref G1.length :: ds)) (G1 ++ [.ins C []]) (fun r G2 => r = .non ∧ Q (.ref G1.length) G2) E) E) : run (eMake C g a σ) G Q E :=
  w_bnd (run_mono h (fun ds G1 q => w_bnd (show run (bnd (g (.ref G1.length :: ds)) fun r => bnd (isNon r) fun _ => ret (D.ref G1.length)) (G1 ++ [.ins C []]) Q E from w_bnd (run_mono q (fun r G2 ⟨e, q⟩ => by subst e; exact q) fun _ _ z => z))) fun _ _ z => z)
theorem w_dict0 (h : Q (.ref G.length) (G ++ [.dK []])) : run (eDict0 σ) G Q E := h
theorem w_subS {o i e : E3} (h : run (e σ) G (fun v G1 => run (o σ) G1 (fun x G2 => run (i σ) G2 (fun y G3 => run (setI x y v) G3 (fun _ G4 => QS (.next, σ) G4) E) E) E) E) : run (sSubS o i e σ) G QS E :=
  w_bnd (run_mono h (fun v G1 q => w_bnd (run_mono q (fun x G2 q => w_bnd (run_mono q (fun y G3 q => w_bnd q) fun _ _ z => z)) fun _ _ z => z)) fun _ _ z => z)
theorem w_setL {n : Nat} {xs : List D} {k : Int} {j : Nat} {v : D} (hn : G[n]? = some (.lst xs)) (hj : ixN xs.length k = some j) (h : QU () (G.set n (.lst (xs.set j v)))) : run (setI (.ref n) (.int k) v) G QU E := by
  unfold run setI
  dsimp only
  rw [hn]
  dsimp only
  rw [hj]
  exact h
theorem w_setK {n : Nat} {kvs : List (Key × D)} {i v : D} {k : Key} (hn : G[n]? = some (.dK kvs)) (hk : keyK i = some k) (hl : kvs.length < sizeL) (h : QU () (G.set n (.dK (put kvs k v)))) : run (setI (.ref n) i v) G QU E := by
  unfold run setI
  dsimp only
  rw [hn]
  dsimp only
  rw [hk]
  dsimp only
  rw [if_pos hl]
  exact h
theorem w_ixK {n : Nat} {kvs : List (Key × D)} {i d : D} {k : Key} (hn : G[n]? = some (.dK kvs)) (hk : keyK i = some k) (e : look kvs k = some d) (h : Q d G) : run (oIx (.ref n) i) G Q E := by
  unfold run oIx
  dsimp only
  rw [hn]
  cases i with
  | int z => dsimp only; rw [hk]; dsimp only; rw [e]; exact h
  | str z => dsimp only; rw [hk]; dsimp only; rw [e]; exact h
  | _ => cases hk
theorem w_ext {o a : E3} (h : run (o σ) G (fun x G1 => run (isL x) G1 (fun _ G2 => run (a σ) G2 (fun y G3 => run (mExtend x y) G3 Q E) E) E) E) : run (eExt o a σ) G Q E :=
  w_bnd (run_mono h (fun x G1 q => w_bnd (run_mono q (fun _ G2 q => w_bnd q) fun _ _ z => z)) fun _ _ z => z)
theorem w_mExtend {n m : Nat} {xs ys : List D} (hn : G[n]? = some (.lst xs)) (hm : G[m]? = some (.lst ys)) (hl : xs.length + ys.length ≤ sizeL) (h : Q .non (G.set n (.lst (xs ++ ys)))) : run (mExtend (.ref n) (.ref m)) G Q E := by
  unfold run mExtend
  dsimp only
  rw [hn, hm]
  dsimp only
  rw [if_pos hl]
  exact h
theorem w_popAt {o a : E3} (h : run (o σ) G (fun x G1 => run (isL x) G1 (fun _ G2 => run (a σ) G2 (fun y G3 => run (mPopAt x y) G3 Q E) E) E) E) : run (ePopAt o a σ) G Q E :=
  w_bnd (run_mono h (fun x G1 q => w_bnd (run_mono q (fun _ G2 q => w_bnd q) fun _ _ z => z)) fun _ _ z => z)
theorem w_mPopAt {n k : Nat} {xs : List D} {i : Int} {y : D} (hn : G[n]? = some (.lst xs)) (hk : ixN xs.length i = some k) (hy : xs[k]? = some y) (hi : -(2 ^ 62) ≤ i ∧ i < 2 ^ 62) (h : Q y (G.set n (.lst (xs.eraseIdx k)))) : run (mPopAt (.ref n) (.int i)) G Q E := by
  unfold run mPopAt
  dsimp only
  rw [hn]
  dsimp only
  rw [hk]
  dsimp only
  rw [hy]
  dsimp only
  rw [if_pos hi]
  exact h
theorem w_vals {o : E3} (h : run (o σ) G (fun x G1 => run (mVals x) G1 Q E) E) : run (eVals o σ) G Q E := w_bnd h
theorem w_mVals {n : Nat} {kvs : List (Key × D)} (hn : G[n]? = some (.dK kvs)) (h : Q (.ref G.length) (G ++ [.lst (kvs.map (·.2))])) : run (mVals (.ref n)) G Q E := by
  unfold run mVals
  dsimp only
  rw [hn]
  exact h
theorem w_sl {e : E3} {lo hi : P3} (h : run (e σ) G (fun x G1 => run (lo σ) G1 (fun l G2 => run (hi σ) G2 (fun r G3 => run (oSl x l r) G3 Q E) E) E) E) : run (eSl e lo hi σ) G Q E :=
  w_bnd (run_mono h (fun x G1 q => w_bnd (run_mono q (fun l G2 q => w_bnd q) fun _ _ z => z)) fun _ _ z => z)
end
end M3

/-! L3: the machine M3 over the layer. Tuples are values; lists, dicts, instances stand at numbers, and μ says where a number lies. -/
namespace L3
open PySem PySem.Spec PyProof.Rows L2

/-- classes and fields by number -/
structure Tab where
  cls : Nat → Option Addr
  nm : Nat → Str

mutual
def Den (K : PySem.W.Frag) (H : Hp) (μ : List Addr) : M3.D → V → Prop
  | .non, v => v = .non
  | .bl b, v => v = .bl b
  | .int i, v => v = .int i
  | .str x, v => v = .str x
  | .ref n, v => ∃ a, μ[n]? = some a ∧ v = .ref a
  | .tup ds, v => ∃ a vs, v = .ref a ∧ SqT K H a vs ∧ Dens K H μ ds vs
def Dens (K : PySem.W.Frag) (H : Hp) (μ : List Addr) : List M3.D → List V → Prop
  | [], vs => vs = []
  | d :: ds, vs => ∃ v r, vs = v :: r ∧ Den K H μ d v ∧ Dens K H μ ds r
end

/-- tuples and frozen things stay -/
structure Keeps (H H' : Hp) : Prop where
  tup : ∀ b xs, H b = some (.tup xs) → H' b = some (.tup xs)
  frz : ∀ b o u, H b = some (.frz o u) → H' b = some (.frz o u)
theorem Keeps.refl (H : Hp) : Keeps H H := ⟨fun _ _ h => h, fun _ _ _ h => h⟩
theorem Keeps.trans {A B C : Hp} (a : Keeps A B) (b : Keeps B C) : Keeps A C := ⟨fun _ _ h => b.tup _ _ (a.tup _ _ h), fun _ _ _ h => b.frz _ _ _ (a.frz _ _ _ h)⟩
theorem Keeps.of_same {H H' : Hp} (h : Same H H') : Keeps H H' := ⟨fun _ _ e => h _ _ e, fun _ _ _ e => h _ _ e⟩
theorem Same.new {H : Hp} {p : Addr} (o : HO) (h : H p = none) : Same H (upd H p o) := fun b u e => by rw [upd_ne (ne_of_none e h)]; exact e
theorem Keeps.write {H : Hp} {a : Addr} {o o' : HO} (h : H a = some o) (ht : ∀ xs, o ≠ .tup xs) (hf : ∀ q u, o ≠ .frz q u) : Keeps H (upd H a o') :=
  ⟨fun b xs e => by rw [upd_ne (ne_of e h (fun z => ht xs z.symm))]; exact e, fun b q u e => by rw [upd_ne (ne_of e h (fun z => hf q u z.symm))]; exact e⟩
theorem SqT.keeps {K : PySem.W.Frag} {H H' : Hp} {a : Addr} {xs : List V} (k : Keeps H H') (h : SqT K H a xs) : SqT K H' a xs := by
  rcases h with (h | ⟨o, h⟩) | h
  · exact .inl (.inl (k.tup _ _ h))
  · exact .inl (.inr ⟨o, k.frz _ _ _ h⟩)
  · exact .inr h
/-- a list that is only read -/
def SqF (K : PySem.W.Frag) (H : Hp) (a : Addr) (xs : List V) : Prop :=
  (∃ o, H a = some (.frz o (.lst xs))) ∨
    ∃ (o : Obj) (its : Array Value) (n : Nat), K.lookup a = some o ∧ o.cls = .type "list" ∧ o.dict = none ∧ o.data = .seq its n ∧ its.size ≤ sizeLine ∧ Vals xs its.toList
theorem SqF.keeps {K : PySem.W.Frag} {H H' : Hp} {a : Addr} {xs : List V} (k : Keeps H H') (h : SqF K H a xs) : SqF K H' a xs := by
  rcases h with ⟨o, h⟩ | h
  · exact .inl ⟨o, k.frz _ _ _ h⟩
  · exact .inr h
theorem SqF.sq {K : PySem.W.Frag} {H : Hp} {a : Addr} {xs : List V} (h : SqF K H a xs) : SqL K H a xs := by
  rcases h with ⟨o, h⟩ | h
  · exact .inl (.inr ⟨o, h⟩)
  · exact .inr h

/-- rest: what is tracked and bears no number is left as it is -/
structure Up (μ μ' : List Addr) (H H' : Hp) : Prop where
  pre : μ <+: μ'
  keeps : Keeps H H'
  rest : ∀ b o, H b = some o → b ∉ μ → H' b = some o ∧ b ∉ μ'
theorem Up.refl (μ : List Addr) (H : Hp) : Up μ μ H H := ⟨List.prefix_refl _, Keeps.refl _, fun _ _ h n => ⟨h, n⟩⟩
theorem Up.trans {μ μ1 μ2 : List Addr} {H H1 H2 : Hp} (a : Up μ μ1 H H1) (b : Up μ1 μ2 H1 H2) : Up μ μ2 H H2 := ⟨a.pre.trans b.pre, a.keeps.trans b.keeps, fun c o h n => let ⟨h1, n1⟩ := a.rest c o h n; b.rest c o h1 n1⟩
theorem Up.same {μ : List Addr} {H H' : Hp} (h : Same H H') : Up μ μ H H' := ⟨List.prefix_refl _, Keeps.of_same h, fun c o e n => ⟨h c o e, n⟩⟩
theorem Up.new {μ : List Addr} {H : Hp} {p : Addr} (u : HO) (hp : H p = none) : Up μ (μ ++ [p]) H (upd H p u) := ⟨⟨[p], rfl⟩, Keeps.of_same (Same.new u hp), fun c o e n => ⟨Same.new u hp c o e, fun z => by
  rcases List.mem_append.mp z with z | z
  · exact n z
  · simp at z; subst z; rw [hp] at e; cases e⟩⟩
theorem Up.at_write {μ : List Addr} {H : Hp} {a : Addr} {o o' : HO} {n : Nat} (ea : μ[n]? = some a) (h : H a = some o) (ht : ∀ xs, o ≠ .tup xs) (hf : ∀ q u, o ≠ .frz q u) : Up μ μ H (upd H a o') :=
  ⟨List.prefix_refl _, Keeps.write h ht hf, fun c u e nc => ⟨by rw [upd_ne (by rintro rfl; exact nc (List.mem_of_getElem? ea))]; exact e, nc⟩⟩
theorem Up.at {μ μ' : List Addr} {H H' : Hp} (u : Up μ μ' H H') {n : Nat} {a : Addr} (h : μ[n]? = some a) : μ'[n]? = some a := by
  obtain ⟨r, rfl⟩ := u.pre
  rw [List.getElem?_append_left (List.getElem?_eq_some_iff.mp h).1]
  exact h

theorem pre_at {μ μ' : List Addr} (u : μ <+: μ') {n : Nat} {a : Addr} (h : μ[n]? = some a) : μ'[n]? = some a := by
  obtain ⟨r, rfl⟩ := u
  rw [List.getElem?_append_left (List.getElem?_eq_some_iff.mp h).1]
  exact h
mutual
theorem Den.mono {K : PySem.W.Frag} {μ μ' : List Addr} {H H' : Hp} (p : μ <+: μ') (k : Keeps H H') : ∀ {d : M3.D} {v : V}, Den K H μ d v → Den K H' μ' d v
  | .non, _, h => h
  | .bl _, _, h => h
  | .int _, _, h => h
  | .str _, _, h => h
  | .ref _, _, ⟨a, e, h⟩ => ⟨a, pre_at p e, h⟩
  | .tup ds, _, ⟨a, vs, e, h, r⟩ => ⟨a, vs, e, SqT.keeps k h, Dens.mono p k r⟩
theorem Dens.mono {K : PySem.W.Frag} {μ μ' : List Addr} {H H' : Hp} (p : μ <+: μ') (k : Keeps H H') : ∀ {ds : List M3.D} {vs : List V}, Dens K H μ ds vs → Dens K H' μ' ds vs
  | [], _, h => h
  | _ :: _, _, ⟨v, r, e, h, t⟩ => ⟨v, r, e, Den.mono p k h, Dens.mono p k t⟩
end
theorem Den.up {K : PySem.W.Frag} {μ μ' : List Addr} {H H' : Hp} (u : Up μ μ' H H') {d : M3.D} {v : V} (h : Den K H μ d v) : Den K H' μ' d v := Den.mono u.pre u.keeps h
theorem Dens.up {K : PySem.W.Frag} {μ μ' : List Addr} {H H' : Hp} (u : Up μ μ' H H') {ds : List M3.D} {vs : List V} (h : Dens K H μ ds vs) : Dens K H' μ' ds vs := Dens.mono u.pre u.keeps h

/-! lists of values -/
theorem Dens.length {K : PySem.W.Frag} {μ : List Addr} {H : Hp} : ∀ {ds : List M3.D} {vs : List V}, Dens K H μ ds vs → ds.length = vs.length
  | [], _, h => by cases (show _ = [] from h); rfl
  | _ :: _, _, ⟨v, r, e, _, t⟩ => by subst e; simp [Dens.length t]
theorem Dens.get {K : PySem.W.Frag} {μ : List Addr} {H : Hp} : ∀ {ds : List M3.D} {vs : List V} {i : Nat} {d : M3.D}, Dens K H μ ds vs → ds[i]? = some d → ∃ v, vs[i]? = some v ∧ Den K H μ d v
  | [], _, _, _, _, e => by simp at e
  | d :: ds, _, 0, d', ⟨v, r, e, h, t⟩, q => by
    subst e
    simp at q
    subst q
    exact ⟨v, rfl, h⟩
  | d :: ds, _, i + 1, d', ⟨v, r, e, h, t⟩, q => by
    subst e
    obtain ⟨w, h1, h2⟩ := Dens.get (i := i) t (by simpa using q)
    exact ⟨w, by simpa using h1, h2⟩
theorem Dens.get' {K : PySem.W.Frag} {μ : List Addr} {H : Hp} {ds : List M3.D} {vs : List V} {i : Nat} {v : V} (h : Dens K H μ ds vs) (e : vs[i]? = some v) : ∃ d, ds[i]? = some d ∧ Den K H μ d v := by
  have hl : i < ds.length := by rw [h.length]; exact (List.getElem?_eq_some_iff.mp e).1
  obtain ⟨w, e1, h1⟩ := Dens.get h (List.getElem?_eq_getElem hl)
  rw [e] at e1
  cases e1
  exact ⟨_, List.getElem?_eq_getElem hl, h1⟩
theorem Dens.append {K : PySem.W.Frag} {μ : List Addr} {H : Hp} : ∀ {ds es : List M3.D} {vs ws : List V}, Dens K H μ ds vs → Dens K H μ es ws → Dens K H μ (ds ++ es) (vs ++ ws)
  | [], _, _, _, h, t => by cases (show _ = [] from h); exact t
  | _ :: _, _, _, _, ⟨v, r, e, h, t⟩, s => by subst e; exact ⟨v, r ++ _, rfl, h, Dens.append t s⟩
theorem Dens.one {K : PySem.W.Frag} {μ : List Addr} {H : Hp} {d : M3.D} {v : V} (h : Den K H μ d v) : Dens K H μ [d] [v] := ⟨v, [], rfl, h, rfl⟩
theorem Dens.cons {K : PySem.W.Frag} {μ : List Addr} {H : Hp} {d : M3.D} {v : V} {ds : List M3.D} {vs : List V} (h : Den K H μ d v) (t : Dens K H μ ds vs) : Dens K H μ (d :: ds) (v :: vs) := ⟨v, vs, rfl, h, t⟩
theorem Dens.ints {K : PySem.W.Frag} {μ : List Addr} {H : Hp} : ∀ {ns : List Int} {vs : List V}, Dens K H μ (ns.map M3.D.int) vs → vs = ns.map V.int
  | [], _, h => h
  | n :: ns, _, ⟨v, r, e, h, t⟩ => by
    subst e
    have e1 : v = V.int n := h
    rw [e1, Dens.ints t]; rfl
theorem Dens.of_ints {K : PySem.W.Frag} {μ : List Addr} {H : Hp} : ∀ {ns : List Int}, Dens K H μ (ns.map M3.D.int) (ns.map V.int)
  | [] => rfl
  | n :: ns => ⟨_, _, rfl, rfl, Dens.of_ints⟩

/-! objects -/
def isF : M3.O → Bool
  | .frz _ => true
  | _ => false
def ObD (T : Tab) (K : PySem.W.Frag) (H : Hp) (μ : List Addr) : M3.O → Addr → Prop
  | .lst xs, a => ∃ vs, H a = some (.lst vs) ∧ Dens K H μ xs vs
  | .frz xs, a => ∃ vs, SqF K H a vs ∧ Dens K H μ xs vs
  | .dK kvs, a => ∃ ws, H a = some (.dK ws) ∧ Paired (fun (p : M3.Key × M3.D) (q : L2.Key × V) => p.1 = q.1 ∧ Den K H μ p.2 q.2) kvs ws
  | .dT kvs, a => ∃ ws, H a = some (.dT ws) ∧ Paired (fun (p : List M3.Key × M3.D) (q : List L2.Key × V) => p.1 = q.1 ∧ Den K H μ p.2 q.2) kvs ws
  | .ins C fs, a => ∃ Ca dx ws, T.cls C = some Ca ∧ H a = some (.ins Ca dx ws) ∧ Paired (fun (p : Nat × M3.D) (q : Str × V) => q.1 = T.nm p.1 ∧ Den K H μ p.2 q.2) fs ws
structure Sim (T : Tab) (K : PySem.W.Frag) (μ : List Addr) (H : Hp) (G : M3.Hh) : Prop where
  len : μ.length = G.length
  obj : ∀ (n : Nat) a o, μ[n]? = some a → G[n]? = some o → ObD T K H μ o a
  inj : ∀ (n m : Nat) a o o', n ≠ m → μ[n]? = some a → μ[m]? = some a → G[n]? = some o → G[m]? = some o' → isF o = true ∨ isF o' = true

theorem Sim.addr {T : Tab} {K : PySem.W.Frag} {μ : List Addr} {H : Hp} {G : M3.Hh} (S : Sim T K μ H G) {n : Nat} {o : M3.O} (h : G[n]? = some o) : ∃ a, μ[n]? = some a ∧ ObD T K H μ o a := by
  have hl : n < μ.length := by rw [S.len]; exact (List.getElem?_eq_some_iff.mp h).1
  exact ⟨μ[n], List.getElem?_eq_getElem hl, S.obj n _ o (List.getElem?_eq_getElem hl) h⟩
/-- what stands at the address of a number that can be written -/
theorem ObD.some_of {T : Tab} {K : PySem.W.Frag} {μ : List Addr} {H : Hp} {o : M3.O} {a : Addr} (h : ObD T K H μ o a) (hf : isF o = false) : ∃ u, H a = some u ∧ (∀ xs, u ≠ .tup xs) ∧ ∀ q w, u ≠ .frz q w := by
  cases o with
  | lst xs => obtain ⟨vs, e, _⟩ := h; exact ⟨_, e, (fun _ z => nomatch z), fun _ _ z => nomatch z⟩
  | frz xs => cases hf
  | dK kvs => obtain ⟨vs, e, _⟩ := h; exact ⟨_, e, (fun _ z => nomatch z), fun _ _ z => nomatch z⟩
  | dT kvs => obtain ⟨vs, e, _⟩ := h; exact ⟨_, e, (fun _ z => nomatch z), fun _ _ z => nomatch z⟩
  | ins C fs => obtain ⟨Ca, dx, ws, _, e, _⟩ := h; exact ⟨_, e, (fun _ z => nomatch z), fun _ _ z => nomatch z⟩
/-- the object's description stays where its own thing stays -/
theorem ObD.mono {T : Tab} {K : PySem.W.Frag} {μ μ' : List Addr} {H H' : Hp} {o : M3.O} {a : Addr} (h : ObD T K H μ o a) (p : μ <+: μ') (k : Keeps H H') (e : ∀ x, H a = some x → H' a = some x) : ObD T K H' μ' o a := by
  cases o with
  | lst xs => obtain ⟨vs, q, r⟩ := h; exact ⟨vs, e _ q, Dens.mono p k r⟩
  | frz xs => obtain ⟨vs, q, r⟩ := h; exact ⟨vs, SqF.keeps k q, Dens.mono p k r⟩
  | dK kvs => obtain ⟨vs, q, r⟩ := h; exact ⟨vs, e _ q, Paired.imp' (fun _ _ z => ⟨z.1, Den.mono p k z.2⟩) r⟩
  | dT kvs => obtain ⟨vs, q, r⟩ := h; exact ⟨vs, e _ q, Paired.imp' (fun _ _ z => ⟨z.1, Den.mono p k z.2⟩) r⟩
  | ins C fs => obtain ⟨Ca, dx, ws, c, q, r⟩ := h; exact ⟨Ca, dx, ws, c, e _ q, Paired.imp' (fun _ _ z => ⟨z.1, Den.mono p k z.2⟩) r⟩
theorem ObD.stay {T : Tab} {K : PySem.W.Frag} {μ μ' : List Addr} {H H' : Hp} {o : M3.O} {a : Addr} (h : ObD T K H μ o a) (u : Up μ μ' H H') (e : ∀ x, H a = some x → H' a = some x) : ObD T K H' μ' o a := h.mono u.pre u.keeps e

section
variable {T : Tab} {K : PySem.W.Frag} {μ : List Addr} {H H' : Hp} {G : M3.Hh}
/-- all that is tracked stays -/
theorem Sim.same (S : Sim T K μ H G) (h : Same H H') : Sim T K μ H' G :=
  ⟨S.len, fun n a o e1 e2 => (S.obj n a o e1 e2).stay (Up.same h) (h a), S.inj⟩
/-- a new object -/
theorem Sim.new (S : Sim T K μ H G) {p : Addr} {u : HO} {o : M3.O} (hp : H p = none) (hf : isF o = false) (ho : ObD T K (upd H p u) (μ ++ [p]) o p) : Sim T K (μ ++ [p]) (upd H p u) (G ++ [o]) := by
  have sm := Same.new u hp
  have up : Up μ (μ ++ [p]) H (upd H p u) := Up.new u hp
  have old : ∀ (n : Nat) a o', (μ ++ [p])[n]? = some a → (G ++ [o])[n]? = some o' → (μ[n]? = some a ∧ G[n]? = some o') ∨ (n = G.length ∧ a = p ∧ o' = o) := by
    intro n a o' e1 e2
    by_cases h : n < G.length
    · rw [List.getElem?_append_left (by rw [S.len]; exact h)] at e1
      rw [List.getElem?_append_left h] at e2
      exact .inl ⟨e1, e2⟩
    · have hn : n = G.length := by
        have := (List.getElem?_eq_some_iff.mp e2).1
        rw [List.length_append] at this
        simp at this
        omega
      subst hn
      rw [← S.len] at e1
      simp at e1 e2
      exact .inr ⟨rfl, e1.symm, e2.symm⟩
  have free : ∀ (n : Nat) a o', μ[n]? = some a → G[n]? = some o' → isF o' = false → a ≠ p := by
    intro n a o' e1 e2 hf'
    obtain ⟨w, hw, _⟩ := (S.obj n a o' e1 e2).some_of hf'
    exact ne_of_none hw hp
  refine ⟨by simp [S.len], fun n a o' e1 e2 => ?_, fun n m a o1 o2 hnm e1 e2 e3 e4 => ?_⟩
  · rcases old n a o' e1 e2 with ⟨h1, h2⟩ | ⟨_, rfl, rfl⟩
    · exact (S.obj n a o' h1 h2).stay up (sm a)
    · exact ho
  · rcases old n a o1 e1 e3 with ⟨h1, h2⟩ | ⟨rfl, rfl, rfl⟩
    · rcases old m a o2 e2 e4 with ⟨h3, h4⟩ | ⟨rfl, rfl, rfl⟩
      · exact S.inj n m a o1 o2 hnm h1 h3 h2 h4
      · cases q : isF o1 with
        | true => exact .inl rfl
        | false => exact absurd rfl (free n a o1 h1 h2 q)
    · rcases old m a o2 e2 e4 with ⟨h3, h4⟩ | ⟨h3, _, _⟩
      · cases q : isF o2 with
        | true => exact .inr rfl
        | false => exact absurd rfl (free m a o2 h3 h4 q)
      · exact absurd h3.symm hnm
/-- an object is written -/
theorem Sim.set (S : Sim T K μ H G) {n : Nat} {a : Addr} {o o' : M3.O} {u : HO} (e1 : μ[n]? = some a) (e2 : G[n]? = some o) (hf : isF o = false) (hf' : isF o' = false) (ho : ObD T K (upd H a u) μ o' a) : Sim T K μ (upd H a u) (G.set n o') := by
  obtain ⟨w, hw, h1, h2⟩ := (S.obj n a o e1 e2).some_of hf
  have up : Up μ μ H (upd H a u) := Up.at_write e1 hw h1 h2
  have hl := (List.getElem?_eq_some_iff.mp e2).1
  refine ⟨by rw [List.length_set]; exact S.len, fun m b ob q1 q2 => ?_, fun m k b o1 o2 hmk q1 q2 q3 q4 => ?_⟩
  · by_cases h : m = n
    · subst h
      rw [e1] at q1
      cases q1
      rw [List.getElem?_set_self hl] at q2
      cases q2
      exact ho
    · rw [List.getElem?_set_ne (Ne.symm h)] at q2
      cases q : isF ob with
      | true =>
        cases ob with
        | frz xs =>
          obtain ⟨vs, z, r⟩ := S.obj m b _ q1 q2
          exact ⟨vs, SqF.keeps up.keeps z, Dens.up up r⟩
        | _ => cases q
      | false =>
        have hb : b ≠ a := by
          rintro rfl
          rcases S.inj m n b ob o h q1 e1 q2 e2 with z | z
          · rw [q] at z; cases z
          · rw [hf] at z; cases z
        exact (S.obj m b ob q1 q2).stay up fun x z => by rw [upd_ne hb]; exact z
  · have back : ∀ (m : Nat) ob, (G.set n o')[m]? = some ob → ∃ ob', G[m]? = some ob' ∧ isF ob' = isF ob := by
      intro m ob q
      by_cases h : m = n
      · subst h
        rw [List.getElem?_set_self hl] at q
        cases q
        exact ⟨o, e2, by rw [hf, hf']⟩
      · rw [List.getElem?_set_ne (Ne.symm h)] at q
        exact ⟨ob, q, rfl⟩
    obtain ⟨p1, r1, f1⟩ := back m o1 q3
    obtain ⟨p2, r2, f2⟩ := back k o2 q4
    rw [← f1, ← f2]
    exact S.inj m k b p1 p2 hmk q1 q2 r1 r2
theorem Up.set (S : Sim T K μ H G) {n : Nat} {a : Addr} {o : M3.O} (u : HO) (e1 : μ[n]? = some a) (e2 : G[n]? = some o) (hf : isF o = false) : Up μ μ H (upd H a u) := by
  obtain ⟨w, hw, h1, h2⟩ := (S.obj n a o e1 e2).some_of hf
  exact Up.at_write e1 hw h1 h2
end

/-! the frame's names -/
structure StD (K : PySem.W.Frag) (H : Hp) (μ : List Addr) (σ3 : M3.St) (σ : L2.St) : Prop where
  len : σ3.length = σ.length
  at_ : ∀ (i : Nat) d, σ3[i]? = some (some d) → ∃ v, σ[i]? = some (some v) ∧ Den K H μ d v
theorem StD.up {K : PySem.W.Frag} {H H' : Hp} {μ μ' : List Addr} {σ3 : M3.St} {σ : L2.St} (u : Up μ μ' H H') (s : StD K H μ σ3 σ) : StD K H' μ' σ3 σ :=
  ⟨s.len, fun i d e => let ⟨v, h1, h2⟩ := s.at_ i d e; ⟨v, h1, Den.up u h2⟩⟩
theorem StD.set {K : PySem.W.Frag} {H : Hp} {μ : List Addr} {σ3 : M3.St} {σ : L2.St} (s : StD K H μ σ3 σ) {d : M3.D} {v : V} (i : Nat) (h : Den K H μ d v) : StD K H μ (σ3.set i (some d)) (σ.set i (some v)) := by
  refine ⟨by rw [List.length_set, List.length_set]; exact s.len, fun j d' e => ?_⟩
  by_cases hj : j = i
  · subst hj
    have hl : j < σ3.length := by
      have := (List.getElem?_eq_some_iff.mp e).1
      rw [List.length_set] at this
      exact this
    rw [List.getElem?_set_self hl] at e
    cases e
    exact ⟨v, by rw [List.getElem?_set_self (by rw [← s.len]; exact hl)], h⟩
  · rw [List.getElem?_set_ne (Ne.symm hj)] at e
    rw [List.getElem?_set_ne (Ne.symm hj)]
    exact s.at_ j d' e

/-! readings -/
/-- what is wanted of an exception; it stays wanted further up -/
structure EX where
  x : List Addr → Hp → Nat → M3.Hh → Prop
  up : ∀ {μ μ' : List Addr} {H H' : Hp} {c : Nat} {G : M3.Hh}, Up μ μ' H H' → x μ H c G → x μ' H' c G
/-- none leaves -/
def EX0 : EX := ⟨fun _ _ _ _ => False, fun _ z => z⟩
theorem EX.upE {α : Type} (E : EX) {m : M3.M α} {G : M3.Hh} {P : α → M3.Hh → Prop} {μ μ' : List Addr} {H H' : Hp} (u : Up μ μ' H H') (h : M3.run m G P (E.x μ H)) : M3.run m G P (E.x μ' H') := M3.run_mono h (fun _ _ q => q) fun _ _ q => E.up u q
def PostV (T : Tab) (K : PySem.W.Frag) (μ : List Addr) (H : Hp) (Q : VK) (d : M3.D) (G' : M3.Hh) : Prop := ∀ v H' μ', Up μ μ' H H' → Sim T K μ' H' G' → Den K H' μ' d v → Q v H'
def PostB (T : Tab) (K : PySem.W.Frag) (μ : List Addr) (H : Hp) (Q : Bool → Hp → Prop) (b : Bool) (G' : M3.Hh) : Prop := ∀ H' μ', Up μ μ' H H' → Sim T K μ' H' G' → Q b H'
def PostA (T : Tab) (K : PySem.W.Frag) (μ : List Addr) (H : Hp) (Q : List V → Hp → Prop) (ds : List M3.D) (G' : M3.Hh) : Prop := ∀ vs H' μ', Up μ μ' H H' → Sim T K μ' H' G' → Dens K H' μ' ds vs → Q vs H'
def PostS (T : Tab) (K : PySem.W.Frag) (μ : List Addr) (H : Hp) (D : Ends) (r : M3.Fl × M3.St) (G' : M3.Hh) : Prop := ∀ σ' H' μ', Up μ μ' H H' → Sim T K μ' H' G' → StD K H' μ' r.2 σ' → match r.1 with
  | .next => D.nx σ' H'
  | .brk => D.bk σ' H'
  | .cont => D.ct σ' H'
  | .ret d => ∀ v, Den K H' μ' d v → D.rt v H'
section
variable {T : Tab} {K : PySem.W.Frag} {μ μ' : List Addr} {H H' : Hp} {G : M3.Hh}
theorem PostV.up {Q : VK} {d : M3.D} (u : Up μ μ' H H') (h : PostV T K μ H Q d G) : PostV T K μ' H' Q d G := fun v H2 μ2 u2 S r => h v H2 μ2 (u.trans u2) S r
theorem PostB.up {Q : Bool → Hp → Prop} {d : Bool} (u : Up μ μ' H H') (h : PostB T K μ H Q d G) : PostB T K μ' H' Q d G := fun H2 μ2 u2 S => h H2 μ2 (u.trans u2) S
theorem PostA.up {Q : List V → Hp → Prop} {d : List M3.D} (u : Up μ μ' H H') (h : PostA T K μ H Q d G) : PostA T K μ' H' Q d G := fun v H2 μ2 u2 S r => h v H2 μ2 (u.trans u2) S r
theorem PostS.up {D : Ends} {r : M3.Fl × M3.St} (u : Up μ μ' H H') (h : PostS T K μ H D r G) : PostS T K μ' H' D r G := fun v H2 μ2 u2 S r => h v H2 μ2 (u.trans u2) S r
end
def tE (T : Tab) (K : PySem.W.Frag) (Y : EX) (f : M3.E3) : TE := fun σ H Q => ∃ μ σ3 G, Sim T K μ H G ∧ StD K H μ σ3 σ ∧ M3.run (f σ3) G (PostV T K μ H Q) (Y.x μ H)
def tT (T : Tab) (K : PySem.W.Frag) (Y : EX) (f : M3.T3) : TT := fun σ H Q => ∃ μ σ3 G, Sim T K μ H G ∧ StD K H μ σ3 σ ∧ M3.run (f σ3) G (PostB T K μ H Q) (Y.x μ H)
def tA (T : Tab) (K : PySem.W.Frag) (Y : EX) (f : M3.A3) : TA := fun σ H Q => ∃ μ σ3 G, Sim T K μ H G ∧ StD K H μ σ3 σ ∧ M3.run (f σ3) G (PostA T K μ H Q) (Y.x μ H)
def tS (T : Tab) (K : PySem.W.Frag) (Y : EX) (f : M3.S3) : TS := fun D σ H => ∃ μ σ3 G, Sim T K μ H G ∧ StD K H μ σ3 σ ∧ M3.run (f σ3) G (PostS T K μ H D) (Y.x μ H)

/-- a step of the run, and its continuation one step up -/
theorem stepV {Y : EX} {α : Type} {T : Tab} {K : PySem.W.Frag} {μ : List Addr} {H : Hp} {m : M3.M M3.D} {k : M3.D → M3.M α} {G : M3.Hh} {P : α → M3.Hh → Prop} {R : VK} (h : M3.run (M3.bnd m k) G P (Y.x μ H))
    (f : ∀ d G1 v H1 μ1, Up μ μ1 H H1 → Sim T K μ1 H1 G1 → Den K H1 μ1 d v → M3.run (k d) G1 P (Y.x μ1 H1) → R v H1) : M3.run m G (PostV T K μ H R) (Y.x μ H) :=
  M3.run_mono (M3.run_bnd h) (fun d G1 q v H1 μ1 u S r => f d G1 v H1 μ1 u S r (Y.upE u q)) fun _ _ z => z
theorem stepB {Y : EX} {α : Type} {T : Tab} {K : PySem.W.Frag} {μ : List Addr} {H : Hp} {m : M3.M Bool} {k : Bool → M3.M α} {G : M3.Hh} {P : α → M3.Hh → Prop} {R : Bool → Hp → Prop} (h : M3.run (M3.bnd m k) G P (Y.x μ H))
    (f : ∀ b G1 H1 μ1, Up μ μ1 H H1 → Sim T K μ1 H1 G1 → M3.run (k b) G1 P (Y.x μ1 H1) → R b H1) : M3.run m G (PostB T K μ H R) (Y.x μ H) :=
  M3.run_mono (M3.run_bnd h) (fun d G1 q H1 μ1 u S => f d G1 H1 μ1 u S (Y.upE u q)) fun _ _ z => z
theorem stepA {Y : EX} {α : Type} {T : Tab} {K : PySem.W.Frag} {μ : List Addr} {H : Hp} {m : M3.M (List M3.D)} {k : List M3.D → M3.M α} {G : M3.Hh} {P : α → M3.Hh → Prop} {R : List V → Hp → Prop} (h : M3.run (M3.bnd m k) G P (Y.x μ H))
    (f : ∀ ds G1 vs H1 μ1, Up μ μ1 H H1 → Sim T K μ1 H1 G1 → Dens K H1 μ1 ds vs → M3.run (k ds) G1 P (Y.x μ1 H1) → R vs H1) : M3.run m G (PostA T K μ H R) (Y.x μ H) :=
  M3.run_mono (M3.run_bnd h) (fun d G1 q v H1 μ1 u S r => f d G1 v H1 μ1 u S r (Y.upE u q)) fun _ _ z => z
theorem runUp {α : Type} {m : M3.M α} {G : M3.Hh} {P P' : α → M3.Hh → Prop} {X : Nat → M3.Hh → Prop} (h : M3.run m G P X) (f : ∀ a G', P a G' → P' a G') : M3.run m G P' X := M3.run_mono h f fun _ _ z => z

section
variable {X : Cx} {T : Tab} {Y : EX} {a b e : Expr} {es : List Expr} {fa fb : M3.E3} {pos : Pos} {tt : M3.T3}
/-- from a reading of the layer to one of the machine's -/
theorem PE.of {t u : TE} (h : PE X e t) (f : ∀ σ H Q, u σ H Q → t σ H Q) : PE X e u := fun pins s σ H Q I q => h pins s σ H Q I (f σ H Q q)
theorem PT.of {t u : TT} (h : PT X e t) (f : ∀ σ H Q, u σ H Q → t σ H Q) : PT X e u := fun pins s σ H Q I q => h pins s σ H Q I (f σ H Q q)
theorem PW.of {t u : TT} (h : PW X e t) (f : ∀ σ H Q, u σ H Q → t σ H Q) : PW X e u := fun wh pins s σ H Q I q => h wh pins s σ H Q I (f σ H Q q)
theorem PA.of {t u : TA} (h : PA X es t) (f : ∀ σ H Q, u σ H Q → t σ H Q) : PA X es u := fun ps pins s σ H Q I q => h ps pins s σ H Q I (f σ H Q q)
theorem PS.of {st : Stmt} {t u : TS} (h : PS X st t) (f : ∀ D σ H, u D σ H → t D σ H) : PS X st u := fun pins s σ H D I q => h pins s σ H D I (f D σ H q)
theorem PSs.of {st : List Stmt} {t u : TS} (h : PSs X st t) (f : ∀ D σ H, u D σ H → t D σ H) : PSs X st u := fun pins s σ H D I q => h pins s σ H D I (f D σ H q)

theorem x_var (i : Nat) {x : Str} (hN : X.N[i]? = some x := by rfl) (hv : Vis X.env.scope x := by first | exact Or.inl rfl | exact Or.inr (Or.inl rfl) | exact Or.inr (Or.inr rfl)) (hd : (x == ("__debug__" : Str)) = false := by decide)
    (hcd : (x == ("__classdict__" : Str)) = false := by decide) : PE X (.Name x pos) (tE T X.K Y (M3.eVar i)) := by
  refine PE.of (pe_var hN hv hd hcd) fun σ H Q ⟨μ, σ3, G, S, sd, h⟩ => ?_
  unfold M3.eVar at h
  cases q : σ3[i]? with
  | none => rw [q] at h; exact False.elim h
  | some o =>
    rw [q] at h
    cases o with
    | none => exact False.elim h
    | some d =>
      obtain ⟨v, e, r⟩ := sd.at_ i d q
      exact ⟨v, e, h v H μ (Up.refl _ _) S r⟩
theorem x_const {d : M3.D} {v : V} (h : PE X e (tC v)) (hd : ∀ H μ, Den X.K H μ d v) : PE X e (tE T X.K Y (M3.eC d)) :=
  PE.of h fun σ H Q ⟨μ, σ3, G, S, sd, q⟩ => q v H μ (Up.refl _ _) S (hd H μ)
theorem x_int {i j} : PE X (.Constant (.int i) j pos) (tE T X.K Y (M3.eC (.int i))) := x_const pe_int fun _ _ => rfl
theorem x_bl {c j} : PE X (.Constant (.bool c) j pos) (tE T X.K Y (M3.eC (.bl c))) := x_const pe_bl fun _ _ => rfl
theorem x_non {j} : PE X (.Constant .none j pos) (tE T X.K Y (M3.eC .non)) := x_const pe_non fun _ _ => rfl
theorem x_str {x j} : PE X (.Constant (.str x) j pos) (tE T X.K Y (M3.eC (.str x))) := x_const pe_str fun _ _ => rfl

/-- two values in, by the layer's rule r -/
def Br2 (T : Tab) (K : PySem.W.Frag) (Y : EX) (g : M3.D → M3.D → M3.M M3.D) (r : R2) : Prop :=
  ∀ μ H G x y v w Q, Sim T K μ H G → Den K H μ x v → Den K H μ y w → M3.run (g x y) G (PostV T K μ H Q) (Y.x μ H) → r v w H Q
theorem t_op {g : M3.D → M3.D → M3.M M3.D} {r : R2} {K : PySem.W.Frag} (br : Br2 T K Y g r) {σ : L2.St} {H : Hp} {Q : VK} (h : tE T K Y (M3.eOp g fa fb) σ H Q) : tOp r (tE T K Y fa) (tE T K Y fb) σ H Q := by
  obtain ⟨μ, σ3, G, S, sd, h⟩ := h
  refine ⟨μ, σ3, G, S, sd, stepV h fun x G1 v H1 μ1 u1 S1 d1 h1 => ⟨μ1, σ3, G1, S1, sd.up u1, stepV h1 fun y G2 w H2 μ2 u2 S2 d2 h2 => ?_⟩⟩
  exact br μ2 H2 G2 x y v w Q S2 (Den.up u2 d1) d2 (runUp h2 fun _ _ q => q.up (u1.trans u2))
theorem x_op {op : Operator} {g : M3.D → M3.D → M3.M M3.D} {r : R2} (br : OpR X (binaryOp op) r ∧ Br2 T X.K Y g r) (ha : PE X a (tE T X.K Y fa)) (hb : PE X b (tE T X.K Y fb)) : PE X (.BinOp a op b pos) (tE T X.K Y (M3.eOp g fa fb)) :=
  PE.of (pe_op br.1 ha hb) fun _ _ _ h => t_op br.2 h
theorem x_cmp {op : CmpOp} {g : M3.D → M3.D → M3.M M3.D} {r : R2} (br : OpR X (compareOp op) r ∧ Br2 T X.K Y g r) (ha : PE X a (tE T X.K Y fa)) (hb : PE X b (tE T X.K Y fb)) (hm : behindInMarks op b = false) : PE X (.Compare a [op] [b] pos) (tE T X.K Y (M3.eOp g fa fb)) :=
  PE.of (pe_cmpR br.1 ha hb hm) fun _ _ _ h => t_op br.2 h
theorem asB_of {x : M3.D} {G : M3.Hh} {P : Bool → M3.Hh → Prop} {Z : Nat → M3.Hh → Prop} (h : M3.run (M3.asB x) G P Z) : ∃ c, x = .bl c ∧ P c G := by
  cases x with
  | bl c => exact ⟨c, rfl, h⟩
  | _ => exact False.elim h
/-- a value that is a bool, as the layer reads a test -/
theorem t_test {K : PySem.W.Frag} {f : M3.E3} {σ : L2.St} {H : Hp} {Q : Bool → Hp → Prop} (h : tT T K Y (M3.tB f) σ H Q) : tTest (tE T K Y f) σ H Q := by
  obtain ⟨μ, σ3, G, S, sd, h⟩ := h
  refine ⟨μ, σ3, G, S, sd, stepV h fun x G1 v H1 μ1 u1 S1 d1 h1 => ?_⟩
  obtain ⟨c, rfl, q⟩ := asB_of h1
  exact ⟨c, d1, q H1 μ1 u1 S1⟩
theorem t_cmp {op : CmpOp} {g : M3.D → M3.D → M3.M M3.D} {r : R2} (br : OpR X (compareOp op) r ∧ Br2 T X.K Y g r) (ha : PE X a (tE T X.K Y fa)) (hb : PE X b (tE T X.K Y fb)) (hm : behindInMarks op b = false) : PT X (.Compare a [op] [b] pos) (tT T X.K Y (M3.tB (M3.eOp g fa fb))) := by
  refine PT.of (pt_cmpR br.1 ha hb hm) fun σ H Q h => ?_
  obtain ⟨μ, σ3, G, S, sd, h⟩ := t_test h
  exact t_op br.2 ⟨μ, σ3, G, S, sd, h⟩
end
end L3

namespace L3
open PySem PySem.Spec PyProof.Rows L2

theorem sizeL_eq : M3.sizeL = sizeLine := by rw [sizeLine_eq]; rfl

section
variable {X : Cx} {T : Tab} {Y : EX} {a b e : Expr} {es : List Expr} {fa fb : M3.E3} {ta tb : M3.T3} {f3 : M3.A3} {pos : Pos} {rest : List Expr}

/-! and, or, not -/
theorem x_one {op} {f : M3.E3} (h : PE X a (tE T X.K Y f)) : PE X (.BoolOp op [a] pos) (tE T X.K Y f) := pe_one h
theorem x_and (ha : PE X a (tE T X.K Y fa)) (hb : PE X (.BoolOp .And (b :: rest) pos) (tE T X.K Y fb)) : PE X (.BoolOp .And (a :: b :: rest) pos) (tE T X.K Y (M3.eAnd fa fb)) := by
  refine PE.of (pe_and ha hb) fun σ H Q ⟨μ, σ3, G, S, sd, h⟩ => ⟨μ, σ3, G, S, sd, stepV h fun x G1 v H1 μ1 u1 S1 d1 h1 => ?_⟩
  obtain ⟨c, rfl, q⟩ := asB_of (M3.run_bnd h1)
  refine ⟨c, d1, ?_⟩
  cases c with
  | true => exact ⟨μ1, σ3, G1, S1, sd.up u1, runUp q fun _ _ z => z.up u1⟩
  | false => exact q _ H1 μ1 u1 S1 rfl
theorem x_or (ha : PE X a (tE T X.K Y fa)) (hb : PE X (.BoolOp .Or (b :: rest) pos) (tE T X.K Y fb)) : PE X (.BoolOp .Or (a :: b :: rest) pos) (tE T X.K Y (M3.eOr fa fb)) := by
  refine PE.of (pe_or ha hb) fun σ H Q ⟨μ, σ3, G, S, sd, h⟩ => ⟨μ, σ3, G, S, sd, stepV h fun x G1 v H1 μ1 u1 S1 d1 h1 => ?_⟩
  obtain ⟨c, rfl, q⟩ := asB_of (M3.run_bnd h1)
  refine ⟨c, d1, ?_⟩
  cases c with
  | true => exact q _ H1 μ1 u1 S1 rfl
  | false => exact ⟨μ1, σ3, G1, S1, sd.up u1, runUp q fun _ _ z => z.up u1⟩
theorem x_not (ha : PE X a (tE T X.K Y fa)) : PE X (.UnaryOp .Not a pos) (tE T X.K Y (M3.eNot fa)) := by
  refine PE.of (pe_not ha) fun σ H Q ⟨μ, σ3, G, S, sd, h⟩ => ⟨μ, σ3, G, S, sd, stepV h fun x G1 v H1 μ1 u1 S1 d1 h1 => ?_⟩
  obtain ⟨c, rfl, q⟩ := asB_of (M3.run_bnd h1)
  exact ⟨c, d1, q _ H1 μ1 u1 S1 rfl⟩
theorem x_isN {j pos'} (ha : PE X a (tE T X.K Y fa)) : PE X (.Compare a [.Is] [.Constant .none j pos'] pos) (tE T X.K Y (M3.eUn M3.oIsN fa)) := by
  refine PE.of (pe_cmp (pc_isN ha)) fun σ H Q ⟨μ, σ3, G, S, sd, h⟩ => ⟨μ, σ3, G, S, sd, stepV h fun x G1 v H1 μ1 u1 S1 d1 h1 => ?_⟩
  refine h1 _ H1 μ1 u1 S1 ?_
  cases x with
  | non => cases (show v = .non from d1); rfl
  | bl b => cases (show v = .bl b from d1); rfl
  | int b => cases (show v = .int b from d1); rfl
  | str b => cases (show v = .str b from d1); rfl
  | ref n => obtain ⟨_, _, rfl⟩ := d1; rfl
  | tup ds => obtain ⟨_, _, rfl, _⟩ := d1; rfl
theorem x_notN {j pos'} (ha : PE X a (tE T X.K Y fa)) : PE X (.Compare a [.IsNot] [.Constant .none j pos'] pos) (tE T X.K Y (M3.eUn M3.oNotN fa)) := by
  refine PE.of (pe_cmp (pc_notN ha)) fun σ H Q ⟨μ, σ3, G, S, sd, h⟩ => ⟨μ, σ3, G, S, sd, stepV h fun x G1 v H1 μ1 u1 S1 d1 h1 => ?_⟩
  refine h1 _ H1 μ1 u1 S1 ?_
  cases x with
  | non => cases (show v = .non from d1); rfl
  | bl b => cases (show v = .bl b from d1); rfl
  | int b => cases (show v = .int b from d1); rfl
  | str b => cases (show v = .str b from d1); rfl
  | ref n => obtain ⟨_, _, rfl⟩ := d1; rfl
  | tup ds => obtain ⟨_, _, rfl, _⟩ := d1; rfl

/-! tests -/
theorem w_and1 (ha : PT X a (tT T X.K Y ta)) : PW X (.BoolOp .And [a] pos) (tT T X.K Y ta) := pw_and1 ha
theorem w_or1 (ha : PT X a (tT T X.K Y ta)) : PW X (.BoolOp .Or [a] pos) (tT T X.K Y ta) := pw_or1 ha
theorem w_and (ha : PT X a (tT T X.K Y ta)) (hb : PW X (.BoolOp .And (b :: rest) pos) (tT T X.K Y tb)) : PW X (.BoolOp .And (a :: b :: rest) pos) (tT T X.K Y (M3.tAnd ta tb)) := by
  refine PW.of (pw_and ha hb) fun σ H Q ⟨μ, σ3, G, S, sd, h⟩ => ⟨μ, σ3, G, S, sd, stepB h fun c G1 H1 μ1 u1 S1 h1 => ?_⟩
  cases c with
  | true => exact ⟨μ1, σ3, G1, S1, sd.up u1, runUp h1 fun _ _ z => z.up u1⟩
  | false => exact h1 H1 μ1 u1 S1
theorem w_or (ha : PT X a (tT T X.K Y ta)) (hb : PW X (.BoolOp .Or (b :: rest) pos) (tT T X.K Y tb)) : PW X (.BoolOp .Or (a :: b :: rest) pos) (tT T X.K Y (M3.tOr ta tb)) := by
  refine PW.of (pw_or ha hb) fun σ H Q ⟨μ, σ3, G, S, sd, h⟩ => ⟨μ, σ3, G, S, sd, stepB h fun c G1 H1 μ1 u1 S1 h1 => ?_⟩
  cases c with
  | true => exact h1 H1 μ1 u1 S1
  | false => exact ⟨μ1, σ3, G1, S1, sd.up u1, runUp h1 fun _ _ z => z.up u1⟩
theorem t_not (ha : PT X a (tT T X.K Y ta)) : PT X (.UnaryOp .Not a pos) (tT T X.K Y (M3.tNot ta)) := by
  refine PT.of (pt_not ha) fun σ H Q ⟨μ, σ3, G, S, sd, h⟩ => ⟨μ, σ3, G, S, sd, stepB h fun c G1 H1 μ1 u1 S1 h1 => ?_⟩
  exact h1 H1 μ1 u1 S1
theorem tru_of {Z : Nat → M3.Hh → Prop} {K : PySem.W.Frag} {μ : List Addr} {H : Hp} {G : M3.Hh} {x : M3.D} {v : V} {P : Bool → M3.Hh → Prop} (S : Sim T K μ H G) (d : Den K H μ x v) (h : M3.run (M3.truth x) G P Z) : ∃ k, TruV K v H k ∧ P k G := by
  cases x with
  | non => cases (show v = .non from d); exact ⟨false, rfl, h⟩
  | bl b => cases (show v = .bl b from d); exact ⟨b, rfl, h⟩
  | int b => cases (show v = .int b from d); exact ⟨_, rfl, h⟩
  | str b =>
    cases (show v = .str b from d)
    unfold M3.run M3.truth at h
    dsimp only at h
    by_cases hl : b.length ≤ M3.sizeL
    · rw [if_pos hl] at h
      refine ⟨b.length != 0, ⟨by rw [← sizeL_eq]; exact hl, ?_⟩, h⟩
      cases q : b.length with
      | zero => rfl
      | succ n => rfl
    · rw [if_neg hl] at h
      exact False.elim h
  | tup ds =>
    obtain ⟨a, vs, rfl, sq, r⟩ := d
    refine ⟨!ds.isEmpty, .inr (.inl ⟨vs, sq, ?_⟩), h⟩
    have := r.length
    cases ds <;> cases vs <;> simp_all
  | ref n =>
    obtain ⟨a, e, rfl⟩ := d
    unfold M3.run M3.truth at h
    dsimp only at h
    cases q : G[n]? with
    | none => rw [q] at h; exact False.elim h
    | some o =>
      rw [q] at h
      have ob := S.obj n a o e q
      cases o with
      | lst xs =>
        obtain ⟨vs, e1, r⟩ := ob
        refine ⟨_, .inl ⟨vs, SqL.of e1, rfl⟩, ?_⟩
        have := r.length
        cases xs <;> cases vs <;> simp_all
      | frz xs =>
        obtain ⟨vs, e1, r⟩ := ob
        refine ⟨_, .inl ⟨vs, e1.sq, rfl⟩, ?_⟩
        have := r.length
        cases xs <;> cases vs <;> simp_all
      | dK kvs =>
        obtain ⟨ws, e1, r⟩ := ob
        refine ⟨_, .inr (.inr ⟨ws, e1, rfl⟩), ?_⟩
        have := Paired.length r
        cases kvs <;> cases ws <;> simp_all
      | dT kvs => exact False.elim h
      | ins C fs => exact False.elim h
/-- a value as a test -/
theorem t_of {f : M3.E3} (h : PE X e (tE T X.K Y f)) (he : ∀ whole, isTrue e X.env whole = (do let v ← whole; standAt e.pos; holding [v] (truthy v)) := by intro _; rfl) : PT X e (tT T X.K Y (M3.tOf f)) := by
  refine PT.of (pt_truth h he) fun σ H Q ⟨μ, σ3, G, S, sd, h⟩ => ⟨μ, σ3, G, S, sd, stepV h fun x G1 v H1 μ1 u1 S1 d1 h1 => ?_⟩
  obtain ⟨k, t, q⟩ := tru_of S1 d1 h1
  exact ⟨k, t, q H1 μ1 u1 S1⟩
theorem x_if {c : Expr} (hc : PT X c (tT T X.K Y ta)) (ha : PE X a (tE T X.K Y fa)) (hb : PE X b (tE T X.K Y fb)) : PE X (.IfExp c a b pos) (tE T X.K Y (M3.eIf ta fa fb)) := by
  refine PE.of (pe_ifExp hc ha hb) fun σ H Q ⟨μ, σ3, G, S, sd, h⟩ => ⟨μ, σ3, G, S, sd, stepB h fun c G1 H1 μ1 u1 S1 h1 => ?_⟩
  cases c with
  | true => exact ⟨μ1, σ3, G1, S1, sd.up u1, runUp h1 fun _ _ z => z.up u1⟩
  | false => exact ⟨μ1, σ3, G1, S1, sd.up u1, runUp h1 fun _ _ z => z.up u1⟩

/-! argument lists, displays -/
theorem a_nil : PA X [] (tA T X.K Y M3.aNil) := PA.of pa_nil fun σ H Q ⟨μ, σ3, G, S, sd, h⟩ => h [] H μ (Up.refl _ _) S rfl
theorem a_cons {r : M3.A3} (ha : PE X e (tE T X.K Y fa)) (hr : PA X es (tA T X.K Y r)) (hs : starEach (e :: es) X.env = (false, eval e X.env) :: starEach es X.env := by rfl) : PA X (e :: es) (tA T X.K Y (M3.aCons fa r)) := by
  refine PA.of (pa_cons ha hr hs) fun σ H Q ⟨μ, σ3, G, S, sd, h⟩ => ⟨μ, σ3, G, S, sd, stepV h fun x G1 v H1 μ1 u1 S1 d1 h1 => ⟨μ1, σ3, G1, S1, sd.up u1, stepA h1 fun xs G2 vs H2 μ2 u2 S2 d2 h2 => ?_⟩⟩
  exact h2 _ H2 μ2 (u1.trans u2) S2 ⟨v, vs, rfl, Den.up u2 d1, d2⟩
theorem x_tup {x1} (h : PA X es (tA T X.K Y f3)) : PE X (.Tuple es x1 pos) (tE T X.K Y (M3.eTup f3)) := by
  refine PE.of (pe_tup h) fun σ H Q ⟨μ, σ3, G, S, sd, h⟩ => ⟨μ, σ3, G, S, sd, stepA h fun xs G1 vs H1 μ1 u1 S1 d1 h1 => ?_⟩
  by_cases hl : xs.length ≤ M3.sizeL
  · rw [if_pos hl] at h1
    refine ⟨by rw [← d1.length, ← sizeL_eq]; exact hl, fun p hp => ?_⟩
    have u2 : Up μ1 μ1 H1 (upd H1 p (.tup vs)) := Up.same (Same.new _ hp)
    exact h1 _ _ μ1 (u1.trans u2) (S1.same (Same.new _ hp)) ⟨p, vs, rfl, SqT.of upd_same, Dens.up u2 d1⟩
  · rw [if_neg hl] at h1; exact False.elim h1
theorem x_lst (h : PA X es (tA T X.K Y f3)) : PE X (.List es pos) (tE T X.K Y (M3.eLst f3)) := by
  refine PE.of (pe_lst h) fun σ H Q ⟨μ, σ3, G, S, sd, h⟩ => ⟨μ, σ3, G, S, sd, stepA h fun xs G1 vs H1 μ1 u1 S1 d1 h1 => ?_⟩
  by_cases hl : xs.length ≤ M3.sizeL
  · rw [if_pos hl] at h1
    refine ⟨by rw [← d1.length, ← sizeL_eq]; exact hl, fun p hp => ?_⟩
    have u2 := Up.new (μ := μ1) (.lst vs) hp
    refine h1 _ _ (μ1 ++ [p]) (u1.trans u2) (S1.new hp rfl ⟨vs, upd_same, Dens.up u2 d1⟩) ⟨p, ?_, rfl⟩
    rw [← S1.len]; simp
  · rw [if_neg hl] at h1; exact False.elim h1

/-! statements -/
theorem y_nil : PSs X [] (tS T X.K Y M3.sNil) := PSs.of pss_nil fun D σ H ⟨μ, σ3, G, S, sd, h⟩ => h σ H μ (Up.refl _ _) S sd
theorem y_pass : PS X (.Pass pos) (tS T X.K Y M3.sNil) := PS.of ps_pass fun D σ H ⟨μ, σ3, G, S, sd, h⟩ => h σ H μ (Up.refl _ _) S sd
theorem y_one {st : Stmt} {f : M3.S3} (h : PS X st (tS T X.K Y f)) : PSs X [st] (tS T X.K Y f) := pss_one h
theorem y_cons {st : Stmt} {sts : List Stmt} {f g : M3.S3} (h1 : PS X st (tS T X.K Y f)) (h2 : PSs X sts (tS T X.K Y g)) : PSs X (st :: sts) (tS T X.K Y (M3.sSeq f g)) := by
  refine PSs.of (pss_cons h1 h2) fun D σ H ⟨μ, σ3, G, S, sd, h⟩ => ⟨μ, σ3, G, S, sd, runUp (M3.run_bnd h) fun r G1 q σ1 H1 μ1 u1 S1 sd1 => ?_⟩
  obtain ⟨fl, σ2⟩ := r
  cases fl with
  | next => exact ⟨μ1, σ2, G1, S1, sd1, runUp (Y.upE u1 q) fun _ _ z => z.up u1⟩
  | brk => exact q σ1 H1 μ1 u1 S1 sd1
  | cont => exact q σ1 H1 μ1 u1 S1 sd1
  | ret d => exact q σ1 H1 μ1 u1 S1 sd1
theorem y_set {i : Nat} {x : Str} {pos' : Pos} (hN : X.N.Nodup) (hi : X.N[i]? = some x) (hx : Loc X.env.scope x) (he : PE X e (tE T X.K Y fa)) (hs : swapsWith e (some (.Name x pos')) pos.line X.env = pure false := by rfl) (hf : X.fn x = true ∨ X.env.scope.names.lookup x = some .local := by first | exact .inl rfl | exact .inr rfl | assumption) :
    PS X (.Assign [.Name x pos'] e pos) (tS T X.K Y (M3.sSet i fa)) := by
  refine PS.of (ps_set hN hi hx he hs hf) fun D σ H ⟨μ, σ3, G, S, sd, h⟩ => ⟨μ, σ3, G, S, sd, stepV h fun d G1 v H1 μ1 u1 S1 d1 h1 => ?_⟩
  exact h1 _ H1 μ1 u1 S1 ((sd.up u1).set i d1)
theorem y_expr (he : PE X e (tE T X.K Y fa)) (hs : swapsWith e none pos.line X.env = pure false := by rfl) : PS X (.Expr e pos) (tS T X.K Y (M3.sExpr fa)) := by
  refine PS.of (ps_expr he hs) fun D σ H ⟨μ, σ3, G, S, sd, h⟩ => ⟨μ, σ3, G, S, sd, stepV h fun d G1 v H1 μ1 u1 S1 d1 h1 => ?_⟩
  exact h1 _ H1 μ1 u1 S1 (sd.up u1)
theorem y_ret (he : PE X e (tE T X.K Y fa)) : PS X (.Return (some e) pos) (tS T X.K Y (M3.sRet fa)) := by
  refine PS.of (ps_ret he) fun D σ H ⟨μ, σ3, G, S, sd, h⟩ => ⟨μ, σ3, G, S, sd, stepV h fun d G1 v H1 μ1 u1 S1 d1 h1 => ?_⟩
  exact h1 _ H1 μ1 u1 S1 (sd.up u1) v d1
theorem y_retN : PS X (.Return none pos) (tS T X.K Y (M3.sRet (M3.eC .non))) := PS.of ps_retN fun D σ H ⟨μ, σ3, G, S, sd, h⟩ => h σ H μ (Up.refl _ _) S sd .non rfl
theorem y_if {c : Expr} {p q : List Stmt} {f g : M3.S3} (hc : PT X c (tT T X.K Y ta)) (ha : PSs X p (tS T X.K Y f)) (hb : PSs X q (tS T X.K Y g)) : PS X (.If c p q pos) (tS T X.K Y (M3.sIf ta f g)) := by
  refine PS.of (ps_if hc ha hb) fun D σ H ⟨μ, σ3, G, S, sd, h⟩ => ⟨μ, σ3, G, S, sd, stepB h fun c G1 H1 μ1 u1 S1 h1 => ?_⟩
  cases c with
  | true => exact ⟨μ1, σ3, G1, S1, sd.up u1, runUp h1 fun _ _ z => z.up u1⟩
  | false => exact ⟨μ1, σ3, G1, S1, sd.up u1, runUp h1 fun _ _ z => z.up u1⟩

/-! targets -/
def PostG (T : Tab) (K : PySem.W.Frag) (μ : List Addr) (H : Hp) (Q : L2.St → Hp → Prop) (σ3 : M3.St) (G' : M3.Hh) : Prop := ∀ σ' H' μ', Up μ μ' H H' → Sim T K μ' H' G' → StD K H' μ' σ3 σ' → Q σ' H'
def tG (T : Tab) (K : PySem.W.Frag) (Y : EX) (g : M3.D → M3.St → M3.M M3.St) : TG := fun v σ H Q => ∃ μ σ3 G d, Sim T K μ H G ∧ StD K H μ σ3 σ ∧ Den K H μ d v ∧ M3.run (g d σ3) G (PostG T K μ H Q) (Y.x μ H)
theorem PG.of {tg : Expr} {t u : TG} (h : PG X tg t) (f : ∀ v σ H Q, u v σ H Q → t v σ H Q) : PG X tg u := fun pins s σ H v w Q I r q => h pins s σ H v w Q I r (f v σ H Q q)
theorem g_nm {i : Nat} {x : Str} (hN : X.N.Nodup) (hi : X.N[i]? = some x) (hx : Loc X.env.scope x) (hf : X.fn x = true ∨ X.env.scope.names.lookup x = some .local := by first | exact .inl rfl | exact .inr rfl | assumption) : PG X (.Name x pos) (tG T X.K Y (M3.gNm i)) :=
  PG.of (pg_name hN hi hx hf) fun v σ H Q ⟨μ, σ3, G, d, S, sd, r, h⟩ => h _ H μ (Up.refl _ _) S (sd.set i r)
/-- names one after another -/
def tGs (K : PySem.W.Frag) (is : List Nat) : TGs := fun vs σ H Q => ∃ μ σ3 ds σ3', StD K H μ σ3 σ ∧ Dens K H μ ds vs ∧ M3.setAll is ds σ3 = some σ3' ∧ ∀ σ', StD K H μ σ3' σ' → Q σ' H
theorem PGs.of {ts : List Expr} {t u : TGs} (h : PGs X ts t) (f : ∀ v σ H Q, u v σ H Q → t v σ H Q) : PGs X ts u := fun pins s σ H v w Q I r q => h pins s σ H v w Q I r (f v σ H Q q)
theorem g_nil : PGs X [] (tGs X.K []) := by
  refine PGs.of pgs_nil fun vs σ H Q ⟨μ, σ3, ds, σ3', sd, r, e, h⟩ => ?_
  cases ds with
  | nil =>
    cases e
    exact ⟨r, h σ sd⟩
  | cons d t => cases e
theorem g_cons {i : Nat} {is : List Nat} {x : Str} {ts : List Expr} (hN : X.N.Nodup) (hi : X.N[i]? = some x) (hx : Loc X.env.scope x) (ht : PGs X ts (tGs X.K is)) (hf : X.fn x = true ∨ X.env.scope.names.lookup x = some .local := by first | exact .inl rfl | exact .inr rfl | assumption)
    (hs : (assignEach (.Name x pos :: ts) X.env).map (·.2) = assign (.Name x pos) X.env :: (assignEach ts X.env).map (·.2) := by rfl) : PGs X (.Name x pos :: ts) (tGs X.K (i :: is)) := by
  refine PGs.of (pgs_cons (pg_name hN hi hx hf) ht hs) fun vs σ H Q ⟨μ, σ3, ds, σ3', sd, r, e, h⟩ => ?_
  cases ds with
  | nil => cases e
  | cons d t =>
    obtain ⟨v, rv, rfl, d1, d2⟩ := r
    exact ⟨v, rv, rfl, μ, σ3.set i (some d), t, σ3', sd.set i d1, d2, e, h⟩
theorem setAll_len : ∀ {is : List Nat} {ds : List M3.D} {σ σ' : M3.St}, M3.setAll is ds σ = some σ' → ds.length = is.length
  | [], [], _, _, _ => rfl
  | [], _ :: _, _, _, h => by cases h
  | _ :: _, [], _, _, h => by cases h
  | i :: r, d :: t, _, _, h => by
    have := setAll_len (is := r) (ds := t) h
    simp [this]
theorem g_un {ts : List Expr} {k : Nat} {is : List Nat} (hc : X.calm = true) (h : PGs X ts (tGs X.K is)) (hn : (assignEach ts X.env).length = is.length := by rfl) (hst : (assignEach ts X.env).findIdx? (·.1) = none := by rfl) : PG X (.Tuple ts k pos) (tG T X.K Y (M3.gUn is)) := by
  refine PG.of (pg_tup hc h hn hst) fun v σ H Q ⟨μ, σ3, G, d, S, sd, r, h⟩ => ?_
  cases d with
  | tup ds =>
    obtain ⟨a, vs, rfl, sq, r⟩ := r
    unfold M3.gUn at h
    dsimp only at h
    cases q : M3.setAll is ds σ3 with
    | none => rw [q] at h; exact False.elim h
    | some σ3' =>
      rw [q] at h
      refine ⟨a, vs, rfl, sq, by rw [← r.length]; exact setAll_len q, μ, σ3, ds, σ3', sd, r, q, fun σ' sd' => h σ' H μ (Up.refl _ _) S sd'⟩
  | _ => exact False.elim h
theorem y_un {tg : Expr} {is : List Nat} (he : PE X e (tE T X.K Y fa)) (hg : PG X tg (tG T X.K Y (M3.gUn is))) (hs : swapsWithSole [tg] e pos.line X.env = pure false := by rfl) (hw : swappedStores [tg] e X.env = pure none := by rfl)
    (h1 : (assignEach [tg] X.env).map (·.2) = [assign tg X.env] := by rfl) : PS X (.Assign [tg] e pos) (tS T X.K Y (M3.sUn is fa)) := by
  refine PS.of (ps_asg he hg hs hw h1) fun D σ H ⟨μ, σ3, G, S, sd, h⟩ => ⟨μ, σ3, G, S, sd, stepV h fun d G1 v H1 μ1 u1 S1 d1 h1 => ?_⟩
  refine ⟨μ1, σ3, G1, d, S1, sd.up u1, d1, runUp (M3.run_bnd h1) fun σ4 G2 q σ' H' μ' u' S' sd' => ?_⟩
  exact q σ' H' μ' (u1.trans u') S' sd'
end
end L3

namespace L3
open PySem PySem.Spec PyProof.Rows L2
section
variable {X : Cx} {T : Tab} {Y : EX} {a b e : Expr} {es : List Expr} {fa fb : M3.E3} {ta tb : M3.T3} {f3 : M3.A3} {pos : Pos} {rest : List Expr}

/-! operations -/
theorem runIf {Z : Nat → M3.Hh → Prop} {c : Prop} [Decidable c] {α : Type} {m : M3.M α} {G : M3.Hh} {P : α → M3.Hh → Prop} (h : M3.run (if c then m else M3.fail) G P Z) : c ∧ M3.run m G P Z := by
  by_cases hc : c
  · rw [if_pos hc] at h; exact ⟨hc, h⟩
  · rw [if_neg hc] at h; exact False.elim h

theorem br_oSub : OpR X (binaryOp .Sub) (rI0 fun i j => .int (i - j)) ∧ Br2 T X.K Y M3.oSub (rI0 fun i j => .int (i - j)) := ⟨op_sub, by
  intro μ H G x y v w Q S dx dy h
  cases x with
  | int i => cases y with
    | int j => exact ⟨i, j, dx, dy, h _ H μ (Up.refl _ _) S rfl⟩
    | _ => exact False.elim h
  | _ => exact False.elim h⟩
theorem small_of {i : Int} (h : M3.small i = true) : -(2 ^ 64) < i ∧ i < 2 ^ 64 := of_decide_eq_true h
/-- a text some times -/
theorem op_mulS : OpR X (binaryOp .Mult) (fun x y H Q => ∃ s k, x = .str s ∧ y = .int k ∧ (0 ≤ k ∧ k ≤ 1000 ∧ s.length ≤ 1000) ∧ Q (.str (Txt.mul s k)) H) := by
  intro pins s σ H x y v u Q I rx ry h
  obtain ⟨z, k, rfl, rfl, ⟨h0, h1, h2⟩, q⟩ := h
  obtain ⟨t, rfl⟩ := rx
  obtain ⟨t', rfl⟩ := ry
  refine SB.mul ⟨?_, fun _ _ => ?_, fun _ _ => ?_⟩ fun t' tk => ⟨.str _, H, I.tok _, ⟨_, rfl⟩, q⟩
  · rw [decide_eq_false (by omega), decide_eq_false (by omega)]; rfl
  · rename_i hk _
    have hk' : 0 < k := by omega
    have h3 : (z.length : Int) * k ≤ 1000 * 1000 := Int.mul_le_mul (by omega) h1 h0 (by decide)
    have := Int.le_ediv_of_mul_le hk' (show (z.length : Int) * k ≤ 2 ^ 63 - 1 by omega)
    omega
  · have h3 : z.length * k.toNat ≤ 1000 * 1000 := Nat.mul_le_mul h2 (by omega)
    have h4 : sizeLine = 16777216 := sizeLine_eq
    show decide (z.length * k.toNat > sizeLine) = false
    exact decide_eq_false (by omega)
def rMulD : R2 := fun x y H Q => rI CMul (fun i j => .int (i * j)) x y H Q ∨ ∃ s k, x = .str s ∧ y = .int k ∧ (0 ≤ k ∧ k ≤ 1000 ∧ s.length ≤ 1000) ∧ Q (.str (Txt.mul s k)) H
theorem br_oMul : OpR X (binaryOp .Mult) rMulD ∧ Br2 T X.K Y M3.oMul rMulD := ⟨op_mul.or op_mulS, by
  intro μ H G x y v w Q S dx dy h
  cases x with
  | int i => cases y with
    | int j =>
      obtain ⟨c, h⟩ := runIf (c := (M3.small i || M3.small j) = true) h
      refine .inl ⟨i, j, dx, dy, ?_, h _ H μ (Up.refl _ _) S rfl⟩
      rcases Bool.or_eq_true _ _ |>.mp c with c | c
      · exact .inl (small_of c)
      · exact .inr (small_of c)
    | _ => exact False.elim h
  | str s => cases y with
    | int k =>
      obtain ⟨c, h⟩ := runIf (c := 0 ≤ k ∧ k ≤ 1000 ∧ s.length ≤ 1000) h
      exact .inr ⟨s, k, dx, dy, c, h _ H μ (Up.refl _ _) S rfl⟩
    | _ => exact False.elim h
  | _ => exact False.elim h⟩
theorem br_oMod : OpR X (binaryOp .Mod) (rI (fun _ j => 0 < j) fun i j => .int (i % j)) ∧ Br2 T X.K Y M3.oMod (rI (fun _ j => 0 < j) fun i j => .int (i % j)) := ⟨op_mod, by
  intro μ H G x y v w Q S dx dy h
  cases x with
  | int i => cases y with
    | int j =>
      obtain ⟨c, h⟩ := runIf (c := 0 < j) h
      exact ⟨i, j, dx, dy, c, h _ H μ (Up.refl _ _) S rfl⟩
    | _ => exact False.elim h
  | _ => exact False.elim h⟩
theorem br_oDiv : OpR X (binaryOp .FloorDiv) (rI CDiv fun i j => .int (i / j)) ∧ Br2 T X.K Y M3.oDiv (rI CDiv fun i j => .int (i / j)) := ⟨op_fdiv, by
  intro μ H G x y v w Q S dx dy h
  cases x with
  | int i => cases y with
    | int j =>
      obtain ⟨c, h⟩ := runIf (c := 0 < j ∧ j < 1073741824) h
      exact ⟨i, j, dx, dy, c, h _ H μ (Up.refl _ _) S rfl⟩
    | _ => exact False.elim h
  | _ => exact False.elim h⟩
def rAddD (K : PySem.W.Frag) : R2 := fun x y H Q => rI0 (fun i j => .int (i + j)) x y H Q ∨ (fun x y H Q => (∃ i j, x = .str i ∧ y = .str j ∧ i.length + j.length ≤ sizeLine ∧ Q (.str (i ++ j)) H) ∨ (fun x y H Q => rCatT K x y H Q ∨ rCat x y H Q) x y H Q) x y H Q
theorem br_oAdd : OpR X (binaryOp .Add) (rAddD X.K) ∧ Br2 T X.K Y M3.oAdd (rAddD X.K) := ⟨op_add.or (op_add_str.or (op_catT.or op_cat)), by
  intro μ H G x y v w Q S dx dy h
  cases x with
  | int i => cases y with
    | int j => exact .inl ⟨i, j, dx, dy, h _ H μ (Up.refl _ _) S rfl⟩
    | _ => exact False.elim h
  | str p => cases y with
    | str q =>
      obtain ⟨c, h⟩ := runIf (c := p.length + q.length ≤ M3.sizeL) h
      exact .inr (.inl ⟨p, q, dx, dy, by rw [← sizeL_eq]; exact c, h _ H μ (Up.refl _ _) S rfl⟩)
    | _ => exact False.elim h
  | tup ds => cases y with
    | tup es =>
      obtain ⟨⟨c1, c2⟩, h⟩ := runIf (c := ds ≠ [] ∧ ds.length + es.length ≤ M3.sizeL) h
      obtain ⟨p, vs, rfl, sp, rp⟩ := dx
      obtain ⟨q, ws, rfl, sq, rq⟩ := dy
      refine .inr (.inr (.inl ⟨p, q, vs, ws, rfl, rfl, sp, sq, ?_, by rw [← rp.length, ← rq.length, ← sizeL_eq]; exact c2, fun z => ?_, fun z t ht => ?_⟩))
      · intro z; subst z
        cases ds with
        | nil => exact c1 rfl
        | cons d t => obtain ⟨_, _, e, _⟩ := rp; cases e
      · subst z
        refine h _ H μ (Up.refl _ _) S ⟨p, vs, rfl, sp, ?_⟩
        have : es = [] := by
          have := rq.length
          cases es with
          | nil => rfl
          | cons _ _ => simp at this
        subst this
        rw [List.append_nil]; exact rp
      · have u2 : Up μ μ H (upd H t (.tup (vs ++ ws))) := Up.same (Same.new _ ht)
        exact h _ _ μ u2 (S.same (Same.new _ ht)) ⟨t, _, rfl, SqT.of upd_same, Dens.up u2 (rp.append rq)⟩
    | _ => exact False.elim h
  | ref i => cases y with
    | ref j =>
      unfold M3.run M3.oAdd at h
      dsimp only at h
      cases q1 : G[i]? with
      | none => rw [q1] at h; exact False.elim h
      | some o1 =>
        cases o1 with
        | lst xs =>
          cases q2 : G[j]? with
          | none => rw [q1, q2] at h; exact False.elim h
          | some o2 =>
            cases o2 with
            | lst ys =>
              rw [q1, q2] at h
              dsimp only at h
              by_cases c : xs.length + ys.length ≤ M3.sizeL
              · rw [if_pos c] at h
                obtain ⟨p, ep, rfl⟩ := dx
                obtain ⟨q, eq, rfl⟩ := dy
                obtain ⟨vs, hp, rp⟩ := S.obj i p _ ep q1
                obtain ⟨ws, hq, rq⟩ := S.obj j q _ eq q2
                refine .inr (.inr (.inr ⟨p, q, vs, ws, rfl, rfl, hp, hq, by rw [← rp.length, ← rq.length, ← sizeL_eq]; exact c, fun t ht => ?_⟩))
                have u2 := Up.new (μ := μ) (.lst (vs ++ ws)) ht
                refine h _ _ (μ ++ [t]) u2 (S.new ht rfl ⟨_, upd_same, Dens.up u2 (rp.append rq)⟩) ⟨t, ?_, rfl⟩
                rw [← S.len]; simp
              · rw [if_neg c] at h; exact False.elim h
            | _ => rw [q1, q2] at h; exact False.elim h
        | _ => rw [q1] at h; exact False.elim h
    | _ => exact False.elim h
  | _ => exact False.elim h⟩
theorem br_oLe : OpR X (compareOp .LtE) (rI0 fun i j => .bl (decide (i ≤ j))) ∧ Br2 T X.K Y M3.oLe (rI0 fun i j => .bl (decide (i ≤ j))) := ⟨op_le, by
  intro μ H G x y v w Q S dx dy h
  cases x with
  | int i => cases y with
    | int j => exact ⟨i, j, dx, dy, h _ H μ (Up.refl _ _) S rfl⟩
    | _ => exact False.elim h
  | _ => exact False.elim h⟩
theorem br_oGe : OpR X (compareOp .GtE) (rI0 fun i j => .bl (decide (j ≤ i))) ∧ Br2 T X.K Y M3.oGe (rI0 fun i j => .bl (decide (j ≤ i))) := ⟨op_ge, by
  intro μ H G x y v w Q S dx dy h
  cases x with
  | int i => cases y with
    | int j => exact ⟨i, j, dx, dy, h _ H μ (Up.refl _ _) S rfl⟩
    | _ => exact False.elim h
  | _ => exact False.elim h⟩
/-! tuples of ints -/
theorem intsOf_map : ∀ {ds : List M3.D} {ns : List Int}, M3.intsOf ds = some ns → ds = ns.map M3.D.int
  | [], _, h => by cases h; rfl
  | d :: r, ns, h => by
    cases d with
    | int i =>
      have h : (M3.intsOf r).map (i :: ·) = some ns := h
      cases q : M3.intsOf r with
      | none => rw [q] at h; cases h
      | some m =>
        rw [q] at h
        cases h
        rw [intsOf_map q]; rfl
    | _ => cases h
theorem ltIs_eq : ∀ (a b : List Int), M3.ltIs a b = HT.lexLt a b
  | [], [] => rfl
  | [], _ :: _ => rfl
  | _ :: _, [] => rfl
  | a :: r, b :: t => by
    show (if a = b then M3.ltIs r t else decide (a < b)) = if a = b then HT.lexLt r t else decide (a < b)
    rw [ltIs_eq r t]
def rLtD (K : PySem.W.Frag) : R2 := fun x y H Q => rI0 (fun i j => .bl (decide (i < j))) x y H Q ∨ rLtT K x y H Q
theorem br_oLt (hu : X.A.units < cLine) : OpR X (compareOp .Lt) (rLtD X.K) ∧ Br2 T X.K Y M3.oLt (rLtD X.K) := ⟨op_lt.or (op_ltT hu), by
  intro μ H G x y v w Q S dx dy h
  cases x with
  | int i => cases y with
    | int j => exact .inl ⟨i, j, dx, dy, h _ H μ (Up.refl _ _) S rfl⟩
    | _ => exact False.elim h
  | tup ds => cases y with
    | tup es =>
      unfold M3.oLt at h
      dsimp only at h
      cases q1 : M3.intsOf ds with
      | none => rw [q1] at h; exact False.elim h
      | some m =>
        cases q2 : M3.intsOf es with
        | none => rw [q1, q2] at h; exact False.elim h
        | some n =>
          rw [q1, q2] at h
          rw [intsOf_map q1] at dx
          rw [intsOf_map q2] at dy
          obtain ⟨p, vs, rfl, sp, rp⟩ := dx
          obtain ⟨q, ws, rfl, sq, rq⟩ := dy
          rw [Dens.ints rp] at sp
          rw [Dens.ints rq] at sq
          refine .inr ⟨p, q, m, n, rfl, rfl, sp, sq, ?_⟩
          rw [← ltIs_eq]
          exact h _ H μ (Up.refl _ _) S rfl
    | _ => exact False.elim h
  | _ => exact False.elim h⟩
end
end L3

namespace L3
open PySem PySem.Spec PyProof.Rows L2 PySem.SeqAt

section
variable {X : Cx} {T : Tab} {Y : EX} {pins : List (Addr × Obj)} {σ : L2.St} {H : Hp} {s : Shared} {μ : List Addr} {G : M3.Hh}

/-! what eqZ says -/
theorem eqZ_get {f : M3.D → M3.D → Option Bool} : ∀ {xs ys : List M3.D} {b : Bool}, M3.eqZ f xs ys = some b → ∃ e : Nat → Bool, (∀ (j : Nat) x y, xs[j]? = some x → ys[j]? = some y → f x y = some (e j)) ∧ b = (List.range (min xs.length ys.length)).all e
  | [], ys, b, h => ⟨fun _ => true, (fun j x y h => by simp at h), by cases ys <;> (cases h; simp)⟩
  | x :: xs, [], b, h => ⟨fun _ => true, (fun j x y _ h => by simp at h), by cases h; simp⟩
  | x :: xs, y :: ys, b, h => by
    unfold M3.eqZ at h
    cases q : f x y with
    | none => rw [q] at h; cases h
    | some p =>
      cases q2 : M3.eqZ f xs ys with
      | none => rw [q, q2] at h; cases h
      | some r =>
        rw [q, q2] at h
        cases h
        obtain ⟨e, h1, h2⟩ := eqZ_get q2
        refine ⟨fun j => match j with
          | 0 => p
          | j + 1 => e j, fun j a b e1 e2 => ?_, ?_⟩
        · cases j with
          | zero =>
            simp at e1 e2
            subst e1 e2
            exact q
          | succ j => exact h1 j a b (by simpa using e1) (by simpa using e2)
        · rw [h2]
          simp only [List.length_cons, Nat.succ_min_succ, List.range_succ_eq_map, List.all_cons, List.all_map]
          rfl
/-- the same address: a list and a tuple it can't be -/
theorem no_both (I : Inv X pins σ H s) {a : Addr} {vs ws : List V} (h1 : SqL X.K H a vs) (h2 : SqT X.K H a ws) : False := by
  obtain ⟨its, _, ⟨o, n, e, c, _⟩, _⟩ := I.list h1
  obtain ⟨its2, _, ⟨o2, e2, c2, _⟩, _⟩ := I.tuple h2
  rw [e] at e2
  cases e2
  rw [c] at c2
  injection c2 with c3
  exact absurd c3 (by decide)
theorem listOf_sq (S : Sim T X.K μ H G) {n : Nat} {a : Addr} {xs : List M3.D} (e : μ[n]? = some a) (h : M3.listOf G n = some xs) : ∃ vs, SqL X.K H a vs ∧ Dens X.K H μ xs vs := by
  unfold M3.listOf at h
  cases q : G[n]? with
  | none => rw [q] at h; cases h
  | some o =>
    rw [q] at h
    have ob := S.obj n a o e q
    cases o with
    | lst ys => cases h; obtain ⟨vs, e1, r⟩ := ob; exact ⟨vs, SqL.of e1, r⟩
    | frz ys => cases h; obtain ⟨vs, e1, r⟩ := ob; exact ⟨vs, e1.sq, r⟩
    | _ => cases h
/-- the value of a plain thing -/
def sc : V → Option M3.D
  | .non => some .non
  | .bl b => some (.bl b)
  | .int i => some (.int i)
  | .str x => some (.str x)
  | _ => none
theorem den_sc {K : PySem.W.Frag} {x d : M3.D} {v : V} (h : Den K H μ x v) (e : sc v = some d) : x = d := by
  cases x with
  | non => cases (show v = .non from h); cases e; rfl
  | bl b => cases (show v = .bl b from h); cases e; rfl
  | int i => cases (show v = .int i from h); cases e; rfl
  | str z => cases (show v = .str z from h); cases e; rfl
  | ref n => obtain ⟨a, _, rfl⟩ := h; cases e
  | tup ds => obtain ⟨a, vs, rfl, _⟩ := h; cases e
theorem den_rf {K : PySem.W.Frag} {x : M3.D} {v : V} (h : Den K H μ x v) (e : sc v = none) : (∃ n a, x = .ref n ∧ v = .ref a ∧ μ[n]? = some a) ∨ ∃ ds a vs, x = .tup ds ∧ v = .ref a ∧ SqT K H a vs ∧ Dens K H μ ds vs := by
  cases x with
  | non => cases (show v = .non from h); cases e
  | bl b => cases (show v = .bl b from h); cases e
  | int i => cases (show v = .int i from h); cases e
  | str z => cases (show v = .str z from h); cases e
  | ref n => obtain ⟨a, e1, rfl⟩ := h; exact .inl ⟨n, a, rfl, rfl, e1⟩
  | tup ds => obtain ⟨a, vs, rfl, h1, h2⟩ := h; exact .inr ⟨ds, a, vs, rfl, rfl, h1, h2⟩
theorem eq_sr {k : Nat} {v w : V} {d y : M3.D} {b : Bool} (dy : Den X.K H μ y w) (hv : sc v = some d) (hw : sc w = none) (h : M3.eqG G k d y = some b) : b = false := by
  cases k with
  | zero => cases h
  | succ k =>
    rcases den_rf dy hw with ⟨n, a, rfl, rfl, _⟩ | ⟨ds, a, vs, rfl, rfl, _⟩ <;> cases v <;> (try cases hv) <;> (try cases h) <;> rfl
theorem eq_rs {k : Nat} {v w : V} {d y : M3.D} {b : Bool} (dy : Den X.K H μ y w) (hv : sc v = some d) (hw : sc w = none) (h : M3.eqG G k y d = some b) : b = false := by
  cases k with
  | zero => cases h
  | succ k =>
    rcases den_rf dy hw with ⟨n, a, rfl, rfl, _⟩ | ⟨ds, a, vs, rfl, rfl, _⟩ <;> cases v <;> (try cases hv) <;> (try cases h) <;> rfl
theorem refs_inv {k n m : Nat} {b : Bool} (h : M3.eqG G (k + 1) (.ref n) (.ref m) = some b) : ∃ xs ys, M3.listOf G n = some xs ∧ M3.listOf G m = some ys ∧ (if xs.length = ys.length then M3.eqZ (M3.eqG G k) xs ys else some false) = some b := by
  have h : (match M3.listOf G n, M3.listOf G m with
      | some a, some b => if a.length = b.length then M3.eqZ (M3.eqG G k) a b else some false
      | _, _ => none) = some b := h
  cases q1 : M3.listOf G n with
  | none => rw [q1] at h; cases h
  | some xs =>
    cases q2 : M3.listOf G m with
    | none => rw [q1, q2] at h; cases h
    | some ys => rw [q1, q2] at h; exact ⟨xs, ys, rfl, rfl, h⟩
theorem tups_inv {k : Nat} {ds es : List M3.D} {b : Bool} (h : M3.eqG G (k + 1) (.tup ds) (.tup es) = some b) : ∃ p, M3.eqZ (M3.eqG G k) ds es = some p ∧ b = (p && decide (ds.length = es.length)) := by
  have h : (M3.eqZ (M3.eqG G k) ds es).map (· && decide (ds.length = es.length)) = some b := h
  cases q : M3.eqZ (M3.eqG G k) ds es with
  | none => rw [q] at h; cases h
  | some p => rw [q] at h; cases h; exact ⟨p, rfl, rfl⟩
/-- what == says hangs on the values alone -/
theorem eq_det (I : Inv X pins σ H s) (S : Sim T X.K μ H G) : ∀ (k : Nat) {x y x' y' : M3.D} {v w : V} {b b' : Bool}, Den X.K H μ x v → Den X.K H μ x' v → Den X.K H μ y w → Den X.K H μ y' w →
    M3.eqG G k x y = some b → M3.eqG G k x' y' = some b' → b = b'
  | 0, _, _, _, _, _, _, _, _, _, _, _, _, h, _ => by cases h
  | k + 1, x, y, x', y', v, w, b, b', dx, dx', dy, dy', h, h' => by
    have items : ∀ {xs xs' ys ys' : List M3.D} {vs ws : List V} {p q : Bool}, Dens X.K H μ xs vs → Dens X.K H μ xs' vs → Dens X.K H μ ys ws → Dens X.K H μ ys' ws → M3.eqZ (M3.eqG G k) xs ys = some p → M3.eqZ (M3.eqG G k) xs' ys' = some q → p = q := by
      intro xs xs' ys ys' vs ws p q r1 r2 r3 r4 e1 e2
      obtain ⟨f, hf, rfl⟩ := eqZ_get e1
      obtain ⟨g, hg, rfl⟩ := eqZ_get e2
      have l1 := r1.length
      have l2 := r2.length
      have l3 := r3.length
      have l4 := r4.length
      rw [show min xs'.length ys'.length = min xs.length ys.length by omega]
      have key : ∀ j ∈ List.range (min xs.length ys.length), f j = g j := by
        intro j hj
        have hj := List.mem_range.mp hj
        have j1 : j < xs.length := by omega
        have j2 : j < ys.length := by omega
        have j3 : j < xs'.length := by omega
        have j4 : j < ys'.length := by omega
        obtain ⟨v1, a1, d1⟩ := r1.get (List.getElem?_eq_getElem j1)
        obtain ⟨v2, a2, d2⟩ := r2.get (List.getElem?_eq_getElem j3)
        obtain ⟨v3, a3, d3⟩ := r3.get (List.getElem?_eq_getElem j2)
        obtain ⟨v4, a4, d4⟩ := r4.get (List.getElem?_eq_getElem j4)
        rw [a1] at a2; cases a2
        rw [a3] at a4; cases a4
        exact eq_det I S k d1 d2 d3 d4 (hf j _ _ (List.getElem?_eq_getElem j1) (List.getElem?_eq_getElem j2)) (hg j _ _ (List.getElem?_eq_getElem j3) (List.getElem?_eq_getElem j4))
      generalize List.range (min xs.length ys.length) = L at key
      induction L with
      | nil => rfl
      | cons j r ih => rw [List.all_cons, List.all_cons, key j List.mem_cons_self, ih fun i hi => key i (List.mem_cons_of_mem _ hi)]
    cases hv : sc v with
    | some d1 =>
      have e1 := den_sc dx hv
      have e2 := den_sc dx' hv
      cases hw : sc w with
      | some d2 =>
        have e3 := den_sc dy hw
        have e4 := den_sc dy' hw
        subst e1 e2 e3 e4
        rw [h] at h'
        cases h'
        rfl
      | none =>
        subst e1 e2
        rw [eq_sr dy hv hw h, eq_sr dy' hv hw h']
    | none =>
      cases hw : sc w with
      | some d2 =>
        have e3 := den_sc dy hw
        have e4 := den_sc dy' hw
        subst e3 e4
        rw [eq_rs dx hw hv h, eq_rs dx' hw hv h']
      | none =>
        rcases den_rf dx hv with ⟨n, a, rfl, rfl, en⟩ | ⟨ds, a, vs, rfl, rfl, sq, r⟩
        · rcases den_rf dy hw with ⟨m, c, rfl, rfl, em⟩ | ⟨es, c, ws, rfl, rfl, sq2, r2⟩
          · obtain ⟨xs, ys, l1, l2, h⟩ := refs_inv h
            obtain ⟨vs1, q1, r1⟩ := listOf_sq S en l1
            obtain ⟨vs2, q2, r2⟩ := listOf_sq S em l2
            rcases den_rf dx' hv with ⟨n', a', rfl, ea, en'⟩ | ⟨ds', a', vs', rfl, ea, sq', r'⟩
            · cases ea
              rcases den_rf dy' hw with ⟨m', c', rfl, ec, em'⟩ | ⟨es', c', ws', rfl, ec, sq2', r2'⟩
              · cases ec
                obtain ⟨xs', ys', l1', l2', h'⟩ := refs_inv h'
                obtain ⟨vs1', q1', r1'⟩ := listOf_sq S en' l1'
                obtain ⟨vs2', q2', r2'⟩ := listOf_sq S em' l2'
                cases I.list_inj q1 q1'
                cases I.list_inj q2 q2'
                have z1 := r1.length
                have z2 := r1'.length
                have z3 := r2.length
                have z4 := r2'.length
                by_cases c : xs.length = ys.length
                · rw [if_pos c] at h
                  rw [if_pos (by omega)] at h'
                  exact items r1 r1' r2 r2' h h'
                · rw [if_neg c] at h
                  rw [if_neg (by omega)] at h'
                  cases h; cases h'; rfl
              · cases h'
            · cases ea
              exact (no_both I q1 sq').elim
          · cases h
        · rcases den_rf dy hw with ⟨m, c, rfl, rfl, em⟩ | ⟨es, c, ws, rfl, rfl, sq2, r2⟩
          · cases h
          · obtain ⟨p, hz, rfl⟩ := tups_inv h
            rcases den_rf dx' hv with ⟨n', a', rfl, ea, en'⟩ | ⟨ds', a', vs', rfl, ea, sq', r'⟩
            · cases ea
              rcases den_rf dy' hw with ⟨m', c', rfl, ec, em'⟩ | ⟨es', c', ws', rfl, ec, sq2', r2'⟩
              · obtain ⟨xs', ys', l1', l2', h'⟩ := refs_inv h'
                obtain ⟨vs1', q1', r1'⟩ := listOf_sq S en' l1'
                exact (no_both I q1' sq).elim
              · cases h'
            · cases ea
              rcases den_rf dy' hw with ⟨m', c', rfl, ec, em'⟩ | ⟨es', c', ws', rfl, ec, sq2', r2'⟩
              · cases h'
              · cases ec
                obtain ⟨p', hz', rfl⟩ := tups_inv h'
                cases I.tuple_inj sq sq'
                cases I.tuple_inj sq2 sq2'
                have z1 := r.length
                have z2 := r'.length
                have z3 := r2.length
                have z4 := r2'.length
                rw [items r r' r2 r2' hz hz', z1, z2, z3, z4]
/-- a value is equal to itself -/
theorem eq_same (I : Inv X pins σ H s) (S : Sim T X.K μ H G) : ∀ (k : Nat) {x y : M3.D} {v : V} {b : Bool}, Den X.K H μ x v → Den X.K H μ y v → M3.eqG G k x y = some b → b = true
  | 0, _, _, _, _, _, _, h => by cases h
  | k + 1, x, y, v, b, dx, dy, h => by
    have items : ∀ {xs ys : List M3.D} {vs : List V} {p : Bool}, Dens X.K H μ xs vs → Dens X.K H μ ys vs → M3.eqZ (M3.eqG G k) xs ys = some p → p = true := by
      intro xs ys vs p r1 r2 e1
      obtain ⟨f, hf, rfl⟩ := eqZ_get e1
      rw [List.all_eq_true]
      intro j hj
      have hj := List.mem_range.mp hj
      have j1 : j < xs.length := by omega
      have j2 : j < ys.length := by omega
      obtain ⟨v1, a1, d1⟩ := r1.get (List.getElem?_eq_getElem j1)
      obtain ⟨v2, a2, d2⟩ := r2.get (List.getElem?_eq_getElem j2)
      rw [a1] at a2; cases a2
      exact eq_same I S k d1 d2 (hf j _ _ (List.getElem?_eq_getElem j1) (List.getElem?_eq_getElem j2))
    cases hv : sc v with
    | some d =>
      have e1 := den_sc dx hv
      have e2 := den_sc dy hv
      subst e1 e2
      cases v with
      | non => cases hv; cases h; rfl
      | bl c => cases hv; cases h; simp
      | int c => cases hv; cases h; simp
      | str c => cases hv; cases h; simp
      | _ => cases hv
    | none =>
      rcases den_rf dx hv with ⟨n, a, rfl, rfl, en⟩ | ⟨ds, a, vs, rfl, rfl, sq, r⟩
      · rcases den_rf dy hv with ⟨m, c, rfl, ec, em⟩ | ⟨es, c, ws, rfl, ec, sq2, r2⟩
        · cases ec
          obtain ⟨xs, ys, l1, l2, h⟩ := refs_inv h
          obtain ⟨vs1, q1, r1⟩ := listOf_sq S en l1
          obtain ⟨vs2, q2, r2⟩ := listOf_sq S em l2
          cases I.list_inj q1 q2
          rw [if_pos (r1.length.trans r2.length.symm)] at h
          exact items r1 r2 h
        · cases h
      · rcases den_rf dy hv with ⟨m, c, rfl, ec, em⟩ | ⟨es, c, ws, rfl, ec, sq2, r2⟩
        · cases h
        · cases ec
          obtain ⟨p, hz, rfl⟩ := tups_inv h
          cases I.tuple_inj sq sq2
          rw [items r r2 hz, decide_eq_true (r.length.trans r2.length.symm)]
          rfl
/-- the items of two lists of values -/
theorem vals_at {K : PySem.W.Frag} {ds : List M3.D} {vs : List V} {its : List Value} (r : Dens K H μ ds vs) (q : Vals vs its) {j : Nat} (h : j < its.toArray.size) : ∃ d v, ds[j]? = some d ∧ Den K H μ d v ∧ RelV v its.toArray[j] := by
  have hl : j < its.length := by simpa using h
  have h2 : j < vs.length := by rw [q.length]; exact hl
  obtain ⟨u, e, rv⟩ := q.get (List.getElem?_eq_getElem h2)
  obtain ⟨d, e1, r1⟩ := r.get' (List.getElem?_eq_getElem h2)
  refine ⟨d, _, e1, r1, ?_⟩
  rw [List.getElem?_eq_getElem hl] at e
  cases e
  simpa using rv
/-- == and != of two values, as the machine says -/
theorem eq_at (I : Inv X pins σ H s) (S : Sim T X.K μ H G) : ∀ (k : Nat) {x y : M3.D} {v w : V} {u u' : Value} {b : Bool} {A : Around}, A.units + k < cLine → Den X.K H μ x v → Den X.K H μ y w → RelV v u → RelV w u' → M3.eqG G k x y = some b →
    EqAt A s u u' b ∧ RcAt A s u u' b ∧ RcNeAt A s u u' (!b)
  | 0, _, _, _, _, _, _, _, _, _, _, _, _, _, h => by cases h
  | k + 1, x, y, v, w, u, u', b, A, hu, dx, dy, ru, ru', h => by
    have hu0 : A.units < cLine := by omega
    have hu1 : A.in1.units + k < cLine := by show A.units + 1 + k < cLine; omega
    have items : ∀ {xs ys : List M3.D} {vs ws : List V} {is js : List Value} {p : Bool}, Dens X.K H μ xs vs → Dens X.K H μ ys ws → Vals vs is → Vals ws js → M3.eqZ (M3.eqG G k) xs ys = some p →
        ∃ e : Nat → Bool, (∀ j (h1 : j < is.toArray.size) (h2 : j < js.toArray.size), EqAt A.in1 s is.toArray[j] js.toArray[j] (e j)) ∧ p = (List.range (min is.toArray.size js.toArray.size)).all e := by
      intro xs ys vs ws is js p r1 r2 q1 q2 hz
      obtain ⟨e, he, rfl⟩ := eqZ_get hz
      refine ⟨e, fun j h1 h2 => ?_, ?_⟩
      · obtain ⟨d1, v1, a1, b1, c1⟩ := vals_at r1 q1 h1
        obtain ⟨d2, v2, a2, b2, c2⟩ := vals_at r2 q2 h2
        exact (eq_at I S k hu1 b1 b2 c1 c2 (he j _ _ a1 a2)).1
      · have l1 := r1.length
        have l2 := r2.length
        have l3 := q1.length
        have l4 := q2.length
        rw [show min is.toArray.size js.toArray.size = min xs.length ys.length by simp; omega]
    cases x with
    | non =>
      cases (show v = .non from dx)
      cases (show u = Value.none from ru)
      cases y with
      | non => cases (show w = .non from dy); cases (show u' = Value.none from ru'); cases h; exact ⟨.same _, .none_none, .none_none⟩
      | int j => cases (show w = .int j from dy); obtain ⟨t, rfl⟩ := (show ∃ t, u' = Value.int j t from ru'); cases h; exact ⟨.none_int _ _, .none_int _ _, .none_int _ _⟩
      | str j => cases (show w = .str j from dy); obtain ⟨t, rfl⟩ := (show ∃ t, u' = Value.str j t from ru'); cases h; exact ⟨.none_str _ _, .none_str _ _, .none_str _ _⟩
      | tup es => obtain ⟨a, vs, rfl, sq, r⟩ := dy; cases (show u' = Value.ref a from ru'); cases h; obtain ⟨its, _, p, _⟩ := I.tuple sq; exact ⟨.none_tuple p hu0, .none_tuple p hu0, .none_tuple p hu0⟩
      | bl j => cases h
      | ref j => cases h
    | bl i =>
      cases (show v = .bl i from dx)
      cases (show u = Value.bool i from ru)
      cases y with
      | bl j => cases (show w = .bl j from dy); cases (show u' = Value.bool j from ru'); cases h; exact ⟨.bool_bool _ _, .bool_bool _ _, .bool_bool _ _⟩
      | _ => cases h
    | int i =>
      cases (show v = .int i from dx)
      obtain ⟨t, rfl⟩ := (show ∃ t, u = Value.int i t from ru)
      cases y with
      | non => cases (show w = .non from dy); cases (show u' = Value.none from ru'); cases h; exact ⟨.int_none _ _, .int_none _ _, .int_none _ _⟩
      | int j =>
        cases (show w = .int j from dy); obtain ⟨t', rfl⟩ := (show ∃ t, u' = Value.int j t from ru'); cases h
        rw [← Bool.beq_eq_decide_eq]
        exact ⟨.int_int _ _ _ _, .int_int _ _ _ _, .int_int _ _ _ _⟩
      | str j => cases (show w = .str j from dy); obtain ⟨t', rfl⟩ := (show ∃ t, u' = Value.str j t from ru'); cases h; exact ⟨.int_str _ _ _ _, .int_str _ _ _ _, .int_str _ _ _ _⟩
      | tup es => obtain ⟨a, vs, rfl, sq, r⟩ := dy; cases (show u' = Value.ref a from ru'); cases h; obtain ⟨its, _, p, _⟩ := I.tuple sq; exact ⟨.int_tuple _ _ p hu0, .int_tuple _ _ p hu0, .int_tuple _ _ p hu0⟩
      | bl j => cases h
      | ref j => cases h
    | str i =>
      cases (show v = .str i from dx)
      obtain ⟨t, rfl⟩ := (show ∃ t, u = Value.str i t from ru)
      cases y with
      | non => cases (show w = .non from dy); cases (show u' = Value.none from ru'); cases h; exact ⟨.str_none _ _, .str_none _ _, .str_none _ _⟩
      | str j =>
        cases (show w = .str j from dy); obtain ⟨t', rfl⟩ := (show ∃ t, u' = Value.str j t from ru'); cases h
        rw [show decide (i = j) = (i == j) from rfl]
        exact ⟨.str_str _ _ _ _, .str_str _ _ _ _, .str_str _ _ _ _⟩
      | int j => cases (show w = .int j from dy); obtain ⟨t', rfl⟩ := (show ∃ t, u' = Value.int j t from ru'); cases h; exact ⟨.str_int _ _ _ _, .str_int _ _ _ _, .str_int _ _ _ _⟩
      | tup es => cases h
      | bl j => cases h
      | ref j => cases h
    | tup ds =>
      obtain ⟨a, vs, rfl, sq, r⟩ := dx
      cases (show u = Value.ref a from ru)
      obtain ⟨is, q1, p1, _⟩ := I.tuple sq
      cases y with
      | non => cases (show w = .non from dy); cases (show u' = Value.none from ru'); cases h; exact ⟨.tuple_none p1 hu0, .tuple_none p1 hu0, .tuple_none p1 hu0⟩
      | int j => cases (show w = .int j from dy); obtain ⟨t, rfl⟩ := (show ∃ t, u' = Value.int j t from ru'); cases h; exact ⟨.tuple_int _ _ p1 hu0, .tuple_int _ _ p1 hu0, .tuple_int _ _ p1 hu0⟩
      | tup es =>
        obtain ⟨c, ws, rfl, sq2, r2⟩ := dy
        cases (show u' = Value.ref c from ru')
        obtain ⟨js, q2, p2, _⟩ := I.tuple sq2
        obtain ⟨p, hz, hb⟩ := tups_inv h
        obtain ⟨e, he, hp⟩ := items r r2 q1 q2 hz
        have l1 := r.length
        have l2 := r2.length
        have l3 := q1.length
        have l4 := q2.length
        have hb' : b = ((List.range (min is.toArray.size js.toArray.size)).all e && is.toArray.size == js.toArray.size) := by
          rw [hb, hp]
          congr 1
          rw [Bool.beq_eq_decide_eq]
          exact decide_eq_decide.mpr (by simp; omega)
        have rc : RcAt A s (.ref a) (.ref c) b := by rw [hb']; exact .tuples p1 p2 hu0 he
        have rn : RcNeAt A s (.ref a) (.ref c) (!b) := by rw [hb']; exact .tuples p1 p2 hu0 he
        refine ⟨?_, rc, rn⟩
        by_cases hac : a = c
        · subst hac
          have d2 : Den X.K H μ (.tup ds) (.ref a) := ⟨a, vs, rfl, sq, r⟩
          have d3 : Den X.K H μ (.tup es) (.ref a) := ⟨a, ws, rfl, sq2, r2⟩
          rw [eq_same I S (k + 1) d2 d3 h]
          exact .same _
        · exact .of_refs hac rc
      | _ => cases h
    | ref n =>
      cases y with
      | ref m =>
        obtain ⟨xs, ys, l1, l2, hz⟩ := refs_inv h
        obtain ⟨a, ea, rfl⟩ := id dx
        obtain ⟨c, ec, rfl⟩ := id dy
        cases (show u = Value.ref a from ru)
        cases (show u' = Value.ref c from ru')
        obtain ⟨vs, sq, r⟩ := listOf_sq S ea l1
        obtain ⟨ws, sq2, r2⟩ := listOf_sq S ec l2
        obtain ⟨is, q1, p1, _⟩ := I.list sq
        obtain ⟨js, q2, p2, _⟩ := I.list sq2
        have z1 := r.length
        have z2 := r2.length
        have z3 := q1.length
        have z4 := q2.length
        have two : RcAt A s (.ref a) (.ref c) b ∧ RcNeAt A s (.ref a) (.ref c) (!b) := by
          by_cases hl : xs.length = ys.length
          · rw [if_pos hl] at hz
            obtain ⟨e, he, hp⟩ := items r r2 q1 q2 hz
            have hsz : is.toArray.size = js.toArray.size := by simp; omega
            rw [show min is.toArray.size js.toArray.size = is.toArray.size by omega] at hp
            rw [hp]
            exact ⟨.lists p1.isList p2.isList hsz hu0 he, .lists p1.isList p2.isList hsz hu0 he⟩
          · rw [if_neg hl] at hz
            cases hz
            have hsz : (is.toArray.size != js.toArray.size) = true := by simp; omega
            exact ⟨.lists_lengths p1.isList p2.isList hsz hu0, .lists_lengths p1.isList p2.isList hsz hu0⟩
        refine ⟨?_, two.1, two.2⟩
        by_cases hac : a = c
        · subst hac
          rw [eq_same I S (k + 1) dx dy h]
          exact .same _
        · exact .of_refs hac two.1
      | _ => cases h

end
section
variable {X : Cx} {T : Tab} {Y : EX}
/-- ==, != -/
def rEqD (T : Tab) (K : PySem.W.Frag) (neg : Bool) : R2 := fun v w H Q => ∃ μ G x y b, Sim T K μ H G ∧ Den K H μ x v ∧ Den K H μ y w ∧ M3.eqG G 8 x y = some b ∧ Q (.bl (if neg then !b else b)) H
theorem op_eqD (hu : X.A.units + 8 < cLine) : OpR X (compareOp .Eq) (rEqD T X.K false) := by
  intro pins s σ H v w u u' Q I r r' h
  obtain ⟨μ, G, x, y, b, S, dx, dy, e, q⟩ := h
  exact (eq_at I S 8 hu dx dy r r' e).2.1 _ _ _ _ ⟨.bl b, H, I, rfl, q⟩
theorem op_neD (hu : X.A.units + 8 < cLine) : OpR X (compareOp .NotEq) (rEqD T X.K true) := by
  intro pins s σ H v w u u' Q I r r' h
  obtain ⟨μ, G, x, y, b, S, dx, dy, e, q⟩ := h
  exact (eq_at I S 8 hu dx dy r r' e).2.2 _ _ _ _ ⟨.bl (!b), H, I, rfl, q⟩
theorem br_oEq (hu : X.A.units + 8 < cLine) : OpR X (compareOp .Eq) (rEqD T X.K false) ∧ Br2 T X.K Y M3.oEq (rEqD T X.K false) := ⟨op_eqD hu, by
  intro μ H G x y v w Q S dx dy h
  unfold M3.run M3.oEq at h
  cases q : M3.eqG G 8 x y with
  | none => rw [q] at h; exact False.elim h
  | some b =>
    rw [q] at h
    exact ⟨μ, G, x, y, b, S, dx, dy, q, h _ H μ (Up.refl _ _) S rfl⟩⟩
theorem br_oNe (hu : X.A.units + 8 < cLine) : OpR X (compareOp .NotEq) (rEqD T X.K true) ∧ Br2 T X.K Y M3.oNe (rEqD T X.K true) := ⟨op_neD hu, by
  intro μ H G x y v w Q S dx dy h
  unfold M3.run M3.oNe at h
  cases q : M3.eqG G 8 x y with
  | none => rw [q] at h; exact False.elim h
  | some b =>
    rw [q] at h
    exact ⟨μ, G, x, y, b, S, dx, dy, q, h _ H μ (Up.refl _ _) S rfl⟩⟩
end
end L3

namespace L3
open PySem PySem.Spec PyProof.Rows L2 PySem.SeqAt

section
variable {X : Cx} {T : Tab} {Y : EX} {pins : List (Addr × Obj)} {σ : L2.St} {H : Hp} {s : Shared} {μ : List Addr} {G : M3.Hh}
/-! in, not in -/
open Classical in
/-- the item's answer, read off its value -/
noncomputable def eU (K : PySem.W.Frag) (H : Hp) (μ : List Addr) (G : M3.Hh) (x : M3.D) (u : Value) : Bool :=
  if h : ∃ b d v, Den K H μ d v ∧ RelV v u ∧ M3.eqG G 8 d x = some b then h.choose else false
theorem eU_of (I : Inv X pins σ H s) (S : Sim T X.K μ H G) {x d : M3.D} {v w : V} {u : Value} {b : Bool} (dx : Den X.K H μ x w) (dd : Den X.K H μ d v) (r : RelV v u) (e : M3.eqG G 8 d x = some b) : eU X.K H μ G x u = b := by
  have h : ∃ b d v, Den X.K H μ d v ∧ RelV v u ∧ M3.eqG G 8 d x = some b := ⟨b, d, v, dd, r, e⟩
  unfold eU
  rw [dif_pos h]
  obtain ⟨d', v', dd', r', e'⟩ := h.choose_spec
  have hv : v' = v := r'.inj r
  subst hv
  exact eq_det I S 8 dd' dd dx dx e' e
theorem mem_e (I : Inv X pins σ H s) (S : Sim T X.K μ H G) {A : Around} (hu : A.units + 8 < cLine) {x : M3.D} {w : V} {u' : Value} (dx : Den X.K H μ x w) (rx : RelV w u') :
    ∀ {ys : List M3.D} {vs : List V} {its : List Value} {b : Bool}, Dens X.K H μ ys vs → Vals vs its → M3.memG G x ys = some b → (∀ u ∈ its, EqAt A s u u' (eU X.K H μ G x u)) ∧ its.any (eU X.K H μ G x) = b
  | [], _, _, _, r, q, h => by
    cases (show _ = [] from r)
    cases q
    cases h
    exact ⟨fun u z => (by cases z), rfl⟩
  | y :: ys, _, its, b, ⟨v, vs, e, d, r⟩, q, h => by
    subst e
    cases q with
    | @cons _ u _ us rv q =>
      unfold M3.memG at h
      cases e1 : M3.eqG G 8 y x with
      | none => rw [e1] at h; cases h
      | some p =>
        cases e2 : M3.memG G x ys with
        | none => rw [e1, e2] at h; cases h
        | some p2 =>
          rw [e1, e2] at h
          cases h
          obtain ⟨h1, h2⟩ := mem_e I S hu dx rx r q e2
          have eu := eU_of I S dx d rv e1
          refine ⟨fun u' hu' => ?_, ?_⟩
          · rcases List.mem_cons.mp hu' with rfl | z
            · rw [eu]; exact (eq_at I S 8 hu d dx rv rx e1).1
            · exact h1 u' z
          · rw [List.any_cons, eu, h2]
/-- a key's value -/
theorem look_of {κ : Type} [DecidableEq κ] {K : PySem.W.Frag} : ∀ {kvs : List (κ × M3.D)} {ws : List (κ × V)} (k : κ), Paired (fun (p : κ × M3.D) (q : κ × V) => p.1 = q.1 ∧ Den K H μ p.2 q.2) kvs ws →
    (M3.look kvs k = none ∧ valV ws k = none) ∨ ∃ d v, M3.look kvs k = some d ∧ valV ws k = some v ∧ Den K H μ d v
  | _, _, k, .nil => .inl ⟨rfl, rfl⟩
  | (k1, d) :: kvs, (k2, v) :: ws, k, .cons ⟨h1, h2⟩ t => by
    cases (show k1 = k2 from h1)
    by_cases h : k1 = k
    · subst h
      exact .inr ⟨d, v, by simp [M3.look], by simp [valV], h2⟩
    · have e1 : M3.look ((k1, d) :: kvs) k = M3.look kvs k := by simp [M3.look, h]
      have e2 : valV ((k1, v) :: ws) k = valV ws k := by simp [valV, h]
      rw [e1, e2]
      exact look_of k t
theorem keyK_of {x : M3.D} {k : M3.Key} {K : PySem.W.Frag} {v : V} (h : M3.keyK x = some k) (d : Den K H μ x v) : v = kV k := by
  cases x with
  | int i => cases h; exact d
  | str z => cases h; exact d
  | _ => cases h
end
section
variable {X : Cx} {T : Tab} {Y : EX}
def rInD (T : Tab) (K : PySem.W.Frag) (neg : Bool) : R2 := fun v w H Q => ∃ μ G x y b, Sim T K μ H G ∧ Den K H μ x v ∧ Den K H μ y w ∧ M3.inG G x y = some b ∧ Q (.bl (if neg then !b else b)) H
theorem in_core (hu : X.A.units + 9 < cLine) (neg : Bool) {pins : List (Addr × Obj)} {s : Shared} {σ : L2.St} {H : Hp} {v w : V} {u u' : Value} {Q : VK} (I : Inv X pins σ H s) (r : RelV v u) (r' : RelV w u') (h : rInD T X.K neg v w H Q) :
    wpAny (model X.prog X.w) X.A (compareOp (if neg then .NotIn else .In) u u') (EP X pins σ Q) X.xe s := by
  obtain ⟨μ, G, x, y, b, S, dx, dy, e, q⟩ := h
  have hu1 : X.A.in1.units + 8 < cLine := by show X.A.units + 1 + 8 < cLine; omega
  have lists : ∀ {a : Addr} {vs : List V} {ys : List M3.D}, SqL X.K H a vs → Dens X.K H μ ys vs → M3.memG G x ys = some b → u' = .ref a → wpAny (model X.prog X.w) X.A (compareOp (if neg then .NotIn else .In) u u') (EP X pins σ Q) X.xe s := by
    intro a vs ys sq rs hm eu
    subst eu
    obtain ⟨its, qv, p, _⟩ := I.list sq
    obtain ⟨h1, h2⟩ := mem_e I S hu1 dx r rs qv hm
    have h3 : its.toArray.any (eU X.K H μ G x) = b := by simpa using h2
    cases neg with
    | false => exact in_listAt _ p.isList (fun y hy => h1 y (by simpa using hy)) ⟨.bl b, H, I, by rw [h3]; rfl, q⟩
    | true => exact notIn_listAt _ p.isList (fun y hy => h1 y (by simpa using hy)) ⟨.bl (!b), H, I, by rw [h3]; rfl, q⟩
  cases y with
  | tup ys =>
    obtain ⟨a, vs, rfl, sq, rs⟩ := dy
    cases (show u' = Value.ref a from r')
    obtain ⟨its, qv, p, _⟩ := I.tuple sq
    obtain ⟨h1, h2⟩ := mem_e I S hu1 dx r rs qv e
    have h3 : its.toArray.any (eU X.K H μ G x) = b := by simpa using h2
    cases neg with
    | false => exact in_tupleAt _ p (fun y hy => h1 y (by simpa using hy)) ⟨.bl b, H, I, by rw [h3]; rfl, q⟩
    | true => exact notIn_tupleAt _ p (fun y hy => h1 y (by simpa using hy)) ⟨.bl (!b), H, I, by rw [h3]; rfl, q⟩
  | ref n =>
    obtain ⟨a, ea, rfl⟩ := dy
    cases (show u' = Value.ref a from r')
    unfold M3.inG at e
    dsimp only at e
    cases qn : G[n]? with
    | none => rw [qn] at e; cases e
    | some o =>
      rw [qn] at e
      have ob := S.obj n a o ea qn
      cases o with
      | lst ys =>
        obtain ⟨vs, e1, rs⟩ := ob
        exact lists (SqL.of e1) rs e rfl
      | frz ys =>
        obtain ⟨vs, e1, rs⟩ := ob
        exact lists e1.sq rs e rfl
      | dK kvs =>
        obtain ⟨ws, e1, rs⟩ := ob
        dsimp only at e
        cases qk : M3.keyK x with
        | none => rw [qk] at e; cases e
        | some k =>
          rw [qk] at e
          have e : some (M3.look kvs k).isSome = some b := e
          have hb : (valV ws k).isSome = b := by
            rcases look_of k rs with ⟨h1, h2⟩ | ⟨d, v', h1, h2, _⟩
            · rw [h2]; rw [h1] at e; cases e; rfl
            · rw [h2]; rw [h1] at e; cases e; rfl
          cases keyK_of qk dx
          cases neg with
          | false => exact d_in (by omega) I (DGet.k e1) r fun s' I' => ⟨.bl b, H, I', by rw [hb]; rfl, q⟩
          | true => exact d_notIn (by omega) I (DGet.k e1) r fun s' I' => ⟨.bl (!b), H, I', by rw [hb]; rfl, q⟩
      | dT kvs => cases e
      | ins C fs => cases e
  | _ => cases e
theorem br_oIn (hu : X.A.units + 9 < cLine) : OpR X (compareOp .In) (rInD T X.K false) ∧ Br2 T X.K Y M3.oIn (rInD T X.K false) := ⟨fun pins s σ H v w u u' Q I r r' h => in_core hu false I r r' h, by
  intro μ H G x y v w Q S dx dy h
  unfold M3.run M3.oIn at h
  cases q : M3.inG G x y with
  | none => rw [q] at h; exact False.elim h
  | some b =>
    rw [q] at h
    exact ⟨μ, G, x, y, b, S, dx, dy, q, h _ H μ (Up.refl _ _) S rfl⟩⟩
theorem br_oNotIn (hu : X.A.units + 9 < cLine) : OpR X (compareOp .NotIn) (rInD T X.K true) ∧ Br2 T X.K Y M3.oNotIn (rInD T X.K true) := ⟨fun pins s σ H v w u u' Q I r r' h => in_core hu true I r r' h, by
  intro μ H G x y v w Q S dx dy h
  unfold M3.run M3.oNotIn at h
  cases q : M3.inG G x y with
  | none => rw [q] at h; exact False.elim h
  | some b =>
    rw [q] at h
    exact ⟨μ, G, x, y, b, S, dx, dy, q, h _ H μ (Up.refl _ _) S rfl⟩⟩
end
end L3

namespace HT
open PySem PyProof.Rows
theorem rcGt_int (A : Around) (s : Shared) (a : Int) (t : Tok) (c : Int) (u : Tok) (prog : Program) (w : World) (E : Value → Shared → Prop) (Q : Value → Shared → Prop) (h : Q (.bool (decide (c < a))) s) :
    wpAny (model prog w) A (richCompare .Gt (.int a t) (.int c u)) Q E s :=
  (PyProof.Rows.gt_int h : wpAny (model prog w) A (compareOp .Gt (.int a t) (.int c u)) Q E s)
section
open PySem.SeqAt
open PySem.AutoSeq1 (wpAny_loadPart')
open PySem.MeetsSeq PySem.MeetsSeq2 PySem.MeetsSeq3
theorem tuple_gt_ints (l b : Addr) (items items2 : Array Value) (n n2 : Nat) (dd dd2 : Option Addr) (sl sl2 : Array (Option Value)) (ns ms : List Int) (hi : IntsAre items.toList ns) (hj : IntsAre items2.toList ms) :
    Meets (Builtin.«tuple.__gt__» ⟨[.ref l, .ref b], []⟩)
      (fun _ R s => s.heap.get? l = some { cls := .type "tuple", dict := dd, data := .seq items n, slots := sl } ∧ s.heap.get? b = some { cls := .type "tuple", dict := dd2, data := .seq items2 n2, slots := sl2 } ∧
        R (.ok (.ret (.bool (lexLt ms ns)))) s) :=
  .of_wp fun prog w A R s h => by
    obtain ⟨hp, g, d, tk, os⟩ := s; obtain ⟨hl, hb, h⟩ := h
    have f2 := AutoSeq1.sub_tuple_tuple
    have z1 : items.size = ns.length := by rw [← hi.length]; simp
    have z2 : items2.size = ms.length := by rw [← hj.length]; simp
    wp_walk using wpAny_loadPart' hl, wpAny_loadPart' hb, wpAny_forIn_list _ (fun rest b s' => b.1 = none ∧ s' = ⟨hp, g, d, tk, os⟩ ∧ ∃ (vs ws : List Value) (ns' ms' : List Int), rest = vs.zip ws ∧
      IntsAre vs ns' ∧ IntsAre ws ms' ∧ ns'.length + items2.size = ms'.length + items.size ∧ R (.ok (.ret (.bool (lexLt ms' ns')))) ⟨hp, g, d, tk, os⟩) _
    case turn =>
      rintro ⟨y, x⟩ rest b s' ⟨hb', rfl, vs, ws, ns', ms', hz, hvi, hwi, hlen, hR⟩
      cases hvi with
      | nil => rw [List.zip_nil_left] at hz; cases hz
      | cons a t hvi' =>
        cases hwi with
        | nil => rw [List.zip_nil_right] at hz; cases hz
        | cons c u hwi' =>
          rw [List.zip_cons_cons] at hz
          injection hz with hyx hrest
          injection hyx with hy hx
          subst hy hx
          rw [lexLt_cons] at hR
          simp only [List.length_cons] at hlen
          obtain ⟨e, he, hiff⟩ := eqAt_int A.in1 ⟨hp, g, d, tk, os⟩ a t c u
          refine wpAny_bind (he prog w _ _ ?_)
          cases e with
          | true =>
            rw [if_pos (hiff.mp rfl).symm] at hR
            wp_walk
            exact ⟨rfl, rfl, _, _, _, _, hrest, hvi', hwi', by omega, hR⟩
          | false =>
            rw [if_neg (fun q => absurd (hiff.mpr (Eq.symm q)) Bool.false_ne_true)] at hR
            have hri := rcGt_int A.in1 ⟨hp, g, d, tk, os⟩ a t c u prog w
            wp_walk using hri
            exact ⟨_, rfl, by simpa using hR⟩
    case fin =>
      rintro ⟨b1, b2⟩ s' ⟨hb', rfl, vs, ws, ns', ms', hz, hvi, hwi, hlen, hR⟩
      simp only at hb'
      subst hb'
      have hv : lexLt ms' ns' = decide (items2.size < items.size) := by
        cases hvi with
        | nil =>
          cases hwi with
          | nil =>
            simp only [List.length_nil] at hlen
            rw [lexLt_nil_nil]
            exact (decide_eq_false (by omega)).symm
          | cons c u hw =>
            simp only [List.length_nil, List.length_cons] at hlen
            rw [lexLt_cons_nil]
            exact (decide_eq_false (by omega)).symm
        | cons a t hv =>
          cases hwi with
          | nil =>
            simp only [List.length_nil, List.length_cons] at hlen
            rw [lexLt_nil_cons]
            exact (decide_eq_true (by omega)).symm
          | cons c u hw =>
            rw [List.zip_cons_cons] at hz
            cases hz
      rw [hv] at hR
      wp_walk
      exact ⟨_, rfl, by simpa [Builtin.Tuple.tupleCompareSizes] using hR⟩
    case h =>
      exact ⟨rfl, rfl, items.toList, items2.toList, ns, ms, rfl, hi, hj, by omega, h⟩
end
theorem gt_tupInts {prog : Program} {w : World} {A : Around} {E : Value → Shared → Prop} {s : Shared} {l b : Addr} {items items2 : Array Value} {ns ms : List Int} {Q : Value → Shared → Prop} (hl : IsTup s.heap l items) (hb : IsTup s.heap b items2) (hi : IntsAre items.toList ns) (hj : IntsAre items2.toList ms)
    (hu : A.units < cLine) (h : Q (.bool (lexLt ms ns)) s) : wpAny (model prog w) A (compareOp .Gt (.ref l) (.ref b)) Q E s := by
  obtain ⟨⟨cls, dd, data, sl⟩, ho, hc, n, hd⟩ := id hl
  obtain ⟨⟨cls2, dd2, data2, sl2⟩, ho2, hc2, n2, hd2⟩ := id hb
  simp only at hc hd hc2 hd2
  subst hc hd hc2 hd2
  exact richCompare_meets_room (op := .Gt) ⟨_, ho, rfl⟩ ⟨_, ho2, rfl⟩ PySem.F.slot_tuple_gt PySem.F.entry_tuple_gt (PySem.F.args_tuple_gt_2 _ _) (tuple_gt_ints l b items items2 n n2 dd dd2 sl sl2 ns ms hi hj)
    ⟨ho, ho2, show Value.bool (lexLt ms ns) ≠ Value.notImplemented ∧ Q (.bool (lexLt ms ns)) s from ⟨(fun x => nomatch x), h⟩⟩ hu
end HT
namespace L3
open PySem PySem.Spec PyProof.Rows L2 PySem.SeqAt
section
variable {X : Cx} {T : Tab} {Y : EX} {a b e : Expr} {es : List Expr} {fa fb : M3.E3} {ta tb : M3.T3} {f3 : M3.A3} {pos : Pos} {rest : List Expr}
def rGtT (K : PySem.W.Frag) : R2 := fun x y H Q => ∃ a b ns ms, x = .ref a ∧ y = .ref b ∧ SqT K H a (ns.map V.int) ∧ SqT K H b (ms.map V.int) ∧ Q (.bl (HT.lexLt ms ns)) H
theorem op_gtT (hu : X.A.units < cLine) : OpR X (compareOp .Gt) (rGtT X.K) := by
  intro pins s σ H x y v u Q I rx ry h
  obtain ⟨a, b, ns, ms, rfl, rfl, ha, hb, q⟩ := h
  cases rx
  cases ry
  obtain ⟨its, r1, p1, _⟩ := I.tuple ha
  obtain ⟨its2, r2, p2, _⟩ := I.tuple hb
  have i1 : IntsAre its.toArray.toList ns := intsAre_of r1
  have i2 : IntsAre its2.toArray.toList ms := intsAre_of r2
  exact HT.gt_tupInts p1 p2 i1 i2 hu ⟨.bl (HT.lexLt ms ns), H, I, rfl, q⟩
def rGtD (K : PySem.W.Frag) : R2 := fun x y H Q => rI0 (fun i j => .bl (decide (j < i))) x y H Q ∨ rGtT K x y H Q
theorem br_oGt (hu : X.A.units < cLine) : OpR X (compareOp .Gt) (rGtD X.K) ∧ Br2 T X.K Y M3.oGt (rGtD X.K) := ⟨op_gt.or (op_gtT hu), by
  intro μ H G x y v w Q S dx dy h
  cases x with
  | int i => cases y with
    | int j => exact .inl ⟨i, j, dx, dy, h _ H μ (Up.refl _ _) S rfl⟩
    | _ => exact False.elim h
  | tup ds => cases y with
    | tup es =>
      unfold M3.oGt at h
      dsimp only at h
      cases q1 : M3.intsOf ds with
      | none => rw [q1] at h; exact False.elim h
      | some m =>
        cases q2 : M3.intsOf es with
        | none => rw [q1, q2] at h; exact False.elim h
        | some n =>
          rw [q1, q2] at h
          rw [intsOf_map q1] at dx
          rw [intsOf_map q2] at dy
          obtain ⟨p, vs, rfl, sp, rp⟩ := dx
          obtain ⟨q, ws, rfl, sq, rq⟩ := dy
          rw [Dens.ints rp] at sp
          rw [Dens.ints rq] at sq
          refine .inr ⟨p, q, m, n, rfl, rfl, sp, sq, ?_⟩
          rw [← ltIs_eq]
          exact h _ H μ (Up.refl _ _) S rfl
    | _ => exact False.elim h
  | _ => exact False.elim h⟩

/-! an item -/
theorem atI_of {K : PySem.W.Frag} {H : Hp} {μ : List Addr} {xs : List M3.D} {vs : List V} {i : Int} {d : M3.D} (r : Dens K H μ xs vs) (h : M3.atI xs i = some d) : ∃ v, L2.atI vs i = some v ∧ Den K H μ d v := by
  unfold M3.atI at h
  unfold L2.atI
  rw [r.length] at h
  have e : M3.ixN vs.length i = L2.ixN vs.length i := rfl
  rw [e] at h
  cases q : L2.ixN vs.length i with
  | none => rw [q] at h; cases h
  | some j => rw [q] at h; exact r.get h
theorem giveO_of {Z : Nat → M3.Hh → Prop} {o : Option M3.D} {G : M3.Hh} {P : M3.D → M3.Hh → Prop} (h : M3.run (M3.giveO o) G P Z) : ∃ d, o = some d ∧ P d G := by
  cases o with
  | none => exact False.elim h
  | some d => exact ⟨d, rfl, h⟩
/-- d[k] -/
theorem ix_dict (hu : X.A.units + 1 < cLine) : IxR X (fun x y H Q => ∃ a v, x = .ref a ∧ DGet H a y (some v) ∧ Q v H) := by
  intro value slice pins s σ H x y v u Q I rx ry h hs
  obtain ⟨a, z, rfl, g, q⟩ := h
  cases (show v = Value.ref a from rx)
  exact tail_any (dict_typeIs I g) PySem.F.slot_dict_getitem.lookup (d_getItem hu I g ry fun w' s3 I3 rw' => ⟨z, H, I3, rw', q⟩) hs
/-- x[i] of a list, a tuple, a dict -/
def rIxD (K : PySem.W.Frag) : R2 := fun x y H Q => rIxL K x y H Q ∨ (fun x y H Q => rIxT K x y H Q ∨ ∃ a v, x = .ref a ∧ DGet H a y (some v) ∧ Q v H) x y H Q
theorem br_oIx {K : PySem.W.Frag} : Br2 T K Y M3.oIx (rIxD K) := by
  intro μ H G x y v w Q S dx dy h
  cases x with
  | tup xs =>
    cases y with
    | int i =>
      obtain ⟨d, e, q⟩ := giveO_of h
      obtain ⟨p, vs, rfl, sq, r⟩ := dx
      obtain ⟨z, e2, r2⟩ := atI_of r e
      exact .inr (.inl ⟨p, vs, i, z, rfl, dy, sq, e2, q z H μ (Up.refl _ _) S r2⟩)
    | _ => exact False.elim h
  | ref n =>
    unfold M3.run M3.oIx at h
    dsimp only at h
    obtain ⟨p, ep, rfl⟩ := dx
    cases qn : G[n]? with
    | none => rw [qn] at h; exact False.elim h
    | some o =>
      have ob := S.obj n p o ep qn
      cases o with
      | lst xs =>
        cases y with
        | int i =>
          rw [qn] at h
          obtain ⟨d, e, q⟩ := giveO_of (P := PostV T K μ H Q) h
          obtain ⟨vs, e1, r⟩ := ob
          obtain ⟨z, e2, r2⟩ := atI_of r e
          exact .inl ⟨p, vs, i, z, rfl, dy, SqL.of e1, e2, q z H μ (Up.refl _ _) S r2⟩
        | _ => rw [qn] at h; exact False.elim h
      | frz xs =>
        cases y with
        | int i =>
          rw [qn] at h
          obtain ⟨d, e, q⟩ := giveO_of (P := PostV T K μ H Q) h
          obtain ⟨vs, e1, r⟩ := ob
          obtain ⟨z, e2, r2⟩ := atI_of r e
          exact .inl ⟨p, vs, i, z, rfl, dy, e1.sq, e2, q z H μ (Up.refl _ _) S r2⟩
        | _ => rw [qn] at h; exact False.elim h
      | dK kvs =>
        have h2 : M3.run (fun G => match M3.keyK y with
          | some k => M3.giveO (M3.look kvs k) G
          | none => none) G (PostV T K μ H Q) (Y.x μ H) := by
          rw [qn] at h
          cases y <;> exact h
        unfold M3.run at h2
        dsimp only at h2
        cases qk : M3.keyK y with
        | none => rw [qk] at h2; exact False.elim h2
        | some k =>
          rw [qk] at h2
          obtain ⟨d, e, q⟩ := giveO_of (P := PostV T K μ H Q) h2
          obtain ⟨ws, e1, r⟩ := ob
          cases keyK_of qk dy
          rcases look_of k r with ⟨z, _⟩ | ⟨d', z, l1, l2, r2⟩
          · rw [z] at e; cases e
          · rw [l1] at e; cases e
            exact .inr (.inr ⟨p, z, rfl, by rw [← l2]; exact DGet.k e1, q z H μ (Up.refl _ _) S r2⟩)
      | dT kvs => rw [qn] at h; cases y <;> exact False.elim h
      | ins C fs => rw [qn] at h; cases y <;> exact False.elim h
  | _ => exact False.elim h
theorem x_ix (hu : X.A.units + 1 < cLine) (ha : PE X a (tE T X.K Y fa)) (hb : PE X b (tE T X.K Y fb)) (hs : PlainIx b := by intro _ _; rfl) : PE X (.Subscript a b pos) (tE T X.K Y (M3.eOp M3.oIx fa fb)) :=
  PE.of (pe_ix (ix_list.or (ix_tup.or (ix_dict hu))) ha hb hs) fun _ _ _ h => t_op br_oIx h
end
end L3

namespace L3
open PySem PySem.Spec PyProof.Rows L2 PySem.SeqAt
section
variable {X : Cx} {T : Tab} {Y : EX} {a b e o : Expr} {es : List Expr} {fa fb : M3.E3} {ta tb : M3.T3} {f3 : M3.A3} {pos p : Pos} {rest : List Expr} {g : List M3.D → M3.M M3.D}
/-! calls of Python's own -/
def BrA (T : Tab) (K : PySem.W.Frag) (Y : EX) (g : List M3.D → M3.M M3.D) (r : List V → Hp → VK → Prop) : Prop :=
  ∀ μ H G ds vs Q, Sim T K μ H G → Dens K H μ ds vs → M3.run (g ds) G (PostV T K μ H Q) (Y.x μ H) → r vs H Q
theorem t_call {K : PySem.W.Frag} {r : List V → Hp → VK → Prop} (br : BrA T K Y g r) {σ : L2.St} {H : Hp} {Q : VK} (h : tE T K Y (M3.eCall g f3) σ H Q) : tCB r (tA T K Y f3) σ H Q := by
  obtain ⟨μ, σ3, G, S, sd, h⟩ := h
  exact ⟨μ, σ3, G, S, sd, stepA h fun ds G1 vs H1 μ1 u1 S1 d1 h1 => br μ1 H1 G1 ds vs Q S1 d1 (runUp h1 fun _ _ q => q.up u1)⟩
theorem x_callB {x : Str} {id : String} {r : List V → Hp → VK → Prop} (hc : CallR X (.builtin id) r) (br : BrA T X.K Y g r) (hm : X.mg x = none) (hv : bootBuiltins x = some (.builtin id)) (ha : PA X (e :: es) (tA T X.K Y f3)) (hg : Gl X x := by rfl) (hn : x ≠ "__name__" := by decide) (hdb : (x == ("__debug__" : Str)) = false := by decide)
    (he : starEach (e :: es) X.env = (false, eval e X.env) :: starEach es X.env := by rfl) (hpl : (backTo pos (starEach es X.env)).any (·.1) = false := by rfl) : PE X (.Call (.Name x p) (e :: es) [] pos) (tE T X.K Y (M3.eCall g f3)) :=
  PE.of (pe_callB hc hg hm hv ha hn hdb he hpl) fun _ _ _ h => t_call br h
theorem x_callTy {x : Str} {id : String} {r : List V → Hp → VK → Prop} (hc : CallR X (.type id) r) (br : BrA T X.K Y g r) (hm : X.mg x = none) (hv : bootBuiltins x = some (.type id)) (ha : PA X (e :: es) (tA T X.K Y f3)) (hg : Gl X x := by rfl) (hn : x ≠ "__name__" := by decide) (hdb : (x == ("__debug__" : Str)) = false := by decide)
    (he : starEach (e :: es) X.env = (false, eval e X.env) :: starEach es X.env := by rfl) (hpl : (backTo pos (starEach es X.env)).any (·.1) = false := by rfl) : PE X (.Call (.Name x p) (e :: es) [] pos) (tE T X.K Y (M3.eCall g f3)) :=
  PE.of (pe_callTy hc hg hm hv ha hn hdb he hpl) fun _ _ _ h => t_call br h

theorem dens1 {K : PySem.W.Frag} {H : Hp} {μ : List Addr} {d : M3.D} {vs : List V} (h : Dens K H μ [d] vs) : ∃ v, vs = [v] ∧ Den K H μ d v := by
  obtain ⟨v, r, rfl, h, t⟩ := h
  cases (show r = [] from t)
  exact ⟨v, rfl, h⟩
theorem dens2 {K : PySem.W.Frag} {H : Hp} {μ : List Addr} {d c : M3.D} {vs : List V} (h : Dens K H μ [d, c] vs) : ∃ v w, vs = [v, w] ∧ Den K H μ d v ∧ Den K H μ c w := by
  obtain ⟨v, r, rfl, h, t⟩ := h
  obtain ⟨w, rfl, h2⟩ := dens1 t
  exact ⟨v, w, rfl, h, h2⟩
/-! len -/
def rLen (K : PySem.W.Frag) : List V → Hp → VK → Prop := fun xs H Q => (∃ x n, xs = [x] ∧ LenV K x H n ∧ Q (.int n) H) ∨ ∃ a kvs, xs = [V.ref a] ∧ H a = some (.dK kvs) ∧ Q (.int kvs.length) H
theorem br_len {K : PySem.W.Frag} : BrA T K Y M3.bLen (rLen K) := by
  intro μ H G ds vs Q S d h
  unfold M3.run M3.bLen at h
  match ds, d, h with
  | [.tup xs], d, h =>
    obtain ⟨v, rfl, a, ws, rfl, sq, r⟩ := dens1 d
    dsimp only at h
    by_cases c : xs.length ≤ M3.sizeL
    · rw [if_pos c] at h
      refine .inl ⟨_, xs.length, rfl, .inr ⟨ws, sq, r.length⟩, h _ H μ (Up.refl _ _) S rfl⟩
    · rw [if_neg c] at h; exact False.elim h
  | [.str x], d, h =>
    obtain ⟨v, rfl, d'⟩ := dens1 d
    cases (show v = .str x from d')
    dsimp only at h
    by_cases c : x.length ≤ M3.sizeL
    · rw [if_pos c] at h
      exact .inl ⟨_, x.length, rfl, ⟨by rw [← sizeL_eq]; exact c, rfl⟩, h _ H μ (Up.refl _ _) S rfl⟩
    · rw [if_neg c] at h; exact False.elim h
  | [.ref n], d, h =>
    obtain ⟨v, rfl, a, ea, rfl⟩ := dens1 d
    dsimp only at h
    cases q : G[n]? with
    | none => rw [q] at h; exact False.elim h
    | some o =>
      rw [q] at h
      have ob := S.obj n a o ea q
      cases o with
      | lst xs => obtain ⟨ws, e1, r⟩ := ob; exact .inl ⟨_, xs.length, rfl, .inl ⟨ws, SqL.of e1, r.length⟩, h _ H μ (Up.refl _ _) S rfl⟩
      | frz xs => obtain ⟨ws, e1, r⟩ := ob; exact .inl ⟨_, xs.length, rfl, .inl ⟨ws, e1.sq, r.length⟩, h _ H μ (Up.refl _ _) S rfl⟩
      | dK kvs => obtain ⟨ws, e1, r⟩ := ob; exact .inr ⟨a, ws, rfl, e1, by rw [← Paired.length r]; exact h _ H μ (Up.refl _ _) S rfl⟩
      | dT kvs => exact False.elim h
      | ins C fs => exact False.elim h
  | [], _, h => exact False.elim h
  | [.non], _, h => exact False.elim h
  | [.bl _], _, h => exact False.elim h
  | [.int _], _, h => exact False.elim h
  | x :: _ :: _, _, h => cases x <;> exact False.elim h
theorem x_bLen (hm : X.mg "len" = none) (ha : PA X (e :: es) (tA T X.K Y f3)) (hg : Gl X "len" := by rfl) (he : starEach (e :: es) X.env = (false, eval e X.env) :: starEach es X.env := by rfl) (hpl : (backTo pos (starEach es X.env)).any (·.1) = false := by rfl) :
    PE X (.Call (.Name "len" p) (e :: es) [] pos) (tE T X.K Y (M3.eCall M3.bLen f3)) := x_callB (call_len.or call_lenD) br_len hm boot_len ha hg (by decide) (by decide) he hpl
/-! min, max -/
theorem br_min {K : PySem.W.Frag} : BrA T K Y M3.bMin (fun xs H Q => ∃ i j, xs = [.int i, .int j] ∧ Q (.int (if j < i then j else i)) H) := by
  intro μ H G ds vs Q S d h
  unfold M3.run M3.bMin at h
  match ds, d, h with
  | [.int i, .int j], d, h =>
    obtain ⟨v, w, rfl, d1, d2⟩ := dens2 d
    cases d1; cases d2
    exact ⟨_, _, rfl, h _ H μ (Up.refl _ _) S rfl⟩
  | [], _, h => exact False.elim h
  | [x], _, h => cases x <;> exact False.elim h
  | .non :: _ :: _, _, h => exact False.elim h
  | .bl _ :: _ :: _, _, h => exact False.elim h
  | .str _ :: _ :: _, _, h => exact False.elim h
  | .tup _ :: _ :: _, _, h => exact False.elim h
  | .ref _ :: _ :: _, _, h => exact False.elim h
  | .int _ :: .non :: _, _, h => exact False.elim h
  | .int _ :: .bl _ :: _, _, h => exact False.elim h
  | .int _ :: .str _ :: _, _, h => exact False.elim h
  | .int _ :: .tup _ :: _, _, h => exact False.elim h
  | .int _ :: .ref _ :: _, _, h => exact False.elim h
  | .int _ :: .int _ :: _ :: _, _, h => exact False.elim h
theorem x_bMin (hc : X.calm = true) (hm : X.mg "min" = none) (ha : PA X (e :: es) (tA T X.K Y f3)) (hg : Gl X "min" := by rfl) (he : starEach (e :: es) X.env = (false, eval e X.env) :: starEach es X.env := by rfl) (hpl : (backTo pos (starEach es X.env)).any (·.1) = false := by rfl) :
    PE X (.Call (.Name "min" p) (e :: es) [] pos) (tE T X.K Y (M3.eCall M3.bMin f3)) := x_callB (call_min2 hc) br_min hm boot_min ha hg (by decide) (by decide) he hpl
theorem maxI_mem : ∀ (r : List Int) (m : Int), M3.maxI m r ∈ m :: r
  | [], m => List.mem_cons_self
  | x :: r, m => by
    have h := maxI_mem r (if x > m then x else m)
    show M3.maxI (if x > m then x else m) r ∈ m :: x :: r
    rcases List.mem_cons.mp h with h | h
    · rw [h]; split
      · exact List.mem_cons_of_mem _ List.mem_cons_self
      · exact List.mem_cons_self
    · exact List.mem_cons_of_mem _ (List.mem_cons_of_mem _ h)
theorem maxI_le : ∀ (r : List Int) (m a : Int), a ∈ m :: r → a ≤ M3.maxI m r
  | [], m, a, h => by simp at h; exact Int.le_of_eq h
  | x :: r, m, a, h => by
    show a ≤ M3.maxI (if x > m then x else m) r
    have h1 := maxI_le r (if x > m then x else m) (if x > m then x else m) List.mem_cons_self
    rcases List.mem_cons.mp h with h | h
    · subst h; split at h1 <;> (try split) <;> omega
    · rcases List.mem_cons.mp h with h | h
      · subst h; split at h1 <;> (try split) <;> omega
      · exact maxI_le r _ a (List.mem_cons_of_mem _ h)
theorem call_maxL (hc : X.calm = true) : CallR X (.builtin "max") (fun xs H Q => ∃ a m r, xs = [.ref a] ∧ SqL X.K H a ((m :: r).map V.int) ∧ Q (.int (M3.maxI m r)) H) := by
  intro pins s σ H xs us Q I rv h
  obtain ⟨a, m, r, rfl, sq, q⟩ := h
  obtain ⟨u, rfl, ru⟩ := vals1 rv
  cases ru
  obtain ⟨its, qv, pl, _⟩ := I.list sq
  have hi : IntsAre its (m :: r) := intsAre_of qv
  obtain ⟨xs, e⟩ := hi.allInts.items
  have hns : m :: r = xs.toList.map (·.1) := by rw [← hi.numsOf, ← nums_intItems, ← e]
  have hsz : 0 < xs.size := by
    have h3 := congrArg List.length hns
    rw [List.length_map, Array.length_toList] at h3
    simp at h3; omega
  have hl := pl.isList
  rw [e] at hl
  refine max_intList (I.ok.hd hc) hl hsz fun v h' tk hv hk => ?_
  obtain ⟨t, rfl⟩ := intItems_at hv
  obtain ⟨h1, h2⟩ := argBest_gt (numAt xs) (xs.size - 1)
  have hmem : numAt xs (argBest (fun i j => decide (numAt xs i > numAt xs j)) (xs.size - 1)) ∈ m :: r := by
    rw [hns, numAt_eq]; exact getD_mem (by rw [List.length_map, Array.length_toList]; omega)
  have hle : M3.maxI m r ≤ numAt xs (argBest (fun i j => decide (numAt xs i > numAt xs j)) (xs.size - 1)) := by
    have hM := maxI_mem r m
    rw [hns] at hM
    obtain ⟨j, hj, ej⟩ := mem_getD hM
    rw [List.length_map, Array.length_toList] at hj
    rw [← ej, ← numAt_eq]; exact h2 j (by omega)
  have heq : numAt xs (argBest (fun i j => decide (numAt xs i > numAt xs j)) (xs.size - 1)) = M3.maxI m r := Int.le_antisymm (maxI_le r m _ hmem) hle
  exact ⟨.int _, H, I.kept hk, ⟨t, by rw [heq]⟩, q⟩
def rMax (K : PySem.W.Frag) : List V → Hp → VK → Prop := fun xs H Q => (∃ i j, xs = [.int i, .int j] ∧ Q (.int (if j > i then j else i)) H) ∨ ∃ a m r, xs = [.ref a] ∧ SqL K H a ((m :: r).map V.int) ∧ Q (.int (M3.maxI m r)) H
theorem br_max {K : PySem.W.Frag} : BrA T K Y M3.bMax (rMax K) := by
  intro μ H G ds vs Q S d h
  unfold M3.run M3.bMax at h
  match ds, d, h with
  | [.int i, .int j], d, h =>
    obtain ⟨v, w, rfl, d1, d2⟩ := dens2 d
    cases d1; cases d2
    exact .inl ⟨_, _, rfl, h _ H μ (Up.refl _ _) S rfl⟩
  | [.ref n], d, h =>
    obtain ⟨v, rfl, a, ea, rfl⟩ := dens1 d
    dsimp only at h
    cases q : G[n]? with
    | none => rw [q] at h; exact False.elim h
    | some o =>
      rw [q] at h
      have ob := S.obj n a o ea q
      cases o with
      | lst xs =>
        obtain ⟨ws, e1, r⟩ := ob
        dsimp only at h
        cases qi : M3.intsOf xs with
        | none => rw [qi] at h; exact False.elim h
        | some ns =>
          rw [qi] at h
          cases ns with
          | nil => exact False.elim h
          | cons m t =>
            rw [intsOf_map qi] at r
            rw [Dens.ints r] at e1
            exact .inr ⟨a, m, t, rfl, SqL.of e1, h _ H μ (Up.refl _ _) S rfl⟩
      | _ => exact False.elim h
  | [], _, h => exact False.elim h
  | [.non], _, h => exact False.elim h
  | [.bl _], _, h => exact False.elim h
  | [.int _], _, h => exact False.elim h
  | [.str _], _, h => exact False.elim h
  | [.tup _], _, h => exact False.elim h
  | .non :: _ :: _, _, h => exact False.elim h
  | .bl _ :: _ :: _, _, h => exact False.elim h
  | .str _ :: _ :: _, _, h => exact False.elim h
  | .tup _ :: _ :: _, _, h => exact False.elim h
  | .ref _ :: _ :: _, _, h => exact False.elim h
  | .int _ :: .non :: _, _, h => exact False.elim h
  | .int _ :: .bl _ :: _, _, h => exact False.elim h
  | .int _ :: .str _ :: _, _, h => exact False.elim h
  | .int _ :: .tup _ :: _, _, h => exact False.elim h
  | .int _ :: .ref _ :: _, _, h => exact False.elim h
  | .int _ :: .int _ :: _ :: _, _, h => exact False.elim h
theorem x_bMax (hc : X.calm = true) (hm : X.mg "max" = none) (ha : PA X (e :: es) (tA T X.K Y f3)) (hg : Gl X "max" := by rfl) (he : starEach (e :: es) X.env = (false, eval e X.env) :: starEach es X.env := by rfl) (hpl : (backTo pos (starEach es X.env)).any (·.1) = false := by rfl) :
    PE X (.Call (.Name "max" p) (e :: es) [] pos) (tE T X.K Y (M3.eCall M3.bMax f3)) := x_callB ((call_max2 hc).or (call_maxL hc)) br_max hm boot_max ha hg (by decide) (by decide) he hpl
/-! list(x), int(x) -/
theorem br_list {K : PySem.W.Frag} : BrA T K Y M3.bList (fun xs H Q => ∃ p ys, xs = [.ref p] ∧ (SqL K H p ys ∨ SqT K H p ys) ∧ ∀ l, H l = none → Q (.ref l) (upd H l (.lst ys))) := by
  intro μ H G ds vs Q S d h
  have fin : ∀ {xs : List M3.D} {ws : List V}, Dens K H μ xs ws → PostV T K μ H Q (.ref G.length) (G ++ [.lst xs]) → ∀ l, H l = none → Q (.ref l) (upd H l (.lst ws)) := by
    intro xs ws r q l hl
    have u2 := Up.new (μ := μ) (.lst ws) hl
    refine q _ _ (μ ++ [l]) u2 (S.new hl rfl ⟨ws, upd_same, Dens.up u2 r⟩) ⟨l, ?_, rfl⟩
    rw [← S.len]; simp
  unfold M3.run M3.bList at h
  match ds, d, h with
  | [.tup xs], d, h =>
    obtain ⟨v, rfl, a, ws, rfl, sq, r⟩ := dens1 d
    dsimp only at h
    by_cases c : xs.length ≤ M3.sizeL
    · rw [if_pos c] at h
      exact ⟨a, ws, rfl, .inr sq, fin r h⟩
    · rw [if_neg c] at h; exact False.elim h
  | [.ref n], d, h =>
    obtain ⟨v, rfl, a, ea, rfl⟩ := dens1 d
    dsimp only at h
    cases q : G[n]? with
    | none => rw [q] at h; exact False.elim h
    | some o =>
      rw [q] at h
      have ob := S.obj n a o ea q
      cases o with
      | lst xs => obtain ⟨ws, e1, r⟩ := ob; exact ⟨a, ws, rfl, .inl (SqL.of e1), fin r h⟩
      | frz xs => obtain ⟨ws, e1, r⟩ := ob; exact ⟨a, ws, rfl, .inl e1.sq, fin r h⟩
      | _ => exact False.elim h
  | [], _, h => exact False.elim h
  | [.non], _, h => exact False.elim h
  | [.bl _], _, h => exact False.elim h
  | [.int _], _, h => exact False.elim h
  | [.str _], _, h => exact False.elim h
  | x :: _ :: _, _, h => cases x <;> exact False.elim h
theorem x_bList (hm : X.mg "list" = none) (ha : PA X (e :: es) (tA T X.K Y f3)) (hg : Gl X "list" := by rfl) (he : starEach (e :: es) X.env = (false, eval e X.env) :: starEach es X.env := by rfl) (hpl : (backTo pos (starEach es X.env)).any (·.1) = false := by rfl) :
    PE X (.Call (.Name "list" p) (e :: es) [] pos) (tE T X.K Y (M3.eCall M3.bList f3)) := x_callTy call_list_of br_list hm boot_list ha hg (by decide) (by decide) he hpl
theorem call_intS : CallR X (.type "int") (fun xs H Q => ∃ x n, xs = [.str x] ∧ PySem.intText? x = some n ∧ x.length ≤ 640 ∧ Q (.int n) H) := by
  intro pins s σ H xs us Q I r h
  obtain ⟨x, n, rfl, hn, hl, q⟩ := h
  obtain ⟨u, rfl, t, rfl⟩ := vals1 r
  exact PySem.W.KIN.call_text hn hl ⟨.int n, H, I.tok _, ⟨_, rfl⟩, q⟩
def rInt : List V → Hp → VK → Prop := fun xs H Q => ((∃ i, xs = [.int i] ∧ Q (.int i) H) ∨ ∃ k, xs = [.bl k] ∧ Q (.int (if k then 1 else 0)) H) ∨ ∃ x n, xs = [.str x] ∧ PySem.intText? x = some n ∧ x.length ≤ 640 ∧ Q (.int n) H
theorem br_int {K : PySem.W.Frag} : BrA T K Y M3.bInt rInt := by
  intro μ H G ds vs Q S d h
  unfold M3.run M3.bInt at h
  match ds, d, h with
  | [.int i], d, h => obtain ⟨v, rfl, d'⟩ := dens1 d; cases d'; exact .inl (.inl ⟨_, rfl, h _ H μ (Up.refl _ _) S rfl⟩)
  | [.bl i], d, h => obtain ⟨v, rfl, d'⟩ := dens1 d; cases d'; exact .inl (.inr ⟨_, rfl, h _ H μ (Up.refl _ _) S rfl⟩)
  | [.str x], d, h =>
    obtain ⟨v, rfl, d'⟩ := dens1 d
    cases (show v = .str x from d')
    dsimp only at h
    cases q : PySem.intText? x with
    | none => rw [q] at h; exact False.elim h
    | some n =>
      rw [q] at h
      dsimp only at h
      by_cases c : x.length ≤ 640
      · rw [if_pos c] at h
        exact .inr ⟨x, n, rfl, q, c, h _ H μ (Up.refl _ _) S rfl⟩
      · rw [if_neg c] at h; exact False.elim h
  | [], _, h => exact False.elim h
  | [.non], _, h => exact False.elim h
  | [.ref _], _, h => exact False.elim h
  | [.tup _], _, h => exact False.elim h
  | x :: _ :: _, _, h => cases x <;> exact False.elim h
theorem x_bInt (hm : X.mg "int" = none) (ha : PA X (e :: es) (tA T X.K Y f3)) (hg : Gl X "int" := by rfl) (he : starEach (e :: es) X.env = (false, eval e X.env) :: starEach es X.env := by rfl) (hpl : (backTo pos (starEach es X.env)).any (·.1) = false := by rfl) :
    PE X (.Call (.Name "int" p) (e :: es) [] pos) (tE T X.K Y (M3.eCall M3.bInt f3)) := x_callTy (call_int1.or call_intS) br_int hm boot_int ha hg (by decide) (by decide) he hpl
end
end L3

namespace L3
open PySem PySem.Spec PyProof.Rows L2 PySem.SeqAt
section
variable {X : Cx} {T : Tab} {Y : EX} {a b e o : Expr} {es : List Expr} {fa fb : M3.E3} {ta tb : M3.T3} {f3 : M3.A3} {pos p : Pos} {rest : List Expr} {g : List M3.D → M3.M M3.D}
/-! isinstance -/
def kn : M3.Kd → String
  | .non => "NoneType" | .bl => "bool" | .int => "int" | .str => "str" | .tup => "tuple" | .lst => "list" | .dic => "dict"
def TyD (K : PySem.W.Frag) (H : Hp) : V → M3.Kd → Prop
  | .non, k => k = .non
  | .bl _, k => k = .bl
  | .int _, k => k = .int
  | .str _, k => k = .str
  | .ref a, k => (k = .lst ∧ ∃ xs, SqL K H a xs) ∨ (k = .tup ∧ ∃ xs, SqT K H a xs) ∨ (k = .dic ∧ ((∃ kvs, H a = some (.dK kvs)) ∨ ∃ kvs, H a = some (.dT kvs)))
  | _, _ => False
theorem kit_of (K : PySem.W.Frag) (k c : M3.Kd) : PySem.W.kitOne K (.type (kn k)) (.type (kn c)) = some (M3.subK k c) := by
  cases k <;> cases c <;> rfl
theorem call_is : CallR X (.builtin "isinstance") (fun xs H Q => ∃ x k c, xs = [x, .ty (kn c)] ∧ TyD X.K H x k ∧ Q (.bl (M3.subK k c)) H) := by
  intro pins s σ H xs us Q I r h
  obtain ⟨x, k, c, rfl, ty, q⟩ := h
  obtain ⟨u, w', rfl, ru, rc⟩ := vals2 r
  cases (show w' = Value.type (kn c) from rc)
  have fin : ∀ tk, EP X pins σ Q (.bool (M3.subK k c)) { s with toks := tk } := fun tk => ⟨.bl _, H, I.tok tk, rfl, q⟩
  cases x with
  | non => cases (show u = Value.none from ru); cases (show k = .non from ty); exact PySem.W.kia_one PySem.W.kitx_none I.kIn True.intro (kit_of X.K .non c) (fun z => nomatch z) fin
  | bl y => cases (show u = Value.bool y from ru); cases (show k = .bl from ty); exact PySem.W.kia_one PySem.W.kitx_bool I.kIn True.intro (kit_of X.K .bl c) (fun z => nomatch z) fin
  | int y => obtain ⟨t, rfl⟩ := (show ∃ t, u = Value.int y t from ru); cases (show k = .int from ty); exact PySem.W.kia_one PySem.W.kitx_int I.kIn True.intro (kit_of X.K .int c) (fun z => nomatch z) fin
  | str y => obtain ⟨t, rfl⟩ := (show ∃ t, u = Value.str y t from ru); cases (show k = .str from ty); exact PySem.W.kia_one PySem.W.kitx_str I.kIn True.intro (kit_of X.K .str c) (fun z => nomatch z) fin
  | ref a =>
    cases (show u = Value.ref a from ru)
    rcases ty with ⟨rfl, xs, sq⟩ | ⟨rfl, xs, sq⟩ | ⟨rfl, ⟨kvs, ea⟩ | ⟨kvs, ea⟩⟩
    · obtain ⟨its, _, ⟨ob, n, h1, h2, _⟩, _⟩ := I.list sq
      exact PySem.W.kia_one PySem.W.kitx_list I.kIn ⟨ob, h1, h2⟩ (kit_of X.K .lst c) (fun z => nomatch z) fin
    · obtain ⟨its, _, ⟨ob, h1, h2, _⟩, _⟩ := I.tuple sq
      exact PySem.W.kia_one PySem.W.kitx_tuple I.kIn ⟨ob, h1, h2⟩ (kit_of X.K .tup c) (fun z => nomatch z) fin
    · obtain ⟨_, _, vs, _, pd⟩ := (show ObjOk X.prog X.w H s.heap a (.dK kvs) from I.hok a _ ea)
      obtain ⟨ob, es, ep, h1, h2, _⟩ := pd
      exact PySem.W.kia_one PySem.W.kitx_dict I.kIn ⟨ob, h1, h2.1⟩ (kit_of X.K .dic c) (fun z => nomatch z) fin
    · obtain ⟨_, _, xs, _, ob, es, ep, h1, h2, _⟩ := (show ObjOk X.prog X.w H s.heap a (.dT kvs) from I.hok a _ ea)
      exact PySem.W.kia_one PySem.W.kitx_dict I.kIn ⟨ob, h1, h2.1⟩ (kit_of X.K .dic c) (fun z => nomatch z) fin
  | _ => exact False.elim ty
theorem kd_of {K : PySem.W.Frag} {μ : List Addr} {H : Hp} {G : M3.Hh} (S : Sim T K μ H G) {d : M3.D} {v : V} {k : M3.Kd} (r : Den K H μ d v) (h : M3.kdOf G d = some k) : TyD K H v k := by
  cases d with
  | non => cases (show v = .non from r); cases h; rfl
  | bl _ => cases r; cases h; rfl
  | int _ => cases r; cases h; rfl
  | str _ => cases r; cases h; rfl
  | tup ds => obtain ⟨a, vs, rfl, sq, _⟩ := r; cases h; exact .inr (.inl ⟨rfl, vs, sq⟩)
  | ref n =>
    obtain ⟨a, ea, rfl⟩ := r
    unfold M3.kdOf at h
    dsimp only at h
    cases q : G[n]? with
    | none => rw [q] at h; cases h
    | some ob =>
      rw [q] at h
      have od := S.obj n a ob ea q
      cases ob with
      | lst xs => cases h; obtain ⟨vs, e1, _⟩ := od; exact .inl ⟨rfl, vs, SqL.of e1⟩
      | frz xs => cases h; obtain ⟨vs, e1, _⟩ := od; exact .inl ⟨rfl, vs, e1.sq⟩
      | dK kvs => cases h; obtain ⟨vs, e1, _⟩ := od; exact .inr (.inr ⟨rfl, .inl ⟨vs, e1⟩⟩)
      | dT kvs => cases h; obtain ⟨vs, e1, _⟩ := od; exact .inr (.inr ⟨rfl, .inr ⟨vs, e1⟩⟩)
      | ins C fs => cases h
theorem x_is (c : M3.Kd) {n : Str} {p2 : Pos} (hi : X.mg "isinstance" = none) (hm : X.mg n = none) (ha : PE X e (tE T X.K Y fa)) (hn : bootBuiltins n = some (.type (kn c)) := by first | exact boot_int | exact boot_bool | exact boot_str | exact boot_tuple | exact boot_list | exact boot_dict)
    (hg : Gl X "isinstance" := by rfl) (hg2 : Gl X n := by rfl) (hn2 : n ≠ "__name__" := by decide) (hdb : (n == ("__debug__" : Str)) = false := by decide)
    (he : starEach [e, .Name n p2] X.env = (false, eval e X.env) :: starEach [.Name n p2] X.env := by rfl) (he2 : starEach [.Name n p2] X.env = (false, eval (.Name n p2) X.env) :: starEach [] X.env := by rfl)
    (hpl : (backTo pos (starEach [.Name n p2] X.env)).any (·.1) = false := by rfl) : PE X (.Call (.Name "isinstance" p) [e, .Name n p2] [] pos) (tE T X.K Y (M3.eCall (M3.bIs c) (M3.aCons fa M3.aNil))) := by
  refine PE.of (pe_callB call_is hg hi boot_isinstance (pa_cons ha (pa_cons (pe_bltn hg2 hm hn (v := .ty (kn c)) rfl hn2 hdb) pa_nil he2) he) (by decide) (by decide) he hpl) fun σ H Q ⟨μ, σ3, G, S, sd, h⟩ => ?_
  refine ⟨μ, σ3, G, S, sd, stepV (M3.run_bnd h) fun d G1 v H1 μ1 u1 S1 d1 h1 => ?_⟩
  have h2 : M3.run (M3.bIs c [d]) G1 (PostV T X.K μ H Q) (Y.x μ H) := h1
  unfold M3.run M3.bIs at h2
  dsimp only at h2
  cases q : M3.kdOf G1 d with
  | none => rw [q] at h2; exact False.elim h2
  | some k =>
    rw [q] at h2
    exact ⟨v, k, c, rfl, kd_of S1 d1 q, h2 _ H1 μ1 u1 S1 rfl⟩

/-! xs.append(y) -/
theorem isL_of {Z : Nat → M3.Hh → Prop} {x : M3.D} {G : M3.Hh} {P : Unit → M3.Hh → Prop} (h : M3.run (M3.isL x) G P Z) : ∃ n xs, x = .ref n ∧ G[n]? = some (.lst xs) ∧ P () G := by
  unfold M3.run M3.isL at h
  cases x with
  | ref n =>
    dsimp only at h
    cases q : G[n]? with
    | none => rw [q] at h; exact False.elim h
    | some o =>
      rw [q] at h
      cases o with
      | lst xs => exact ⟨n, xs, rfl, q, h⟩
      | _ => exact False.elim h
  | _ => exact False.elim h
theorem append_of {Z : Nat → M3.Hh → Prop} {n : Nat} {y : M3.D} {G : M3.Hh} {P : M3.D → M3.Hh → Prop} (h : M3.run (M3.mAppend (.ref n) y) G P Z) : ∃ xs, G[n]? = some (.lst xs) ∧ xs.length < M3.sizeL ∧ P .non (G.set n (.lst (xs ++ [y]))) := by
  unfold M3.run M3.mAppend at h
  dsimp only at h
  cases q : G[n]? with
  | none => rw [q] at h; exact False.elim h
  | some o =>
    rw [q] at h
    cases o with
    | lst xs =>
      dsimp only at h
      by_cases c : xs.length < M3.sizeL
      · rw [if_pos c] at h; exact ⟨xs, rfl, c, h⟩
      · rw [if_neg c] at h; exact False.elim h
    | _ => exact False.elim h
theorem x_append {apos : Pos} (ho : PE X o (tE T X.K Y fa)) (he : PE X e (tE T X.K Y fb))
    (hbase : attributeBase o "append" X.env (eval o X.env) = eval o X.env := by rfl)
    (hfew : ((backTo pos (starEach (e :: []) X.env)).all (fun x => !x.1) && (backToKw pos (keywordEach [] X.env)).all (fun x => x.1.isSome)
      && decide ((e :: ([] : List Expr)).length + ([] : List Keyword).length + (if ([] : List Keyword).isEmpty then 0 else 1) < 30)) = true := by rfl)
    (hline : (apos.endLine == pos.line) = true := by rfl) (hs : starEach (e :: []) X.env = (false, eval e X.env) :: starEach [] X.env := by rfl) (hplain : (backTo pos (starEach [] X.env)).any (·.1) = false := by rfl) :
    PE X (.Call (.Attribute o "append" apos) [e] [] pos) (tE T X.K Y (M3.eApp fa fb)) := by
  refine PE.of (pe_bm PySem.F.plainAttrs_list PySem.F.slot_list_append PySem.F.type_list_append mt_append ho (pa_cons he pa_nil hs) hbase hfew hline hs hplain) fun σ H Q ⟨μ, σ3, G, S, sd, h⟩ => ⟨μ, σ3, G, S, sd, stepV h fun d G1 v H1 μ1 u1 S1 d1 h1 => ?_⟩
  obtain ⟨n, xs, rfl, q, h1⟩ := isL_of (M3.run_bnd h1)
  obtain ⟨a, ea, rfl⟩ := id d1
  obtain ⟨vs, e1, r1⟩ := S1.obj n a _ ea q
  refine ⟨.inl ⟨rfl, vs, SqL.of e1⟩, μ1, σ3, G1, S1, sd.up u1, stepV h1 fun y G2 w H2 μ2 u2 S2 d2 h2 => ?_⟩
  obtain ⟨xs2, q2, hl, h3⟩ := append_of h2
  have ea2 := u2.at ea
  obtain ⟨vs2, e2, r2⟩ := S2.obj n a _ ea2 q2
  have up := Up.set S2 (.lst (vs2 ++ [w])) ea2 q2 rfl
  refine ⟨a, vs2, w, rfl, rfl, e2, by rw [← r2.length, ← sizeL_eq]; exact hl, ?_⟩
  exact h3 _ _ μ2 ((u1.trans u2).trans up) (S2.set ea2 q2 rfl rfl ⟨_, upd_same, Dens.up up (r2.append (Dens.one d2))⟩) rfl
/-! -x -/
theorem x_un {op : UnaryOp} {g1 : M3.D → M3.M M3.D} {r : V → Hp → VK → Prop} (br : UnR X (unaryOp op) r ∧ ∀ μ H G x v Q, Sim T X.K μ H G → Den X.K H μ x v → M3.run (g1 x) G (PostV T X.K μ H Q) (Y.x μ H) → r v H Q) (ha : PE X a (tE T X.K Y fa)) : PE X (.UnaryOp op a pos) (tE T X.K Y (M3.eUn g1 fa)) :=
  PE.of (pe_un br.1 ha) fun σ H Q ⟨μ, σ3, G, S, sd, h⟩ => ⟨μ, σ3, G, S, sd, stepV h fun x G1 v H1 μ1 u1 S1 d1 h1 => br.2 μ1 H1 G1 x v Q S1 d1 (runUp h1 fun _ _ q => q.up u1)⟩
theorem br_oNeg : UnR X (unaryOp .USub) (rU fun i => .int (-i)) ∧ ∀ μ H G x v Q, Sim T X.K μ H G → Den X.K H μ x v → M3.run (M3.oNeg x) G (PostV T X.K μ H Q) (Y.x μ H) → rU (fun i => .int (-i)) v H Q := ⟨un_neg, by
  intro μ H G x v Q S d h
  cases x with
  | int i => exact ⟨i, d, h _ H μ (Up.refl _ _) S rfl⟩
  | _ => exact False.elim h⟩

/-! what is walked -/
structure SrcD (T : Tab) (K : PySem.W.Frag) (μ : List Addr) (H : Hp) (src : M3.Src) (J : It) : Prop where
  go : ∀ (i : Nat) d μ' H' G', Up μ μ' H H' → Sim T K μ' H' G' → src.ck G' = true → src.xs[i]? = some d → J.go i H'
  yld : ∀ (i : Nat) d v μ' H' H'' G', Up μ μ' H H' → Sim T K μ' H' G' → src.ck G' = true → src.xs[i]? = some d → J.yld i H' v H'' → Same H' H'' ∧ Den K H'' μ' d v
  stop : ∀ μ' H' G', Up μ μ' H H' → Sim T K μ' H' G' → src.ck G' = true → J.stop src.xs.length H'
def PostI (T : Tab) (K : PySem.W.Frag) (μ : List Addr) (H : Hp) (R : It → Hp → Prop) (src : M3.Src) (G' : M3.Hh) : Prop := ∀ J H' μ', Up μ μ' H H' → Sim T K μ' H' G' → SrcD T K μ' H' src J → R J H'
def tI (T : Tab) (K : PySem.W.Frag) (Y : EX) (f : M3.I3) : TI := fun σ H R => ∃ μ σ3 G, Sim T K μ H G ∧ StD K H μ σ3 σ ∧ M3.run (f σ3) G (PostI T K μ H R) (Y.x μ H)
theorem PI.of {tg it : Expr} {t u : TI} (h : PI X tg it t) (f : ∀ σ H R, u σ H R → t σ H R) : PI X tg it u := fun pins s σ H R I q => h pins s σ H R I (f σ H R q)
def iSeq (K : PySem.W.Frag) (tl : TE) : TI := fun σ H R => tl σ H fun x H1 => ∃ a, x = .ref a ∧ (((∃ xs, SqL K H1 a xs) ∧ R (Itl K a) H1) ∨ ((∃ xs, SqT K H1 a xs) ∧ R (Itt K a) H1))
theorem pi_seq {tg l : Expr} {tl : TE} (hl : PE X l tl) : PI X tg l (iSeq X.K tl) := by
  intro pins s σ H R I h
  refine thn (hl pins s σ H _ I h) fun v s1 ⟨x, H1, I1, r1, q1⟩ => ?_
  obtain ⟨a, e, q⟩ := q1
  subst e
  cases r1
  rcases q with ⟨⟨xs, hq⟩, q⟩ | ⟨⟨xs, hq⟩, q⟩
  · obtain ⟨its, rv, pl, hz⟩ := I1.list hq
    refine wpAny_pyIter_list pl.isList ?_
    refine ⟨s1.heap.objs.size, [s1.heap.objs.size], _, _, H1, rfl, I1.kept (t' := s1.toks) fun b o e => Heap.get?_push_of_some _ e, turn_list a _, ⟨_, Heap.get?_push_size _ rfl, rfl, rfl⟩, fun b hb => ?_, q⟩
    have e : b = s1.heap.objs.size := by simpa using hb
    subst e
    exact I1.fpOk (Nat.le_refl _) (I1.hok.fresh (Nat.le_refl _))
  · obtain ⟨its, rv, pl, hz⟩ := I1.tuple hq
    refine wpAny_pyIter_tuple (show s1.heap.IsTuple a its.toArray from pl) ?_
    refine ⟨s1.heap.objs.size, [s1.heap.objs.size], _, _, H1, rfl, I1.kept (t' := s1.toks) fun b o e => Heap.get?_push_of_some _ e, turn_tuple a _, ⟨_, Heap.get?_push_size _ rfl, rfl, rfl⟩, fun b hb => ?_, q⟩
    have e : b = s1.heap.objs.size := by simpa using hb
    subst e
    exact I1.fpOk (Nat.le_refl _) (I1.hok.fresh (Nat.le_refl _))
theorem src_list {K : PySem.W.Frag} {μ : List Addr} {H : Hp} {n : Nat} {a : Addr} {xs : List M3.D} {o : M3.O} {ck : M3.Hh → Bool} (ea : μ[n]? = some a) (hck : ∀ G', ck G' = true → G'[n]? = some o) (ho : o = .lst xs ∨ o = .frz xs) : SrcD T K μ H ⟨xs, ck⟩ (Itl K a) := by
  have key : ∀ {μ' H' G'}, Up μ μ' H H' → Sim T K μ' H' G' → ck G' = true → ∃ vs, SqL K H' a vs ∧ Dens K H' μ' xs vs := by
    intro μ' H' G' u S c
    have ob := S.obj n a o (u.at ea) (hck G' c)
    rcases ho with rfl | rfl
    · obtain ⟨vs, e1, r⟩ := ob; exact ⟨vs, SqL.of e1, r⟩
    · obtain ⟨vs, e1, r⟩ := ob; exact ⟨vs, e1.sq, r⟩
  refine ⟨fun i d μ' H' G' u S c e => ?_, fun i d v μ' H' H'' G' u S c e y => ?_, fun μ' H' G' u S c => ?_⟩
  · obtain ⟨vs, sq, r⟩ := key u S c
    obtain ⟨v, e1, _⟩ := r.get e
    exact ⟨vs, v, sq, e1⟩
  · obtain ⟨vs, sq, r⟩ := key u S c
    obtain ⟨w, e1, dw⟩ := r.get e
    have := y.2 vs sq
    rw [e1] at this
    cases this
    obtain ⟨rfl, _⟩ := y; exact ⟨fun _ _ z => z, dw⟩
  · obtain ⟨vs, sq, r⟩ := key u S c
    exact ⟨vs, sq, Nat.le_of_eq r.length.symm⟩
theorem i_of {tg : Expr} {f : M3.E3} (h : PE X e (tE T X.K Y f)) : PI X tg e (tI T X.K Y (M3.iOf f)) := by
  refine PI.of (pi_seq h) fun σ H R ⟨μ, σ3, G, S, sd, h⟩ => ⟨μ, σ3, G, S, sd, stepV h fun d G1 v H1 μ1 u1 S1 d1 h1 => ?_⟩
  cases d with
  | tup ds =>
    obtain ⟨a, vs, rfl, sq, r⟩ := d1
    refine ⟨a, rfl, .inr ⟨⟨vs, sq⟩, h1 _ H1 μ1 u1 S1 ⟨fun i d μ' H' G' u S c e => ?_, fun i d v μ' H' H'' G' u S c e y => ?_, fun μ' H' G' u S c => ?_⟩⟩⟩
    · obtain ⟨v, e1, _⟩ := r.get e
      exact ⟨vs, v, SqT.keeps u.keeps sq, e1⟩
    · obtain ⟨w, e1, dw⟩ := r.get e
      have := y.2 vs (SqT.keeps u.keeps sq)
      rw [e1] at this
      cases this
      obtain ⟨rfl, _⟩ := y; exact ⟨fun _ _ z => z, Den.up u dw⟩
    · exact ⟨vs, SqT.keeps u.keeps sq, Nat.le_of_eq r.length.symm⟩
  | ref n =>
    obtain ⟨a, ea, rfl⟩ := d1
    unfold M3.run M3.srcOf at h1
    dsimp only at h1
    cases q : G1[n]? with
    | none => rw [q] at h1; exact False.elim h1
    | some o =>
      have ob := S1.obj n a o ea q
      cases o with
      | lst xs =>
        rw [q] at h1
        obtain ⟨vs, e1, r⟩ := ob
        exact ⟨a, rfl, .inl ⟨⟨vs, SqL.of e1⟩, h1 _ H1 μ1 u1 S1 (src_list ea (fun G' c => of_decide_eq_true c) (.inl rfl))⟩⟩
      | frz xs =>
        rw [q] at h1
        obtain ⟨vs, e1, r⟩ := ob
        exact ⟨a, rfl, .inl ⟨⟨vs, e1.sq⟩, h1 _ H1 μ1 u1 S1 (src_list ea (fun G' c => of_decide_eq_true c) (.inr rfl))⟩⟩
      | _ => rw [q] at h1; exact False.elim h1
  | _ => exact False.elim h1
theorem rngD {K : PySem.W.Frag} {μ : List Addr} {H : Hp} (i : Int) (n : Nat) : SrcD T K μ H ⟨M3.rng i n, fun _ => true⟩ (Itr i n) := by
  refine ⟨fun j d μ' H' G' u S c e => (M3.rng_get e).2, fun j d v μ' H' H'' G' u S c e y => ?_, fun μ' H' G' u S c => Nat.le_of_eq M3.rng_len.symm⟩
  obtain ⟨rfl, _⟩ := M3.rng_get e
  obtain ⟨rfl, y⟩ := y; exact ⟨fun _ _ z => z, y⟩
theorem inRng_of {i : Int} (h : M3.inRng i = true) : -(2 ^ 62) ≤ i ∧ i < 2 ^ 62 := of_decide_eq_true h
theorem i_rng1 {tg : Expr} (hm : X.mg "range" = none) (ha : PE X a (tE T X.K Y fa)) (hg : Gl X "range" := by rfl) (hs : starEach [a] X.env = [(false, eval a X.env)] := by rfl) : PI X tg (.Call (.Name "range" p) [a] [] pos) (tI T X.K Y (M3.iRng1 fa)) := by
  refine PI.of (pi_range1 hg hm (pa_cons ha pa_nil hs) hs) fun σ H R ⟨μ, σ3, G, S, sd, h⟩ => ⟨μ, σ3, G, S, sd, stepV h fun d G1 v H1 μ1 u1 S1 d1 h1 => ?_⟩
  cases d with
  | int j =>
    cases (show v = .int j from d1)
    obtain ⟨c, h1⟩ := runIf (c := M3.inRng j = true) h1
    exact ⟨j, rfl, (inRng_of c).1, (inRng_of c).2, h1 _ H1 μ1 u1 S1 (rngD 0 j.toNat)⟩
  | _ => exact False.elim h1
theorem i_rng2 {tg : Expr} (hm : X.mg "range" = none) (ha : PE X a (tE T X.K Y fa)) (hb : PE X b (tE T X.K Y fb)) (hg : Gl X "range" := by rfl) (hs : starEach [a, b] X.env = [(false, eval a X.env), (false, eval b X.env)] := by rfl) (hs2 : starEach [b] X.env = [(false, eval b X.env)] := by rfl) :
    PI X tg (.Call (.Name "range" p) [a, b] [] pos) (tI T X.K Y (M3.iRng2 fa fb)) := by
  refine PI.of (pi_range2 hg hm (pa_cons ha (pa_cons hb pa_nil hs2) (by rw [hs, hs2])) hs hs2) fun σ H R ⟨μ, σ3, G, S, sd, h⟩ => ⟨μ, σ3, G, S, sd, stepV h fun d G1 v H1 μ1 u1 S1 d1 h1 => ⟨μ1, σ3, G1, S1, sd.up u1, stepV h1 fun c G2 w H2 μ2 u2 S2 d2 h2 => ?_⟩⟩
  cases d with
  | int i => cases c with
    | int j =>
      cases (show v = .int i from d1)
      cases (show w = .int j from d2)
      obtain ⟨c, h2⟩ := runIf (c := (M3.inRng i && M3.inRng j) = true) h2
      rw [Bool.and_eq_true] at c
      exact ⟨i, j, rfl, ⟨(inRng_of c.1).1, (inRng_of c.1).2, (inRng_of c.2).1, (inRng_of c.2).2⟩, h2 _ H2 μ2 (u1.trans u2) S2 (rngD i (j - i).toNat)⟩
    | _ => exact False.elim h2
  | _ => exact False.elim h2

/-! for -/
theorem forL_nil {Z : Nat → M3.Hh → Prop} {ck : M3.Hh → Bool} {body : M3.D → M3.St → M3.M (M3.Fl × M3.St)} {σ : M3.St} {G : M3.Hh} {P : M3.Fl × M3.St → M3.Hh → Prop} (h : M3.run (M3.forL ck body [] σ) G P Z) : ck G = true ∧ P (.next, σ) G := by
  unfold M3.run M3.forL at h
  by_cases c : ck G = true
  · rw [if_pos c] at h; exact ⟨c, h⟩
  · rw [if_neg c] at h; exact False.elim h
def fNext (ck : M3.Hh → Bool) (body : M3.D → M3.St → M3.M (M3.Fl × M3.St)) (r : List M3.D) (p : M3.Fl × M3.St) : M3.M (M3.Fl × M3.St) := match p.1 with
  | .next => M3.forL ck body r p.2
  | .cont => M3.forL ck body r p.2
  | .brk => M3.ret (.next, p.2)
  | .ret d => M3.ret (.ret d, p.2)
theorem forL_cons {Z : Nat → M3.Hh → Prop} {ck : M3.Hh → Bool} {body : M3.D → M3.St → M3.M (M3.Fl × M3.St)} {x : M3.D} {r : List M3.D} {σ : M3.St} {G : M3.Hh} {P : M3.Fl × M3.St → M3.Hh → Prop} (h : M3.run (M3.forL ck body (x :: r) σ) G P Z) :
    ck G = true ∧ M3.run (M3.bnd (body x σ) (fNext ck body r)) G P Z := by
  have e : M3.forL ck body (x :: r) σ G = if ck G then M3.bnd (body x σ) (fNext ck body r) G else none := by
    conv => lhs; unfold M3.forL
    rfl
  unfold M3.run at h
  rw [e] at h
  by_cases c : ck G = true
  · rw [if_pos c] at h; exact ⟨c, h⟩
  · rw [if_neg c] at h; exact False.elim h
theorem y_for {tg iter : Expr} {body : List Stmt} {it : M3.I3} {g : M3.D → M3.St → M3.M M3.St} {f : M3.S3} (hp : PassesOwn (model X.prog X.w) X.A X.env X.xe) (hc : X.calm = true) (hi : PI X tg iter (tI T X.K Y it)) (hg : PG X tg (tG T X.K Y g)) (hb : PSs X body (tS T X.K Y f))
    (hs : ∀ x, foldedSetIterable iter X.env x = pure x := by intro _; rfl) : PS X (.For tg iter body [] pos) (tS T X.K Y (M3.sFor it g f)) := by
  refine PS.of (ps_for hp hc hi hg hb hs) fun D σ H ⟨μ, σ3, G, S, sd, h⟩ => ⟨μ, σ3, G, S, sd, runUp (M3.run_bnd h) fun src G1 q J H1 μ1 u1 S1 sr => ?_⟩
  have q : M3.run (M3.forL src.ck (fun x σ => M3.bnd (g x σ) f) src.xs σ3) G1 (PostS T X.K μ H D) (Y.x μ1 H1) := Y.upE u1 q
  refine ⟨fun i m σ' H' => m = src.xs.length - i ∧ i ≤ src.xs.length ∧ ∃ μ' σ3' G', Up μ1 μ' H1 H' ∧ Sim T X.K μ' H' G' ∧ StD X.K H' μ' σ3' σ' ∧ M3.run (M3.forL src.ck (fun x σ => M3.bnd (g x σ) f) (src.xs.drop i) σ3') G' (PostS T X.K μ H D) (Y.x μ' H'),
    ⟨_, rfl, Nat.zero_le _, μ1, σ3, G1, Up.refl _ _, S1, sd.up u1, q⟩, ?_⟩
  rintro i m σ' H' ⟨rfl, hi, μ', σ3', G', u', S', sd', q'⟩
  by_cases hlt : i < src.xs.length
  · rw [List.drop_eq_getElem_cons hlt] at q'
    obtain ⟨c, q2⟩ := forL_cons q'
    have ex : src.xs[i]? = some src.xs[i] := List.getElem?_eq_getElem hlt
    refine .inr ⟨sr.go i _ μ' H' G' u' S' c ex, fun σ2 H2 => ∃ μ2 σ4 G2, Up μ1 μ2 H1 H2 ∧ Sim T X.K μ2 H2 G2 ∧ StD X.K H2 μ2 σ4 σ2 ∧ M3.run (M3.forL src.ck (fun x σ => M3.bnd (g x σ) f) (src.xs.drop (i + 1)) σ4) G2 (PostS T X.K μ H D) (Y.x μ2 H2),
      fun σ2 H2 hN => ⟨_, by omega, rfl, hlt, hN⟩, fun x H'' y => ?_⟩
    obtain ⟨sm, dx⟩ := sr.yld i _ x μ' H' H'' G' u' S' c ex y
    have us : Up μ' μ' H' H'' := Up.same sm
    refine ⟨μ', σ3', G', _, S'.same sm, sd'.up us, dx, runUp (Y.upE us (M3.run_bnd (M3.run_bnd q2))) fun σ5 G5 q5 σ6 H6 μ6 u6 S6 sd6 => ?_⟩
    have u6 := us.trans u6
    refine ⟨μ6, σ5, G5, S6, sd6, runUp (Y.upE u6 q5) fun p G7 q7 σ7 H7 μ7 u7 S7 sd7 => ?_⟩
    obtain ⟨fl, σ8⟩ := p
    have up := (u1.trans u').trans (u6.trans u7)
    cases fl with
    | next => exact ⟨μ7, σ8, G7, u'.trans (u6.trans u7), S7, sd7, Y.upE (u6.trans u7) q7⟩
    | cont => exact ⟨μ7, σ8, G7, u'.trans (u6.trans u7), S7, sd7, Y.upE (u6.trans u7) q7⟩
    | brk => exact q7 σ7 H7 μ7 up S7 sd7
    | ret d => exact q7 σ7 H7 μ7 up S7 sd7
  · have e : i = src.xs.length := by omega
    subst e
    rw [List.drop_length] at q'
    obtain ⟨c, q2⟩ := forL_nil q'
    exact .inl ⟨sr.stop μ' H' G' u' S' c, q2 σ' H' μ' (u1.trans u') S' sd'⟩

/-! defs -/
/-- what the layer wants of an exception, as the machine says it -/
def EX.of (T : Tab) (K : PySem.W.Frag) (E : XK) : EX := ⟨fun μ H c G => ∀ Ca dx H' μ', T.cls c = some Ca → Up μ μ' H H' → Sim T K μ' H' G → E (.ref Ca) dx H', fun u h Ca dx H' μ' e u' S => h Ca dx H' μ' e (u.trans u') S⟩
def sp3 (T : Tab) (K : PySem.W.Frag) (n : Nat) (f : List M3.D → M3.M M3.D) : Sp := fun vs H Q E => vs.length = n ∧ ∃ μ ds G, Sim T K μ H G ∧ Dens K H μ ds vs ∧ M3.run (f ds) G (PostV T K μ H Q) ((EX.of T K E).x μ H)
structure Fn3 (P : Program) (w : World) (K : PySem.W.Frag) (mg : Str → Option Value) (base : Heap) (CX : CXT) (T : Tab) (k : Nat) (x : Str) (n : Nat) (f : List M3.D → M3.M M3.D) : Prop where
  ex : ∃ fa fd ps, FnOk P w K mg base CX k fa fd ps (sp3 T K n f) ∧ mg x = some (.ref fa) ∧ PySem.W.keepIn K (.ref fa) = true ∧ Binds K fd ps []
  len : ∀ ds G (Q : M3.D → M3.Hh → Prop) (Z : Nat → M3.Hh → Prop), M3.run (f ds) G Q Z → ds.length = n
theorem x_call {CX : CXT} {E : XK} {x : Str} {k n : Nat} {f : List M3.D → M3.M M3.D} (F : Fn3 X.prog X.w X.K X.mg X.base CX T k x n f) (hr : Room k X.A) (hx : Passes CX X E) (ha : PA X (e :: es) (tA T X.K (EX.of T X.K E) f3)) (hg : Gl X x := by rfl) (hdb : (x == ("__debug__" : Str)) = false := by decide)
    (he : starEach (e :: es) X.env = (false, eval e X.env) :: starEach es X.env := by rfl) (hpl : (backTo pos (starEach es X.env)).any (·.1) = false := by rfl) : PE X (.Call (.Name x p) (e :: es) [] pos) (tE T X.K (EX.of T X.K E) (M3.eCall f f3)) := by
  obtain ⟨fa, fd, ps, G, hm, hk, hb⟩ := F.ex
  refine PE.of (pe_call G hr hg hm hk hb .nil hx ha hdb he hpl) fun σ H Q ⟨μ, σ3, G, S, sd, h⟩ => ⟨μ, σ3, G, S, sd, stepA h fun ds G1 vs H1 μ1 u1 S1 d1 h1 => ?_⟩
  show sp3 T X.K n f (vs ++ []) H1 Q E
  rw [List.append_nil]
  exact ⟨by rw [← d1.length]; exact F.len _ _ _ _ h1, μ1, ds, G1, S1, d1, runUp h1 fun _ _ z => z.up u1⟩
theorem fnM_len {Z : Nat → M3.Hh → Prop} {n : Nat} {pad : M3.St} {body : M3.S3} {ds : List M3.D} {G : M3.Hh} {Q : M3.D → M3.Hh → Prop} (h : M3.run (M3.fnM n pad body ds) G Q Z) : ds.length = n := by
  unfold M3.fnM at h
  exact (runIf h).1
theorem StD.start {K : PySem.W.Frag} {H : Hp} {μ : List Addr} : ∀ {ds : List M3.D} {vs : List V} (k : Nat), Dens K H μ ds vs → StD K H μ (ds.map some ++ List.replicate k none) (vs.map some ++ List.replicate k none) := by
  intro ds vs k r
  refine ⟨by simp [r.length], fun i d e => ?_⟩
  by_cases h : i < ds.length
  · rw [List.getElem?_append_left (by simpa using h), List.getElem?_map] at e
    cases q : ds[i]? with
    | none => rw [q] at e; cases e
    | some d' =>
      rw [q] at e
      cases e
      obtain ⟨v, e1, r1⟩ := r.get q
      refine ⟨v, ?_, r1⟩
      rw [List.getElem?_append_left (by simpa using (List.getElem?_eq_some_iff.mp e1).1), List.getElem?_map, e1]; rfl
  · rw [List.getElem?_append_right (by simpa using h), List.getElem?_replicate] at e
    split at e <;> cases e
theorem passA {X : Cx} {E : XK} : Passes CX0 X E := fun _ _ _ _ _ _ _ h => h.elim
/-- a def that nothing leaves but its value -/
theorem fnOk3 {P : Program} {w : World} {K : PySem.W.Frag} {mg : Str → Option Value} {base : Heap} {x qual : Str} {st : Stmt} {fa : Addr} {fd : FuncData} {N ps : List Str} {k n : Nat} {pad : M3.St} {body : M3.S3} (F : Fun K x qual st fa fd) (S : FnScope N ps (defScope st))
    (hn : ps.length = n) (hpad : pad = List.replicate (N.length - n) none)
    (h : ∀ (cdv : Value) (A : Around) (outer : List Env) (s : Shared) (H : Hp) (E : XK), Room k (A.deeper (envOfC qual (defScope st) s.heap.objs.size fa cdv)) → PSs (cxOf CX0 P w K mg base N qual (defScope st) fa cdv A outer s H E).nox (defBody st) (tS T K (EX.of T K E) body)) :
    FnOk P w K mg base CX0 (k + 1) fa fd ps (sp3 T K n (M3.fnM n pad body)) := by
  refine F.ok S (fun vs H Q E q => by rw [hn]; exact q.1) (fun cdv A outer s H vs Q E hr q => ⟨_, h cdv A outer s H E hr, ?_⟩)
  obtain ⟨hl, μ, ds, G, Sm, d, q⟩ := q
  unfold M3.fnM at q
  obtain ⟨c, q⟩ := runIf q
  have e1 : L2.start N vs = vs.map some ++ List.replicate (N.length - n) none := by unfold L2.start; rw [hl]
  rw [e1]
  refine ⟨μ, _, G, Sm, by rw [hpad]; exact StD.start _ d, runUp (M3.run_bnd q) fun r G1 q1 σ' H' μ' u S' sd' => ?_⟩
  obtain ⟨fl, σ2⟩ := r
  cases fl with
  | next => exact q1 .non H' μ' u S' rfl
  | brk => exact False.elim q1
  | cont => exact False.elim q1
  | ret d => exact fun v dv => q1 v H' μ' u S' dv
theorem fn3 {P : Program} {w : World} {K : PySem.W.Frag} {mg : Str → Option Value} {base : Heap} {x qual : Str} {st : Stmt} {fa : Addr} {fd : FuncData} {N ps : List Str} {k n : Nat} {pad : M3.St} {body : M3.S3} (F : Fun K x qual st fa fd) (S : FnScope N ps (defScope st)) (hm : mg x = some (.ref fa)) (hb : Binds K fd ps [])
    (hn : ps.length = n) (hpad : pad = List.replicate (N.length - n) none)
    (h : ∀ (cdv : Value) (A : Around) (outer : List Env) (s : Shared) (H : Hp) (E : XK), Room k (A.deeper (envOfC qual (defScope st) s.heap.objs.size fa cdv)) → PSs (cxOf CX0 P w K mg base N qual (defScope st) fa cdv A outer s H E).nox (defBody st) (tS T K (EX.of T K E) body)) :
    Fn3 P w K mg base CX0 T (k + 1) x n (M3.fnM n pad body) := ⟨⟨fa, fd, ps, fnOk3 F S hn hpad h, hm, F.kp, hb⟩, fun ds G Q Z q => fnM_len q⟩
end
end L3

namespace L3
open PySem PySem.Spec PyProof.Rows L2 PySem.SeqAt
/-! comprehensions -/
/-- what a comprehension's block takes from around: caps, names that lie in cells, and their places -/
structure Blk (X : Cx) (x : Str) (caps : List (Str × Nat)) (scope : Scope) (cl : List (Str × Addr)) : Prop where
  kind : scope.kind = .function
  nocell : ∀ y ∈ scope.names, y.2 ≠ .cell
  loc : ∀ y ∈ scope.names, y.2 = .local → scope.names.lookup y.1 = some .local
  own : scope.names.lookup x = some .local
  clos : closureFor scope X.env = pure cl
  nd : (x :: caps.map (·.1)).Nodup
  sub : ∀ y c, cl.lookup y = some c → X.env.cells.lookup y = some c
  has : ∀ y, ((relabel scope X.env).names.lookup y = some .cell ∨ (relabel scope X.env).names.lookup y = some .free) → ∃ c, cl.lookup y = some c
  nox : cl.lookup x = none
  cap : ∀ (j : Nat) y i, caps[j]? = some (y, i) → X.N[i]? = some y ∧ (X.env.kindOf y = some .cell ∨ X.env.kindOf y = some .free) ∧ ((relabel scope X.env).names.lookup y = some .cell ∨ (relabel scope X.env).names.lookup y = some .free)
def blk (X : Cx) (x : Str) (caps : List (Str × Nat)) (scope : Scope) (cl : List (Str × Addr)) (s₃ : Shared) (H₃ : Hp) (C : Addr) (fp : List Addr) (E' : Value → Shared → Prop) : Cx :=
  { X with N := x :: caps.map (·.1), s₀ := s₃, H₀ := H₃, env := compEnvC scope cl C X.env, outer := X.stack, stack := X.stack, ex := fp, fn := fun y => decide (y = x), xe := E' }
def σ0 (σ : L2.St) (caps : List (Str × Nat)) : L2.St := none :: caps.map fun p => (σ[p.2]?).join

section
variable {X : Cx} {x : Str} {caps : List (Str × Nat)} {scope : Scope} {cl : List (Str × Addr)} {pins : List (Addr × Obj)} {σ : L2.St} {H : Hp} {s₃ : Shared} {fp : List Addr} {E' : Value → Shared → Prop}
theorem blk_ok (B : Blk X x caps scope cl) (I : L2.Inv X pins σ H s₃) (hf : ∀ b ∈ fp, FpOk X pins H b) (hfl : ∀ b ∈ fp, b < s₃.heap.objs.size) : (blk X x caps scope cl s₃ H s₃.heap.objs.size fp E').Ok where
  mod := I.mod
  kind := B.kind
  glob := I.ok.glob
  blt := I.ok.blt
  above := Nat.le_refl _
  inj := fun y z c h1 h2 => I.ok.inj y z c (B.sub y c h1) (B.sub z c h2)
  has := fun y hy => B.has y hy
  cab := fun y c hy h => by
    have e : y = x := of_decide_eq_true hy
    subst e
    rw [show (blk X y caps scope cl s₃ H s₃.heap.objs.size fp E').env.cells.lookup y = cl.lookup y from rfl, B.nox] at h
    cases h
  hd := I.ok.hd
  frames := I.ok.frames
  stk := .inl rfl
  exf := fun b hb => ⟨Nat.ne_of_lt (hfl b hb), fun y c e => (hf b hb).2.2.2.2.1 y c (B.sub y c e)⟩
  bs := I.bs
  bsz := Nat.le_trans I.ok.bsz I.sz
  noex := fun b o e hb => by
    rcases (hf b hb).2.2.2.1 with z | z
    · exact I.ok.noex b o e z
    · exact absurd (Nat.lt_of_lt_of_le (Heap.lt_size e) (Nat.le_trans I.ok.bsz z)) (Nat.lt_irrefl _)
  exfs := fun b hb z => by
    rcases List.mem_cons.mp (I.stkSub b z) with e | e
    · exact (hf b hb).2.1 e
    · exact (hf b hb).2.2.1 e
  funs := I.stack
  frf := I.stkFree
theorem blk_inv (B : Blk X x caps scope cl) (I : L2.Inv X pins σ H s₃) (hf : ∀ b ∈ fp, FpOk X pins H b) (hfl : ∀ b ∈ fp, b < s₃.heap.objs.size) {h₁ : Heap} {tk : Nat} {m : Str → Option Value} (hns : h₁.Ns s₃.heap.objs.size m) (hk : ∀ b o, s₃.heap.get? b = some o → h₁.get? b = some o) :
    L2.Inv (blk X x caps scope cl s₃ H s₃.heap.objs.size fp E') pins (σ0 σ caps) H { s₃ with heap := h₁, toks := tk } := by
  refine ⟨blk_ok B I hf hfl, rfl, I.bare, Un.kept hk, ⟨m, hns, fun i y v e1 e2 e3 => ?_⟩, fun y c e => ?_, I.hok.fresh (Nat.le_refl _), fun y c e => I.freeC y c (B.sub y c e), fun p hp => ?_, I.hok.kept hk, by simp [σ0, blk]⟩
  · cases i with
    | zero => simp [σ0] at e2
    | succ j =>
      have e2 : (caps.map fun p => (σ[p.2]?).join)[j]? = some (some v) := by simpa [σ0] using e2
      have e1 : (caps.map (·.1))[j]? = some y := by simpa [blk] using e1
      rw [List.getElem?_map] at e1 e2
      cases q : caps[j]? with
      | none => rw [q] at e1; cases e1
      | some p =>
        obtain ⟨y', i⟩ := p
        rw [q] at e1 e2
        cases e1
        have e2 : (σ[i]?).join = some v := Option.some.inj e2
        have e3 : σ[i]? = some (some v) := by
          cases z : σ[i]? with
          | none => rw [z] at e2; cases e2
          | some w => rw [z] at e2; exact congrArg some e2
        obtain ⟨h1, h2, h3⟩ := B.cap j y' i q
        obtain ⟨m', _, hl⟩ := I.loc
        obtain ⟨u, ru, l⟩ := hl i y' v h1 e3 (h2.elim (fun z => .inr (.inl z)) fun z => .inr (.inr z))
        refine ⟨u, ru, .inr ⟨h3, ?_⟩⟩
        rcases l with ⟨k, _⟩ | ⟨_, c, ec, ⟨ob, ho, hd⟩⟩
        · rcases h2 with z | z
          · rw [z] at k; cases k
          · rw [z] at k; cases k
        · obtain ⟨c', ec'⟩ := B.has y' h3
          have := B.sub y' c' ec'
          rw [ec] at this
          cases this
          exact ⟨c, ec', ob, hk _ _ ho, hd⟩
  · obtain ⟨v, ob, ho, hd⟩ := I.cell y c (B.sub y c e)
    exact ⟨v, ob, hk _ _ ho, hd⟩
  · obtain ⟨e, n, ne, nf, d⟩ := I.pin p hp
    refine ⟨hk _ _ e, n, Nat.ne_of_lt (Heap.lt_size e), fun z => ?_, d⟩
    rcases List.mem_cons.mp (I.stkSub p.1 z) with q | q
    · exact ne q
    · exact nf q
end
/-- all that bears a number lies in the heap -/
theorem Sim.lt {X : Cx} {T : Tab} {pins : List (Addr × Obj)} {σ : L2.St} {H : Hp} {s : Shared} {μ : List Addr} {G : M3.Hh} (I : L2.Inv X pins σ H s) (S : Sim T X.K μ H G) : ∀ a ∈ μ, a < s.heap.objs.size := by
  intro a ha
  obtain ⟨n, hn, e⟩ := List.getElem_of_mem ha
  have e1 : μ[n]? = some a := by rw [← e]; exact List.getElem?_eq_getElem hn
  have hg : n < G.length := by rw [← S.len]; exact hn
  have ob := S.obj n a _ e1 (List.getElem?_eq_getElem hg)
  generalize G[n] = o at ob
  cases q : isF o with
  | false =>
    obtain ⟨u, hu, _⟩ := ob.some_of q
    exact I.hok.lt hu
  | true =>
    cases o with
    | frz xs =>
      obtain ⟨vs, sq, _⟩ := ob
      obtain ⟨its, _, ⟨ob', n', e', _⟩, _⟩ := I.list sq.sq
      exact Heap.lt_size e'
    | _ => cases q
def PTs (X : Cx) (ifs : List Expr) (t : TT) : Prop :=
  ∀ (pins : List (Addr × Obj)) (s : Shared) (σ : L2.St) (H : Hp) (Q : Bool → Hp → Prop), L2.Inv X pins σ H s → t σ H Q →
    wpAny (model X.prog X.w) X.A (forIn ifs true fun c r => if r = true then do let ok ← isTrue c X.env (eval c X.env); pure (ForInStep.yield ok) else pure (ForInStep.yield r)) (TP X pins σ Q) X.xe s
theorem pts_nil {X : Cx} {T : Tab} {Y : EX} : PTs X [] (tT T X.K Y M3.tTrue) := fun pins s σ H Q I ⟨μ, σ3, G, S, sd, h⟩ => wpAny_tests_nil ⟨H, I, h H μ (Up.refl _ _) S⟩
theorem pts_one {X : Cx} {T : Tab} {Y : EX} {c : Expr} {f : M3.T3} (h : PT X c (tT T X.K Y f)) : PTs X [c] (tT T X.K Y f) := fun pins s σ H Q I q => wpAny_tests_one (h pins s σ H Q I q)

theorem compL_nil {Z : Nat → M3.Hh → Prop} {ck : M3.Hh → Bool} {cond : M3.D → M3.M Bool} {elt : M3.D → M3.M M3.D} {acc : List M3.D} {G : M3.Hh} {P : List M3.D → M3.Hh → Prop} (h : M3.run (M3.compL ck cond elt [] acc) G P Z) : ck G = true ∧ P acc G := by
  unfold M3.run M3.compL at h
  by_cases c : ck G = true
  · rw [if_pos c] at h; exact ⟨c, h⟩
  · rw [if_neg c] at h; exact False.elim h
def cNext (ck : M3.Hh → Bool) (cond : M3.D → M3.M Bool) (elt : M3.D → M3.M M3.D) (x : M3.D) (r acc : List M3.D) (c : Bool) : M3.M (List M3.D) :=
  if c then M3.bnd (elt x) (fun y => if acc.length < M3.sizeL then M3.compL ck cond elt r (acc ++ [y]) else M3.fail) else M3.compL ck cond elt r acc
theorem compL_cons {Z : Nat → M3.Hh → Prop} {ck : M3.Hh → Bool} {cond : M3.D → M3.M Bool} {elt : M3.D → M3.M M3.D} {x : M3.D} {r acc : List M3.D} {G : M3.Hh} {P : List M3.D → M3.Hh → Prop} (h : M3.run (M3.compL ck cond elt (x :: r) acc) G P Z) :
    ck G = true ∧ M3.run (M3.bnd (cond x) (cNext ck cond elt x r acc)) G P Z := by
  have e : M3.compL ck cond elt (x :: r) acc G = if ck G then M3.bnd (cond x) (cNext ck cond elt x r acc) G else none := by
    conv => lhs; unfold M3.compL
    rfl
  unfold M3.run at h
  rw [e] at h
  by_cases c : ck G = true
  · rw [if_pos c] at h; exact ⟨c, h⟩
  · rw [if_neg c] at h; exact False.elim h
theorem StD.capt {K : PySem.W.Frag} {H : Hp} {μ : List Addr} {σ3 : M3.St} {σ : L2.St} (sd : StD K H μ σ3 σ) (caps : List (Str × Nat)) (o : Option V) : StD K H μ (none :: M3.capt σ3 (caps.map (·.2))) (o :: caps.map fun p => (σ[p.2]?).join) := by
  refine ⟨by simp [M3.capt], fun i d e => ?_⟩
  cases i with
  | zero => simp at e
  | succ j =>
    have e : (M3.capt σ3 (caps.map (·.2)))[j]? = some (some d) := by simpa using e
    unfold M3.capt at e
    rw [List.getElem?_map, List.getElem?_map] at e
    cases q : caps[j]? with
    | none => rw [q] at e; cases e
    | some p =>
      rw [q] at e
      have e : (σ3[p.2]?).join = some d := Option.some.inj e
      have e3 : σ3[p.2]? = some (some d) := by
        cases z : σ3[p.2]? with
        | none => rw [z] at e; cases e
        | some w => rw [z] at e; exact congrArg some e
      obtain ⟨v, h1, h2⟩ := sd.at_ _ _ e3
      refine ⟨v, ?_, h2⟩
      show (caps.map fun p => (σ[p.2]?).join)[j]? = some (some v)
      rw [List.getElem?_map, q]
      show some (σ[p.2]?).join = some (some v)
      rw [h1]; rfl
end L3

namespace L3
open PySem PySem.Spec PyProof.Rows L2 PySem.SeqAt
section
variable {X : Cx} {T : Tab} {Y : EX} {elt iter : Expr} {x : Str} {px : Pos} {ifs : List Expr} {scope : Scope} {cl : List (Str × Addr)} {caps : List (Str × Nat)} {pos : Pos} {fe : M3.E3} {ft : M3.T3}
theorem Up.off {μ μ1 : List Addr} {H H1 : Hp} {p : Addr} {ws ws' : List V} (u : Up μ μ1 H H1) (hp : H p = none) (hw : H1 p = some (.lst ws)) : Up μ μ1 H (upd H1 p (.lst ws')) := by
  refine ⟨u.pre, ⟨fun b xs e => ?_, fun b o v e => ?_⟩, fun b o e n => ?_⟩
  · rw [upd_ne (ne_of_none e hp)]; exact u.keeps.tup b xs e
  · rw [upd_ne (ne_of_none e hp)]; exact u.keeps.frz b o v e
  · rw [upd_ne (ne_of_none e hp)]; exact u.rest b o e n
theorem Sim.off {T : Tab} {K : PySem.W.Frag} {μ : List Addr} {H : Hp} {G : M3.Hh} {p : Addr} {ws ws' : List V} (S : Sim T K μ H G) (hp : p ∉ μ) (hw : H p = some (.lst ws)) : Sim T K μ (upd H p (.lst ws')) G := by
  have k : Keeps H (upd H p (.lst ws')) := Keeps.write hw (fun _ z => nomatch z) (fun _ _ z => nomatch z)
  refine ⟨S.len, fun n a o e1 e2 => (S.obj n a o e1 e2).mono (List.prefix_refl _) k fun y e => ?_, S.inj⟩
  rw [upd_ne (by rintro rfl; exact hp (List.mem_of_getElem? e1))]
  exact e
theorem stepV0 {α : Type} {K : PySem.W.Frag} {μ : List Addr} {H : Hp} {m : M3.M M3.D} {k : M3.D → M3.M α} {G : M3.Hh} {P : α → M3.Hh → Prop} {R : VK} {Z : Nat → M3.Hh → Prop} (h : M3.run (M3.bnd m k) G P Z) (hz : ∀ c G, Z c G → Y.x μ H c G)
    (f : ∀ d G1 v H1 μ1, Up μ μ1 H H1 → Sim T K μ1 H1 G1 → Den K H1 μ1 d v → M3.run (k d) G1 P Z → R v H1) : M3.run m G (PostV T K μ H R) (Y.x μ H) :=
  M3.run_mono (M3.run_bnd h) (fun d G1 q v H1 μ1 u S r => f d G1 v H1 μ1 u S r q) hz
theorem stepB0 {α : Type} {K : PySem.W.Frag} {μ : List Addr} {H : Hp} {m : M3.M Bool} {k : Bool → M3.M α} {G : M3.Hh} {P : α → M3.Hh → Prop} {R : Bool → Hp → Prop} {Z : Nat → M3.Hh → Prop} (h : M3.run (M3.bnd m k) G P Z) (hz : ∀ c G, Z c G → Y.x μ H c G)
    (f : ∀ b G1 H1 μ1, Up μ μ1 H H1 → Sim T K μ1 H1 G1 → M3.run (k b) G1 P Z → R b H1) : M3.run m G (PostB T K μ H R) (Y.x μ H) :=
  M3.run_mono (M3.run_bnd h) (fun d G1 q H1 μ1 u S => f d G1 H1 μ1 u S q) hz
/-- what is known behind the block -/
structure CEnd (X : Cx) (T : Tab) (pins : List (Addr × Obj)) (σ : L2.St) (μ : List Addr) (H : Hp) (P : List M3.D → M3.Hh → Prop) (sz : Nat) (p C : Addr) (s' : Shared) : Prop where
  ex : ∃ ys ws H' μ' G', L2.Inv X pins σ H' s' ∧ Up μ μ' H H' ∧ Sim T X.K μ' H' G' ∧ H' p = some (.lst ws) ∧ p ∉ μ' ∧ Dens X.K H' μ' ys ws ∧ P ys G' ∧ H' C = none ∧ H p = none
  ns : ∃ m, s'.heap.Ns C m
  ge : sz ≤ C
theorem comp_core (B : Blk X x caps scope cl) (hc : X.calm = true) (he : ∀ s₃ H₃ C fp E', PE (blk X x caps scope cl s₃ H₃ C fp E') elt (tE T X.K Y fe)) (ht : ∀ s₃ H₃ C fp E', PTs (blk X x caps scope cl s₃ H₃ C fp E') ifs (tT T X.K Y ft))
    {pins : List (Addr × Obj)} {σ : L2.St} {H : Hp} {s₂ : Shared} {it : Addr} {fp : List Addr} {tn : Nat → Heap → Prop} {J : It} {μ : List Addr} {σ3 : M3.St} {G : M3.Hh} {src : M3.Src} {E : Value → Shared → Prop}
    (I : L2.Inv X pins σ H s₂) (Tn : Turn X.prog X.w X.K (.Name x px) J fp it tn) (st : tn 0 s₂.heap) (hf : ∀ b ∈ fp, FpOk X pins H b) (S : Sim T X.K μ H G) (sd : StD X.K H μ σ3 σ) (sr : SrcD T X.K μ H src J)
    {P : List M3.D → M3.Hh → Prop} (h : M3.run (M3.compL src.ck (fun z => ft (some z :: M3.capt σ3 (caps.map (·.2)))) (fun z => fe (some z :: M3.capt σ3 (caps.map (·.2)))) src.xs []) G P (Y.x μ H))
    {RR : Value → Addr → Result → Shared → Prop} (fin : ∀ p C s', CEnd X T pins σ μ H P s₂.heap.objs.size p C s' → RR (.ref p) C (.ok .next) s') :
    wpAny (model X.prog X.w) X.A (newList []) (fun acc s₃ => wpAny (model X.prog X.w) X.A (newFunctionEnv scope X.env.globals cl [] X.env.qual none .none (some X.env)) (fun cenv s₄ =>
      codeAny (model X.prog X.w) X.A (.compStart (.ListComp elt [⟨.Name x px, iter, ifs, 0⟩] scope pos) 0 (.ref it) acc { cenv with scope := relabel scope X.env }) (RR acc cenv.locals) s₄) E s₃) E s₂ := by
  refine wpAny_newObj_type (wpAny_newFunctionEnv B.nocell (by intro y hy; simp at hy) (fun h₁ hns₁ hsb₁ => ?_) B.kind)
  -- the list that grows
  have hp0 : H s₂.heap.objs.size = none := I.hok.fresh (Nat.le_refl _)
  have I3 : L2.Inv X pins σ (upd H s₂.heap.objs.size (.lst [])) { s₂ with heap := s₂.heap.push { cls := .type "list", data := .seq ([] : List Value).toArray }, toks := s₂.toks } :=
    I.laid (t' := s₂.toks) (fun b u e => Heap.get?_push_of_some _ e) (Nat.le_refl _) ⟨Nat.zero_le _, [], 0, .nil, Heap.get?_push_size _ rfl⟩
  have hpμ : s₂.heap.objs.size ∉ μ := fun z => Nat.lt_irrefl _ (S.lt I _ z)
  have S3 := S.same (Same.new (.lst []) hp0)
  have up0 : Up μ μ H (upd H s₂.heap.objs.size (.lst [])) := Up.same (Same.new _ hp0)
  have hfl : ∀ b ∈ fp, b < s₂.heap.objs.size := fun b hb => by
    obtain ⟨o, e, _⟩ := Tn.obj 0 _ st b hb
    exact Heap.lt_size e
  have hf3 : ∀ b ∈ fp, FpOk X pins (upd H s₂.heap.objs.size (.lst [])) b := fun b hb => ⟨by rw [upd_ne (Nat.ne_of_lt (hfl b hb))]; exact (hf b hb).1, (hf b hb).2⟩
  generalize hpp : s₂.heap.objs.size = p at *
  generalize hH3 : upd H p (.lst []) = H₃ at *
  have hpH : H₃ p = some (.lst []) := by rw [← hH3]; exact upd_same
  generalize hs3 : ({ s₂ with heap := s₂.heap.push { cls := .type "list", data := .seq ([] : List Value).toArray }, toks := s₂.toks } : Shared) = s₃ at *
  have hsz3 : s₃.heap.objs.size = p + 1 := by rw [← hs3]; show (s₂.heap.push _).objs.size = p + 1; rw [Heap.size_push, hpp]
  have hfl3 : ∀ b ∈ fp, b < s₃.heap.objs.size := fun b hb => by rw [hsz3]; exact Nat.lt_succ_of_lt (hfl b hb)
  have e3 : s₂.heap.push { cls := .type "list", data := .seq ([] : List Value).toArray } = s₃.heap := by rw [← hs3]
  have keep1 : ∀ b o, s₃.heap.get? b = some o → h₁.get? b = some o := fun b o e => (hsb₁.2 b (Nat.ne_of_lt (Heap.lt_size e))).trans (Heap.get?_push_of_some _ e)
  generalize hC : s₃.heap.objs.size = C at *
  have I4 : ∀ E', L2.Inv (blk X x caps scope cl s₃ H₃ C fp E') pins (σ0 σ caps) H₃ { s₃ with heap := h₁, toks := s₃.toks + ([] : List (Str × Value)).length } := fun E' => by
    subst hC
    exact blk_inv B I3 hf3 hfl3 hns₁ keep1
  have hch : ∀ b ∈ fp, (b ∈ X.ex ∨ X.s₀.heap.objs.size ≤ b) ∧ b ≠ X.env.locals ∧ (∀ x c, X.env.cells.lookup x = some c → c ≠ b) ∧ ∀ q ∈ X.pn ++ pins, q.1 ≠ b := fun b hb => ⟨(hf b hb).2.2.2.1, (hf b hb).2.1, (hf b hb).2.2.2.2.1, (hf b hb).2.2.2.2.2⟩
  have tn1 : tn 0 h₁ := Tn.keep 0 _ _ st fun b hb o e => keep1 b o (by rw [← e3]; exact Heap.get?_push_of_some _ e)
  have loop : ∀ s₄ : Shared, s₄ = { s₃ with heap := h₁, toks := s₃.toks + ([] : List (Str × Value)).length } →
      codeAny (model X.prog X.w) X.A (.compLoop (.ListComp elt [⟨.Name x px, iter, ifs, 0⟩] scope pos) 0 (.ref it) (.ref p) (compEnvC scope cl C X.env)) (RR (.ref p) C) s₄ := by
    rintro s₄ rfl
    generalize hE : notedBy (model X.prog X.w) X.A (compEnvC scope cl C X.env) (fun e s' => RR (.ref p) C (.error e) s') = E'
    refine codeAny_compLoop_tests (fun k s' => ∃ (i : Nat), ∃ ys ws o H' μ' G', L2.Inv (blk X x caps scope cl s₃ H₃ C fp E') pins (o :: caps.map fun q => (σ[q.2]?).join) H' s' ∧ tn i s'.heap ∧ (∀ b ∈ fp, H' b = none) ∧ i ≤ src.xs.length ∧ k = src.xs.length + 1 - i ∧
      Up μ μ' H H' ∧ Sim T X.K μ' H' G' ∧ H' p = some (.lst ws) ∧ p ∉ μ' ∧ Dens X.K H' μ' ys ws ∧ M3.run (M3.compL src.ck (fun z => ft (some z :: M3.capt σ3 (caps.map (·.2)))) (fun z => fe (some z :: M3.capt σ3 (caps.map (·.2)))) (src.xs.drop i) ys) G' P (Y.x μ H)) ?_ (src.xs.length + 1)
      ⟨0, [], [], none, H₃, μ, G, I4 E', tn1, fun b hb => (hf3 b hb).1, Nat.zero_le _, rfl, up0, S3, hpH, hpμ, rfl, h⟩
    rintro k s' ⟨i, ys, ws, o, H', μ', G', I', tn', fr', hi, rfl, up', S', hpw, hpm, dws, q'⟩
    rw [hE]
    have fpok : ∀ {H'' : Hp}, (∀ b ∈ fp, H'' b = none) → ∀ b ∈ fp, FpOk (blk X x caps scope cl s₃ H₃ C fp E') pins H'' b := fun {H''} hn b hb => by
      refine ⟨hn b hb, ?_, fun z => ?_, .inl hb, fun y c e => (hf b hb).2.2.2.2.1 y c (B.sub y c e), (hf b hb).2.2.2.2.2⟩
      · exact Nat.ne_of_lt (hfl3 b hb)
      · rcases List.mem_cons.mp (I3.stkSub b z) with e | e
        · exact (hf b hb).2.1 e
        · exact (hf b hb).2.2.1 e
    by_cases hlt : i < src.xs.length
    · rw [List.drop_eq_getElem_cons hlt] at q'
      obtain ⟨c, q2⟩ := compL_cons q'
      have ex : src.xs[i]? = some src.xs[i] := List.getElem?_eq_getElem hlt
      generalize src.xs[i] = d at ex q2
      refine wpAny_mono (Tn.item (blk X x caps scope cl s₃ H₃ C fp E') rfl rfl rfl hc i pins s' _ H' E' I' (fpok fr') tn' (sr.go i d μ' H' G' up' S' c ex)) (fun r s1 ⟨u, hr, h1⟩ => ?_) fun _ _ z => z
      subst hr
      have go : wpAny (model X.prog X.w) X.A (letOwnedTupleGo (.Name x px) (.ref it) u >>= fun _ => assign (.Name x px) (compEnvC scope cl C X.env) u) (fun _ s₂ =>
          wpAny (model X.prog X.w) X.A (forIn ifs true fun c r => if r = true then do let ok ← isTrue c (compEnvC scope cl C X.env) (eval c (compEnvC scope cl C X.env)); pure (ForInStep.yield ok) else pure (ForInStep.yield r)) (fun ok s₃' =>
            if ok = true then wpAny (model X.prog X.w) X.A (eval elt (compEnvC scope cl C X.env)) (fun y s₄ =>
              wpAny (model X.prog X.w) X.A (call (.builtin "list.append") [.ref p, y]) (fun _ s₅ => ∃ m, m < src.xs.length + 1 - i ∧ ∃ (i : Nat), ∃ ys ws o H' μ' G', L2.Inv (blk X x caps scope cl s₃ H₃ C fp E') pins (o :: caps.map fun q => (σ[q.2]?).join) H' s₅ ∧ tn i s₅.heap ∧ (∀ b ∈ fp, H' b = none) ∧ i ≤ src.xs.length ∧ m = src.xs.length + 1 - i ∧
      Up μ μ' H H' ∧ Sim T X.K μ' H' G' ∧ H' p = some (.lst ws) ∧ p ∉ μ' ∧ Dens X.K H' μ' ys ws ∧ M3.run (M3.compL src.ck (fun z => ft (some z :: M3.capt σ3 (caps.map (·.2)))) (fun z => fe (some z :: M3.capt σ3 (caps.map (·.2)))) (src.xs.drop i) ys) G' P (Y.x μ H)) E' s₄) E' s₃'
            else ∃ m, m < src.xs.length + 1 - i ∧ ∃ (i : Nat), ∃ ys ws o H' μ' G', L2.Inv (blk X x caps scope cl s₃ H₃ C fp E') pins (o :: caps.map fun q => (σ[q.2]?).join) H' s₃' ∧ tn i s₃'.heap ∧ (∀ b ∈ fp, H' b = none) ∧ i ≤ src.xs.length ∧ m = src.xs.length + 1 - i ∧
      Up μ μ' H H' ∧ Sim T X.K μ' H' G' ∧ H' p = some (.lst ws) ∧ p ∉ μ' ∧ Dens X.K H' μ' ys ws ∧ M3.run (M3.compL src.ck (fun z => ft (some z :: M3.capt σ3 (caps.map (·.2)))) (fun z => fe (some z :: M3.capt σ3 (caps.map (·.2)))) (src.xs.drop i) ys) G' P (Y.x μ H)) E' s₂) E' s1 := by
        refine wpAny_bind (thn h1 fun _ s2 ⟨xv, H'', I5, r5, y5, tn5, fr5⟩ => ?_)
        obtain ⟨sm, dx⟩ := sr.yld i d xv μ' H' H'' G' up' S' c ex y5
        have us : Up μ' μ' H' H'' := Up.same sm
        have up' := up'.trans us
        have S' := S'.same sm
        have hpw := sm _ _ hpw
        have dws := Dens.up us dws
        have I5' := I5.pinned (fpok fr5) (Tn.obj _ _ tn5)
        -- the records of the iterator stand as they stood
        have back : ∀ {σ7 : L2.St} {H7 : Hp} {s7 : Shared}, L2.Inv (blk X x caps scope cl s₃ H₃ C fp E') (pins ++ pinsAt fp s2.heap) σ7 H7 s7 → tn (i + 1) s7.heap ∧ ∀ b ∈ fp, H7 b = none := fun {σ7 H7 s7} I7 => by
          refine ⟨Tn.keep _ _ _ tn5 fun b hb ob eb => (I7.pin (b, ob) (List.mem_append_right _ (List.mem_append_right _ (mem_pinsAt hb eb)))).1, fun b hb => ?_⟩
          obtain ⟨ob, eb, _⟩ := Tn.obj _ _ tn5 b hb
          exact (I7.pin (b, ob) (List.mem_append_right _ (List.mem_append_right _ (mem_pinsAt hb eb)))).2.1
        refine thn (pg_name (X := blk X x caps scope cl s₃ H₃ C fp E') (i := 0) (pos := px) B.nd rfl (.inl (lookup_relabel_local B.own)) (.inl (decide_eq_true rfl)) _ s2 _ _ xv u (fun σ2 H2 => σ2 = some xv :: caps.map (fun q => (σ[q.2]?).join) ∧ H2 = H'') I5' r5 ⟨rfl, rfl⟩) fun _ s3 ⟨σ6, H6, I6, e6, e7⟩ => ?_
        subst e6 e7
        have sd6 : StD X.K H6 μ' (some d :: M3.capt σ3 (caps.map (·.2))) (some xv :: caps.map fun q => (σ[q.2]?).join) := ((sd.up up').capt caps (some xv)).set 0 dx
        refine thn (ht s₃ H₃ C fp E' _ s3 _ H6 (fun b H8 => ∃ μ8 G8, Up μ' μ8 H6 H8 ∧ Sim T X.K μ8 H8 G8 ∧ M3.run (cNext src.ck (fun z => ft (some z :: M3.capt σ3 (caps.map (·.2)))) (fun z => fe (some z :: M3.capt σ3 (caps.map (·.2)))) d (src.xs.drop (i + 1)) ys b) G8 P (Y.x μ H)) I6
          ⟨μ', _, G', S', sd6, stepB0 (Y := Y) q2 (fun _ _ z => Y.up up' z) fun b G8 H8 μ8 u8 S8 h8 => ⟨μ8, G8, u8, S8, h8⟩⟩) fun b s4 ⟨H8, I8, μ8, G8, u8, S8, h8⟩ => ?_
        obtain ⟨hpw8, hpm8⟩ := u8.rest p _ hpw hpm
        cases b with
        | false =>
          obtain ⟨tn8, fr8⟩ := back I8
          exact ⟨_, by omega, i + 1, ys, ws, some xv, H8, μ8, G8, I8.unpinned, tn8, fr8, hlt, rfl, up'.trans u8, S8, hpw8, hpm8, Dens.up u8 dws, h8⟩
        | true =>
          refine thn (he s₃ H₃ C fp E' _ s4 _ H8 (fun v H9 => ∃ y μ9 G9, Up μ8 μ9 H8 H9 ∧ Sim T X.K μ9 H9 G9 ∧ Den X.K H9 μ9 y v ∧ M3.run (if ys.length < M3.sizeL then M3.compL src.ck (fun z => ft (some z :: M3.capt σ3 (caps.map (·.2)))) (fun z => fe (some z :: M3.capt σ3 (caps.map (·.2)))) (src.xs.drop (i + 1)) (ys ++ [y]) else M3.fail) G9 P (Y.x μ H)) I8
            ⟨μ8, _, G8, S8, sd6.up u8, stepV0 (Y := Y) h8 (fun _ _ z => Y.up (up'.trans u8) z) fun y G9 v H9 μ9 u9 S9 d9 h9 => ⟨y, μ9, G9, u9, S9, d9, h9⟩⟩) fun yv s5 ⟨v, H9, I9, rv, y, μ9, G9, u9, S9, d9, h9⟩ => ?_
          obtain ⟨hpw9, hpm9⟩ := u9.rest p _ hpw8 hpm8
          obtain ⟨hl, h9⟩ := runIf h9
          have dws9 := Dens.up (u8.trans u9) dws
          refine thn (mt_append (X := blk X x caps scope cl s₃ H₃ C fp E') _ s5 _ H9 (.ref p) [v] (.ref p) [yv] (fun _ H10 => H10 = upd H9 p (.lst (ws ++ [v]))) I9 rfl (.cons rv .nil) ⟨p, ws, v, rfl, rfl, hpw9, by rw [← dws9.length, ← sizeL_eq]; exact hl, rfl⟩) fun _ s6 ⟨_, H10, I10, _, e10⟩ => ?_
          subst e10
          obtain ⟨tn10, fr10⟩ := back I10
          have k10 : Keeps H9 (upd H9 p (.lst (ws ++ [v]))) := Keeps.write hpw9 (fun _ z => nomatch z) (fun _ _ z => nomatch z)
          exact ⟨_, by omega, i + 1, ys ++ [y], ws ++ [v], some xv, _, μ9, G9, I10.unpinned, tn10, fr10, hlt, rfl, ((up'.trans u8).trans u9).off hp0 hpw9, S9.off hpm9 hpw9, upd_same, hpm9, Dens.mono (List.prefix_refl _) k10 (dws9.append (Dens.one d9)), h9⟩
      exact go
    · have e : i = src.xs.length := by omega
      subst e
      rw [List.drop_length] at q'
      obtain ⟨c, q2⟩ := compL_nil q'
      refine wpAny_mono (Tn.done (blk X x caps scope cl s₃ H₃ C fp E') rfl rfl rfl hc _ pins s' _ H' E' I' (fpok fr') tn' (sr.stop μ' H' G' up' S' c)) (fun r s1 ⟨hr, I5⟩ => ?_) fun _ _ z => z
      subst hr
      have I6 : L2.Inv X pins σ H' s1 := I3.call' (ch := fp) I5.os I5.base I5.hok I5.bare hch
      obtain ⟨m, hm, _⟩ := I5.loc
      exact fin p C s1 ⟨⟨ys, ws, H', μ', G', I6, up', S', hpw, hpm, dws, q2, I5.free, hp0⟩, ⟨m, hm⟩, by rw [hsz3]; exact Nat.le_succ _⟩
  exact codeAny_compStart_list (loop _ rfl) (Tn.self _ 0 _ _ _ tn1 (loop _ rfl))
end
end L3

namespace L3
open PySem PySem.Spec PyProof.Rows L2 PySem.SeqAt
/-- a tracked list gets its number -/
theorem Sim.adopt {T : Tab} {K : PySem.W.Frag} {μ : List Addr} {H : Hp} {G : M3.Hh} {p : Addr} {ws : List V} {ys : List M3.D} (S : Sim T K μ H G) (hp : p ∉ μ) (hw : H p = some (.lst ws)) (d : Dens K H μ ys ws) : Sim T K (μ ++ [p]) H (G ++ [.lst ys]) := by
  have pre : μ <+: μ ++ [p] := ⟨[p], rfl⟩
  have old : ∀ (n : Nat) a o', (μ ++ [p])[n]? = some a → (G ++ [.lst ys])[n]? = some o' → (μ[n]? = some a ∧ G[n]? = some o') ∨ (n = G.length ∧ a = p ∧ o' = .lst ys) := by
    intro n a o' e1 e2
    by_cases h : n < G.length
    · rw [List.getElem?_append_left (by rw [S.len]; exact h)] at e1
      rw [List.getElem?_append_left h] at e2
      exact .inl ⟨e1, e2⟩
    · have hn : n = G.length := by
        have := (List.getElem?_eq_some_iff.mp e2).1
        rw [List.length_append] at this
        simp at this
        omega
      subst hn
      rw [← S.len] at e1
      simp at e1 e2
      exact .inr ⟨rfl, e1.symm, e2.symm⟩
  refine ⟨by simp [S.len], fun n a o' e1 e2 => ?_, fun n m a o1 o2 hnm e1 e2 e3 e4 => ?_⟩
  · rcases old n a o' e1 e2 with ⟨h1, h2⟩ | ⟨_, rfl, rfl⟩
    · exact (S.obj n a o' h1 h2).mono pre (Keeps.refl _) fun _ z => z
    · exact ⟨ws, hw, Dens.mono pre (Keeps.refl _) d⟩
  · rcases old n a o1 e1 e3 with ⟨h1, h2⟩ | ⟨rfl, rfl, rfl⟩
    · rcases old m a o2 e2 e4 with ⟨h3, h4⟩ | ⟨rfl, rfl, rfl⟩
      · exact S.inj n m a o1 o2 hnm h1 h3 h2 h4
      · exact absurd (List.mem_of_getElem? h1) hp
    · rcases old m a o2 e2 e4 with ⟨h3, h4⟩ | ⟨h3, _, _⟩
      · exact absurd (List.mem_of_getElem? h3) hp
      · exact absurd h3.symm hnm
theorem Up.adopt {μ μ' : List Addr} {H H' : Hp} {p : Addr} (u : Up μ μ' H H') (hp : H p = none) : Up μ (μ' ++ [p]) H H' :=
  ⟨u.pre.trans ⟨[p], rfl⟩, u.keeps, fun b o e n => ⟨(u.rest b o e n).1, fun z => by
    rcases List.mem_append.mp z with z | z
    · exact (u.rest b o e n).2 z
    · simp at z; subst z; rw [hp] at e; cases e⟩⟩
section
variable {X : Cx} {T : Tab} {Y : EX} {elt iter : Expr} {x : Str} {px : Pos} {ifs : List Expr} {scope : Scope} {cl : List (Str × Addr)} {caps : List (Str × Nat)} {pos : Pos} {fe : M3.E3} {ft : M3.T3} {it : M3.I3}
/-- the block's own record may turn -/
theorem off_blk {pins : List (Addr × Obj)} {σ σ' : L2.St} {H H' : Hp} {s₂ s' : Shared} {C : Addr} (I : L2.Inv X pins σ H s₂) (hge : s₂.heap.objs.size ≤ C) (I' : L2.Inv X pins σ' H' s') (hC : H' C = none) {h' : Heap} (hs : Heap.SameBut C s'.heap h') : L2.Inv X pins σ' H' { s' with heap := h' } := by
  refine I'.turned (t' := s'.toks) (it := C) (fun b o hb e => (hs.2 b hb).trans e) hC (Nat.ne_of_gt (Nat.lt_of_lt_of_le I.lt hge)) (.inr (Nat.le_trans I.sz hge)) (fun y c e z => ?_) fun q hq z => ?_
  · obtain ⟨v, w⟩ := I.cell y c e
    exact absurd (Nat.lt_of_lt_of_le w.lt (by rw [z]; exact hge)) (Nat.lt_irrefl _)
  · exact absurd (Nat.lt_of_lt_of_le (Heap.lt_size (I.pin q hq).1) (by rw [z]; exact hge)) (Nat.lt_irrefl _)
theorem x_comp (B : Blk X x caps scope cl) (hc : X.calm = true) (hi : PI X (.Name x px) iter (tI T X.K Y it)) (ht : ∀ s₃ H₃ C fp E', PTs (blk X x caps scope cl s₃ H₃ C fp E') ifs (tT T X.K Y ft)) (he : ∀ s₃ H₃ C fp E', PE (blk X x caps scope cl s₃ H₃ C fp E') elt (tE T X.K Y fe))
    (hs : ∀ x, foldedSetIterable iter X.env x = pure x := by intro _; rfl) : PE X (.ListComp elt [⟨.Name x px, iter, ifs, 0⟩] scope pos) (tE T X.K Y (M3.eComp it (caps.map (·.2)) ft fe)) := by
  intro pins s σ H Q I ⟨μ, σ3, G, S, sd, h⟩
  rw [eval_ListComp]
  refine wpAny_comprehension_free (use := none) rfl hs B.clos B.kind B.loc (thn (hi pins s σ H (fun J H1 => ∃ src μ1 G1, Up μ μ1 H H1 ∧ Sim T X.K μ1 H1 G1 ∧ SrcD T X.K μ1 H1 src J ∧
    M3.run (M3.bnd (M3.compL src.ck (fun x => ft (some x :: M3.capt σ3 (caps.map (·.2)))) (fun x => fe (some x :: M3.capt σ3 (caps.map (·.2)))) src.xs []) fun ys => M3.new (.lst ys)) G1 (PostV T X.K μ H Q) (Y.x μ1 H1)) I
    ⟨μ, σ3, G, S, sd, runUp (M3.run_bnd h) fun src G1 q J H1 μ1 u1 S1 sr => ⟨src, μ1, G1, u1, S1, sr, Y.upE u1 q⟩⟩) fun v s1 h1 => thn h1 fun itv s2 h2 => ?_)
  obtain ⟨ita, fp, tn, J, H1, e, I2, Tn, st2, f2, src, μ1, G1, u1, S1, sr, q⟩ := h2
  subst e
  refine comp_core (RR := fun acc C => compPost (model X.prog X.w) X.A X.xe none (EP X pins σ Q) acc C) B hc he ht I2 Tn st2 f2 S1 (sd.up u1) sr (M3.run_bnd q) fun p C s' ce => ?_
  obtain ⟨⟨ys, ws, H', μ', G', I', u', S', hpw, hpm, d, hP, hC, hp0⟩, ⟨m, hm⟩, hge⟩ := ce
  refine ⟨m, hm, fun h' hsb => ⟨.ref p, H', off_blk I2 hge I' hC hsb, rfl, ?_⟩⟩
  refine hP _ H' (μ' ++ [p]) (u1.trans (u'.adopt hp0)) (S'.adopt hpm hpw d) ⟨p, ?_, rfl⟩
  rw [← S'.len]; simp
/-- name = [..], on one line: the store comes ahead of the block's end -/
theorem y_setComp {i : Nat} {y : Str} {py spos : Pos} (B : Blk X x caps scope cl) (hc : X.calm = true) (hN : X.N.Nodup) (hiN : X.N[i]? = some y) (hy : X.env.scope.names.lookup y = some .local)
    (hi : PI X (.Name x px) iter (tI T X.K Y it)) (ht : ∀ s₃ H₃ C fp E', PTs (blk X x caps scope cl s₃ H₃ C fp E') ifs (tT T X.K Y ft)) (he : ∀ s₃ H₃ C fp E', PE (blk X x caps scope cl s₃ H₃ C fp E') elt (tE T X.K Y fe))
    (hsw : swapsWith (.ListComp elt [⟨.Name x px, iter, ifs, 0⟩] scope pos) (some (.Name y py)) spos.line X.env = pure true := by rfl)
    (hs : ∀ x, foldedSetIterable iter X.env x = pure x := by intro _; rfl) : PS X (.Assign [.Name y py] (.ListComp elt [⟨.Name x px, iter, ifs, 0⟩] scope pos) spos) (tS T X.K Y (M3.sSet i (M3.eComp it (caps.map (·.2)) ft fe))) := by
  intro pins s σ H D I ⟨μ, σ3, G, S, sd, h⟩
  rw [exec_Assign_Name_used _ _ _ _ hsw]
  refine wpAny_bind (wpAny_standAt (wpAny_bind ?_))
  show wpAny _ X.A (do let _ ← comprehension (.ListComp elt [⟨.Name x px, iter, ifs, 0⟩] scope pos) scope X.env _ (newList []) false (eval iter X.env) (some (assign (.Name y py) X.env))) _ _ s
  refine wpAny_bind (wpAny_mono (wpAny_comprehension_free (use := some (assign (.Name y py) X.env)) (Q := fun _ s' => SP X pins D .next s') rfl hs B.clos B.kind B.loc
    (thn (hi pins s σ H (fun J H1 => ∃ src μ1 G1, Up μ μ1 H H1 ∧ Sim T X.K μ1 H1 G1 ∧ SrcD T X.K μ1 H1 src J ∧
    M3.run (M3.bnd (M3.compL src.ck (fun x => ft (some x :: M3.capt σ3 (caps.map (·.2)))) (fun x => fe (some x :: M3.capt σ3 (caps.map (·.2)))) src.xs []) fun ys => M3.bnd (M3.new (.lst ys)) fun d => M3.ret (.next, σ3.set i (some d))) G1 (PostS T X.K μ H D) (Y.x μ1 H1)) I
    ⟨μ, σ3, G, S, sd, runUp (M3.run_bnd (by
      have h : M3.run (M3.bnd (M3.bnd (it σ3) fun src => M3.bnd (M3.compL src.ck (fun x => ft (some x :: M3.capt σ3 (caps.map (·.2)))) (fun x => fe (some x :: M3.capt σ3 (caps.map (·.2)))) src.xs []) fun ys => M3.new (.lst ys)) fun d => M3.ret (.next, σ3.set i (some d))) G (PostS T X.K μ H D) (Y.x μ H) := h
      rw [M3.bnd_assoc] at h
      exact h)) fun src G1 q J H1 μ1 u1 S1 sr => ⟨src, μ1, G1, u1, S1, sr, Y.upE u1 (by rw [M3.bnd_assoc] at q; exact q)⟩⟩) fun v s1 h1 => thn h1 fun itv s2 h2 => ?_)) (fun _ s' hq => wpAny_pure (wpAny_pure hq)) fun _ _ e => e)
  obtain ⟨ita, fp, tn, J, H1, e, I2, Tn, st2, f2, src, μ1, G1, u1, S1, sr, q⟩ := h2
  subst e
  refine comp_core (RR := fun acc C => compPost (model X.prog X.w) X.A X.xe (some (assign (.Name y py) X.env)) (fun _ s' => SP X pins D .next s') acc C) B hc he ht I2 Tn st2 f2 S1 (sd.up u1) sr (M3.run_bnd q) fun p C s' ce => ?_
  obtain ⟨⟨ys, ws, H', μ', G', I', u', S', hpw, hpm, d, hP, hC, hp0⟩, ⟨m, hm⟩, hge⟩ := ce
  show wpAny _ X.A (assign (.Name y py) X.env (.ref p)) _ _ _
  refine wpAny_assign_Name (store_ok2 I' hN hiN (.inl hy) (v := .ref p) rfl (fun s3 I3 ⟨a, hsa, hal⟩ => ?_) (.inr hy))
  have hCa : C ≠ a := by
    rintro rfl
    rcases hal with z | z
    · exact absurd I2.lt (by rw [← z]; exact Nat.not_lt.mpr hge)
    · obtain ⟨v, w⟩ := I2.cell _ _ z
      exact absurd (Nat.lt_of_lt_of_le w.lt hge) (Nat.lt_irrefl _)
  refine ⟨m, hm.sameBut hsa hCa, fun h' hsb => ⟨_, H', off_blk I2 hge I3 hC hsb, ?_⟩⟩
  have Sa := S'.adopt hpm hpw d
  have ua := (u1.trans (u'.adopt hp0))
  have dn : Den X.K H' (μ' ++ [p]) (.ref G'.length) (.ref p) := ⟨p, by rw [← S'.len]; simp, rfl⟩
  exact hP _ H' (μ' ++ [p]) ua Sa ((sd.up ua).set i dn)
/-- nothing is taken from around -/
theorem Blk.nil (hkind : scope.kind = .function) (hno : scope.names.all (fun y => decide (y.2 = .local)) = true) (hloc : ∀ y ∈ scope.names, scope.names.lookup y.1 = some .local) (hown : scope.names.lookup x = some .local) : Blk X x [] scope [] := by
  have hl : ∀ y ∈ scope.names, y.2 = .local := fun y hy => of_decide_eq_true (List.all_eq_true.mp hno y hy)
  refine ⟨hkind, fun y hy z => ?_, fun y hy _ => hloc y hy, hown, closureFor_none fun y hy z => ?_, (by simp), (fun y c e => by cases e), (fun y hy => ?_), rfl, (fun j y i e => by simp at e)⟩
  · rw [hl y hy] at z; cases z
  · rw [hl y hy] at z; cases z
  · exfalso
    have key : ∀ (l : List (Str × NameKind)), (∀ z ∈ l, z.2 = .local) → ∀ k, (l.map fun (n, k) => if (k == NameKind.free && X.env.scope.kind == .function && X.env.kindOf n == some .cell) then (n, NameKind.cell) else (n, k)).lookup y = some k → k = .local := by
      intro l
      induction l with
      | nil => intro _ k e; cases e
      | cons z r ih =>
        intro hz k e
        obtain ⟨n, kk⟩ := z
        have hk : kk = .local := hz (n, kk) List.mem_cons_self
        subst hk
        rw [List.map_cons] at e
        simp only [show (NameKind.local == NameKind.free) = false from rfl, Bool.false_and, Bool.false_eq_true, if_false, List.lookup_cons] at e
        cases q : y == n with
        | true => rw [q] at e; cases e; rfl
        | false => rw [q] at e; exact ih (fun w hw => hz w (List.mem_cons_of_mem _ hw)) k e
    rcases hy with z | z
    · exact absurd (key _ hl _ z) (by decide)
    · exact absurd (key _ hl _ z) (by decide)
end
end L3
namespace L3
open PySem PySem.Spec PyProof.Rows L2 PySem.SeqAt
/-! short words for the derivations -/
def GlobD (K : PySem.W.Frag) (mg : Str → Option Value) (x : Str) (d : M3.D) : Prop := ∃ v u, mg x = some u ∧ RelV v u ∧ ∀ H μ, Den K H μ d v
section
variable {X : Cx} {T : Tab} {Y : EX} {a b e : Expr} {fa fb : M3.E3} {pos : Pos}
theorem x_glob {x : Str} {d : M3.D} (h : GlobD X.K X.mg x d) (hg : Gl X x := by rfl) (hd : (x == ("__debug__" : Str)) = false := by decide) : PE X (.Name x pos) (tE T X.K Y (M3.eC d)) := by
  obtain ⟨v, u, h1, h2, h3⟩ := h
  exact x_const (pe_glob hg h1 h2 hd) h3
theorem q_oEq (hu : X.A.units + 64 < cLine) : OpR X (compareOp .Eq) (rEqD T X.K false) ∧ Br2 T X.K Y M3.oEq (rEqD T X.K false) := br_oEq (by omega)
theorem q_oNe (hu : X.A.units + 64 < cLine) : OpR X (compareOp .NotEq) (rEqD T X.K true) ∧ Br2 T X.K Y M3.oNe (rEqD T X.K true) := br_oNe (by omega)
theorem q_oIn (hu : X.A.units + 64 < cLine) : OpR X (compareOp .In) (rInD T X.K false) ∧ Br2 T X.K Y M3.oIn (rInD T X.K false) := br_oIn (by omega)
theorem q_oNotIn (hu : X.A.units + 64 < cLine) : OpR X (compareOp .NotIn) (rInD T X.K true) ∧ Br2 T X.K Y M3.oNotIn (rInD T X.K true) := br_oNotIn (by omega)
theorem q_oLt (hu : X.A.units + 64 < cLine) : OpR X (compareOp .Lt) (rLtD X.K) ∧ Br2 T X.K Y M3.oLt (rLtD X.K) := br_oLt (by omega)
theorem q_oGt (hu : X.A.units + 64 < cLine) : OpR X (compareOp .Gt) (rGtD X.K) ∧ Br2 T X.K Y M3.oGt (rGtD X.K) := br_oGt (by omega)
theorem q_oLe (hu : X.A.units + 64 < cLine) : OpR X (compareOp .LtE) (rI0 fun i j => .bl (decide (i ≤ j))) ∧ Br2 T X.K Y M3.oLe (rI0 fun i j => .bl (decide (i ≤ j))) := br_oLe
theorem q_oGe (hu : X.A.units + 64 < cLine) : OpR X (compareOp .GtE) (rI0 fun i j => .bl (decide (j ≤ i))) ∧ Br2 T X.K Y M3.oGe (rI0 fun i j => .bl (decide (j ≤ i))) := br_oGe
theorem q_ix (hu : X.A.units + 64 < cLine) (ha : PE X a (tE T X.K Y fa)) (hb : PE X b (tE T X.K Y fb)) (hs : PlainIx b := by intro _ _; rfl) : PE X (.Subscript a b pos) (tE T X.K Y (M3.eOp M3.oIx fa fb)) := x_ix (by omega) ha hb hs
/-- a tuple of the module -/
theorem den_tup {K : PySem.W.Frag} {a : Addr} {od : Option Addr} {its : Array Value} {n : Nat} {sl : Array (Option Value)} {ds : List M3.D} {vs : List V} (l : K.lookup a = some ⟨.type "tuple", od, .seq its n, sl⟩) (hz : its.size ≤ sizeLine) (r : Vals vs its.toList) (d : ∀ H μ, Dens K H μ ds vs) : ∀ H μ, Den K H μ (.tup ds) (.ref a) :=
  fun H μ => ⟨a, vs, rfl, .inr ⟨_, its, n, l, rfl, rfl, hz, r⟩, d H μ⟩
/-- the law's own promise: over the script the machine says True -/
theorem law_sp {T : Tab} {K : PySem.W.Frag} {f : List M3.D → M3.M M3.D} {n : Nat} (h : ∀ ns : List Int, ns.length ≤ n → M3.run (f [.ref 0]) [.frz (ns.map M3.D.int)] (fun d _ => d = .bl true) fun _ _ => False)
    {H : Hp} {a : Addr} {ns : List Int} (hl : ns.length ≤ n) (hO : Only H) (sq : SqL K H a (ns.map V.int)) : sp3 T K 1 f [.ref a] H (fun v _ => v = .bl true) fun _ _ _ => False := by
  have sf : SqF K H a (ns.map V.int) := by
    rcases sq with (sq | ⟨o, sq⟩) | sq
    · rcases hO a with z | ⟨o, xs, z⟩
      · rw [z] at sq; cases sq
      · rw [z] at sq; cases sq
    · exact .inl ⟨o, sq⟩
    · exact .inr sq
  refine ⟨rfl, [a], [.ref 0], [.frz (ns.map M3.D.int)], ⟨rfl, fun k b o e1 e2 => ?_, fun k m b o o' hkm e1 e2 e3 e4 => ?_⟩, ⟨.ref a, [], rfl, ⟨a, rfl, rfl⟩, rfl⟩, M3.run_mono (h ns hl) (fun d G' e v H' μ' u S r => ?_) fun _ _ z => z.elim⟩
  · cases k with
    | zero => cases e1; cases e2; exact ⟨_, sf, Dens.of_ints⟩
    | succ k => simp at e1
  · cases k with
    | zero => cases e3; exact .inl rfl
    | succ k => simp at e1
  · subst e; exact r
end
end L3

namespace L3
open PySem PySem.Spec PyProof.Rows L2 PySem.SeqAt
/-! instances of the text's own classes -/
/-- the field's name belongs to no class body; names of fields differ -/
structure FldOk (T : Tab) (K : PySem.W.Frag) (f : Nat) : Prop where
  cl : ∀ C Ca, T.cls C = some Ca → Cls K Ca ∧ NoAttr K Ca (T.nm f)
  inj : ∀ g, T.nm g = T.nm f → g = f
abbrev FDen (T : Tab) (K : PySem.W.Frag) (H : Hp) (μ : List Addr) : List (Nat × M3.D) → List (Str × V) → Prop := Paired (fun (p : Nat × M3.D) (q : Str × V) => q.1 = T.nm p.1 ∧ Den K H μ p.2 q.2)
section
variable {X : Cx} {T : Tab} {Y : EX} {a b e o : Expr} {es : List Expr} {fa fb : M3.E3} {f3 : M3.A3} {pos pos' p apos : Pos}
theorem FDen.get {K : PySem.W.Frag} {H : Hp} {μ : List Addr} {f : Nat} (hf : ∀ g, T.nm g = T.nm f → g = f) : ∀ {fs : List (Nat × M3.D)} {ws : List (Str × V)} {d : M3.D}, FDen T K H μ fs ws → fs.lookup f = some d → ∃ v, ws.lookup (T.nm f) = some v ∧ Den K H μ d v
  | _, _, _, .nil, e => by cases e
  | (g, x) :: fs, (s, w) :: ws, d, .cons ⟨h1, h2⟩ t, e => by
    have h1 : s = T.nm g := h1
    subst h1
    by_cases h : g = f
    · subst h
      simp at e
      subst e
      exact ⟨w, by simp, h2⟩
    · have hn : ¬ T.nm f = T.nm g := fun z => h (hf g z.symm)
      have h' : (f == g) = false := by simpa using fun z => h (Eq.symm z)
      have hn' : (T.nm f == T.nm g) = false := by simpa using hn
      rw [List.lookup_cons, h'] at e
      rw [List.lookup_cons, hn']
      exact FDen.get hf t e
theorem FDen.none {K : PySem.W.Frag} {H : Hp} {μ : List Addr} {m : Str} (hm : ∀ g, T.nm g ≠ m) : ∀ {fs : List (Nat × M3.D)} {ws : List (Str × V)}, FDen T K H μ fs ws → ws.lookup m = Option.none
  | _, _, .nil => rfl
  | (g, x) :: fs, (s, w) :: ws, .cons ⟨h1, h2⟩ t => by
    have h1 : s = T.nm g := h1
    subst h1
    have hn' : (m == T.nm g) = false := by simpa using fun z => hm g (Eq.symm z)
    rw [List.lookup_cons, hn']
    exact FDen.none hm t
theorem FDen.put {K : PySem.W.Frag} {H : Hp} {μ : List Addr} {f : Nat} (hf : ∀ g, T.nm g = T.nm f → g = f) {d : M3.D} {v : V} (dv : Den K H μ d v) : ∀ {fs : List (Nat × M3.D)} {ws : List (Str × V)}, FDen T K H μ fs ws → FDen T K H μ (M3.putN f d fs) (putF (T.nm f) v ws)
  | _, _, .nil => .cons ⟨rfl, dv⟩ .nil
  | (g, x) :: fs, (s, w) :: ws, .cons ⟨h1, h2⟩ t => by
    have h1 : s = T.nm g := h1
    subst h1
    unfold M3.putN putF
    by_cases h : g = f
    · subst h
      rw [if_pos rfl, if_pos rfl]
      exact .cons ⟨rfl, dv⟩ t
    · rw [if_neg h, if_neg fun z => h (hf g z)]
      exact .cons ⟨rfl, h2⟩ (FDen.put hf dv t)
/-- e.f -/
theorem x_fld {f : Nat} {n : Str} (F : FldOk T X.K f) (he : PE X e (tE T X.K Y fa)) (hn : n = T.nm f := by rfl) (hb : attributeBase e n X.env (eval e X.env) = eval e X.env := by rfl) : PE X (.Attribute e n pos) (tE T X.K Y (M3.eFld fa f)) := by
  subst hn
  refine PE.of (pe_fld he hb) fun σ H Q ⟨μ, σ3, G, S, sd, h⟩ => ⟨μ, σ3, G, S, sd, stepV h fun d G1 v H1 μ1 u1 S1 d1 h1 => ?_⟩
  unfold M3.run M3.getF at h1
  cases d with
  | ref k =>
    dsimp only at h1
    obtain ⟨a, ea, rfl⟩ := d1
    cases q : G1[k]? with
    | none => rw [q] at h1; exact False.elim h1
    | some ob =>
      have od := S1.obj k a ob ea q
      rw [q] at h1
      cases ob with
      | ins C fs =>
        dsimp only at h1
        obtain ⟨Ca, dx, ws, hc, e1, r⟩ := od
        cases ql : fs.lookup f with
        | none => rw [ql] at h1; exact False.elim h1
        | some d =>
          rw [ql] at h1
          obtain ⟨w, e2, dw⟩ := FDen.get F.inj r ql
          exact ⟨a, Ca, dx, ws, w, rfl, e1, (F.cl C Ca hc).1, (F.cl C Ca hc).2, e2, h1 w H1 μ1 u1 S1 dw⟩
      | _ => exact False.elim h1
  | _ => exact False.elim h1
/-- o.f = e -/
theorem y_fld {f : Nat} {n : Str} (F : FldOk T X.K f) (ho : PE X o (tE T X.K Y fa)) (he : PE X e (tE T X.K Y fb)) (hn : n = T.nm f := by rfl) (hs : swapsWith e (some (.Attribute o n pos')) pos.line X.env = pure false := by rfl) : PS X (.Assign [.Attribute o n pos'] e pos) (tS T X.K Y (M3.sFldS fa f fb)) := by
  subst hn
  refine PS.of (ps_fld ho he hs) fun D σ H ⟨μ, σ3, G, S, sd, h⟩ => ⟨μ, σ3, G, S, sd, stepV h fun y G1 w H1 μ1 u1 S1 d1 h1 => ⟨μ1, σ3, G1, S1, sd.up u1, stepV h1 fun x G2 v H2 μ2 u2 S2 d2 h2 => ?_⟩⟩
  have h2 := M3.run_bnd h2
  unfold M3.run M3.setF at h2
  cases x with
  | ref k =>
    dsimp only at h2
    obtain ⟨a, ea, rfl⟩ := d2
    cases q : G2[k]? with
    | none => rw [q] at h2; exact False.elim h2
    | some ob =>
      have od := S2.obj k a ob ea q
      rw [q] at h2
      cases ob with
      | ins C fs =>
        dsimp only at h2
        obtain ⟨Ca, dx, ws, hc, e1, r⟩ := od
        by_cases c : fs.length < 1000
        · rw [if_pos c] at h2
          have up := Up.set S2 (.ins Ca dx (putF (T.nm f) w ws)) ea q rfl
          refine ⟨a, Ca, dx, ws, rfl, e1, (F.cl C Ca hc).1, (F.cl C Ca hc).2, by rw [← Paired.length r]; exact c, ?_⟩
          have r2 : FDen T X.K (upd H2 a (.ins Ca dx (putF (T.nm f) w ws))) μ2 fs ws := Paired.imp' (fun _ _ z => ⟨z.1, Den.up up z.2⟩) r
          exact h2 _ _ μ2 ((u1.trans u2).trans up) (S2.set ea q rfl rfl ⟨Ca, dx, _, hc, upd_same, FDen.put F.inj (Den.up (u2.trans up) d1) r2⟩) (sd.up ((u1.trans u2).trans up))
        · rw [if_neg c] at h2; exact False.elim h2
      | _ => exact False.elim h2
  | _ => exact False.elim h2
/-- a method of the class numbered C -/
structure Mt3 (P : Program) (w : World) (K : PySem.W.Frag) (mg : Str → Option Value) (base : Heap) (CX : CXT) (T : Tab) (k : Nat) (C : Nat) (m : Str) (n : Nat) (f : List M3.D → M3.M M3.D) : Prop where
  ex : ∃ Ca fa fd ps, T.cls C = some Ca ∧ Cls K Ca ∧ Meth K Ca m fa ∧ FnOk P w K mg base CX k fa fd ps (sp3 T K n f) ∧ Binds K fd ps []
  no : ∀ g, T.nm g ≠ m
  len : ∀ ds G (Q : M3.D → M3.Hh → Prop) (Z : Nat → M3.Hh → Prop), M3.run (f ds) G Q Z → ds.length = n
theorem isC_of {Z : Nat → M3.Hh → Prop} {C : Nat} {x : M3.D} {G : M3.Hh} {P : Unit → M3.Hh → Prop} (h : M3.run (M3.isC C x) G P Z) : ∃ k fs, x = .ref k ∧ G[k]? = some (.ins C fs) ∧ P () G := by
  unfold M3.run M3.isC at h
  cases x with
  | ref k =>
    dsimp only at h
    cases q : G[k]? with
    | none => rw [q] at h; exact False.elim h
    | some ob =>
      rw [q] at h
      cases ob with
      | ins C' fs =>
        dsimp only at h
        by_cases c : C' = C
        · rw [if_pos c] at h; subst c; exact ⟨k, fs, rfl, q, h⟩
        · rw [if_neg c] at h; exact False.elim h
      | _ => exact False.elim h
  | _ => exact False.elim h
theorem t_meth {CX : CXT} {E : XK} {P : Program} {w : World} {K : PySem.W.Frag} {mg : Str → Option Value} {base : Heap} {k n : Nat} {C : Nat} {Ca : Addr} {m : Str} {g : List M3.D → M3.M M3.D} (hc : T.cls C = some Ca) (no : ∀ g, T.nm g ≠ m) (len : ∀ ds G (Q : M3.D → M3.Hh → Prop) (Z : Nat → M3.Hh → Prop), M3.run (g ds) G Q Z → ds.length = n)
    {σ : L2.St} {H : Hp} {Q : VK} (h : tE T K (EX.of T K E) (M3.eMeth C g fa f3) σ H Q) : tMeth Ca m (sp3 T K n g) [] E (tE T K (EX.of T K E) fa) (tA T K (EX.of T K E) f3) σ H Q := by
  obtain ⟨μ, σ3, G, S, sd, h⟩ := h
  refine ⟨μ, σ3, G, S, sd, stepV h fun x G1 v H1 μ1 u1 S1 d1 h1 => ?_⟩
  obtain ⟨i, fs, rfl, q, h2⟩ := isC_of (M3.run_bnd h1)
  obtain ⟨a, ea, rfl⟩ := id d1
  obtain ⟨Ca', dx, ws, hc', e1, r⟩ := S1.obj i a _ ea q
  rw [hc] at hc'
  cases hc'
  refine ⟨a, dx, ws, rfl, e1, FDen.none no r, μ1, σ3, G1, S1, sd.up u1, stepA h2 fun ds G2 vs H2 μ2 u2 S2 d2 h3 => ?_⟩
  rw [List.append_nil]
  have dd : Dens K H2 μ2 (.ref i :: ds) (.ref a :: vs) := ⟨_, _, rfl, Den.up u2 d1, d2⟩
  exact ⟨by rw [← dd.length]; exact len _ _ _ _ h3, μ2, _, G2, S2, dd, runUp h3 fun _ _ z => z.up (u1.trans u2)⟩
theorem x_meth {CX : CXT} {E : XK} {k n : Nat} {C : Nat} {m : Str} {g : List M3.D → M3.M M3.D} {pl : Sem Bool} (F : Mt3 X.prog X.w X.K X.mg X.base CX T k C m n g) (hr : Room k X.A) (hx : Passes CX X E) (ho : PE X o (tE T X.K (EX.of T X.K E) fa)) (ha : PA X (e :: es) (tA T X.K (EX.of T X.K E) f3))
    (hst : starEach (e :: es) X.env = (false, eval e X.env) :: starEach es X.env := by rfl) (hpl : (backTo pos (starEach es X.env)).any (·.1) = false := by rfl)
    (ht : eval (.Call (.Attribute o m apos) (e :: es) [] pos) X.env = (do
      let ov ← eval o X.env
      standAt apos.atName
      let (f, first) ← holding [ov] (getMethod ov m pl)
      callWith pos f first (backTo pos (starEach (e :: es) X.env)) (backToKw pos (keywordEach [] X.env))) := by rfl) :
    PE X (.Call (.Attribute o m apos) (e :: es) [] pos) (tE T X.K (EX.of T X.K E) (M3.eMeth C g fa f3)) := by
  obtain ⟨Ca, fa', fd, ps, hc, cl, hm, G, hb⟩ := F.ex
  exact PE.of (pe_meth (pl := pl) ho cl hm G hr hb .nil hx ha hst hpl ht) fun _ _ _ h => t_meth (CX := CX) (P := X.prog) (w := X.w) (mg := X.mg) (base := X.base) (k := k) hc F.no F.len h
theorem x_meth0 {CX : CXT} {E : XK} {k n : Nat} {C : Nat} {m : Str} {g : List M3.D → M3.M M3.D} {pl : Sem Bool} (F : Mt3 X.prog X.w X.K X.mg X.base CX T k C m n g) (hr : Room k X.A) (hx : Passes CX X E) (ho : PE X o (tE T X.K (EX.of T X.K E) fa))
    (ht : eval (.Call (.Attribute o m apos) [] [] pos) X.env = (do
      let ov ← eval o X.env
      standAt apos.atName
      let (f, first) ← holding [ov] (getMethod ov m pl)
      callWith pos f first (backTo pos (starEach [] X.env)) (backToKw pos (keywordEach [] X.env))) := by rfl) :
    PE X (.Call (.Attribute o m apos) [] [] pos) (tE T X.K (EX.of T X.K E) (M3.eMeth C g fa M3.aNil)) := by
  obtain ⟨Ca, fa', fd, ps, hc, cl, hm, G, hb⟩ := F.ex
  refine PE.of (pe_meth0 (pl := pl) ho cl hm G hr hb .nil hx ht) fun σ H Q h => ?_
  obtain ⟨μ, σ3, G, S, sd, h⟩ := t_meth (f3 := M3.aNil) (CX := CX) (P := X.prog) (w := X.w) (mg := X.mg) (base := X.base) (k := k) hc F.no F.len h
  refine ⟨μ, σ3, G, S, sd, runUp h fun d G1 q v H1 μ1 u1 S1 d1 => ?_⟩
  obtain ⟨a, dx, fs, e1, e2, e3, μ2, σ4, G2, S2, sd2, h2⟩ := q v H1 μ1 u1 S1 d1
  exact ⟨a, dx, fs, e1, e2, e3, h2 [] H1 μ2 (Up.refl _ _) S2 rfl⟩
/-- C(..) -/
structure Ct3 (P : Program) (w : World) (K : PySem.W.Frag) (mg : Str → Option Value) (base : Heap) (CX : CXT) (T : Tab) (k : Nat) (x : Str) (C : Nat) (n : Nat) (f : List M3.D → M3.M M3.D) : Prop where
  ex : ∃ Ca fa fd ps, T.cls C = some Ca ∧ Mk K Ca fa ∧ mg x = some (.ref Ca) ∧ FnOk P w K mg base CX k fa fd ps (sp3 T K n f) ∧ Binds K fd ps []
  len : ∀ ds G (Q : M3.D → M3.Hh → Prop) (Z : Nat → M3.Hh → Prop), M3.run (f ds) G Q Z → ds.length = n
theorem t_make {E : XK} {K : PySem.W.Frag} {n : Nat} {C : Nat} {Ca : Addr} {g : List M3.D → M3.M M3.D} (hc : T.cls C = some Ca) (len : ∀ ds G (Q : M3.D → M3.Hh → Prop) (Z : Nat → M3.Hh → Prop), M3.run (g ds) G Q Z → ds.length = n)
    {H1 : Hp} {μ μ1 : List Addr} {H : Hp} {G1 : M3.Hh} {ds : List M3.D} {vs : List V} {Q : VK} (u1 : Up μ μ1 H H1) (S1 : Sim T K μ1 H1 G1) (d1 : Dens K H1 μ1 ds vs) (h : M3.run (M3.bnd (M3.new (.ins C [])) fun x => M3.bnd (g (x :: ds)) fun r => M3.bnd (M3.isNon r) fun _ => M3.ret x) G1 (PostV T K μ H Q) ((EX.of T K E).x μ1 H1)) :
    ∀ x dx, H1 x = none → H1 dx = none → dx ≠ x → sp3 T K n g (.ref x :: vs) (upd (upd H1 dx (.own x)) x (.ins Ca dx [])) (fun v H2 => v = .non ∧ Q (.ref x) H2) E := by
  intro x dx hx hdx hne
  have hx2 : upd H1 dx (.own x) x = none := by rw [upd_ne (Ne.symm hne)]; exact hx
  have ua : Up μ1 μ1 H1 (upd H1 dx (.own x)) := Up.same (Same.new _ hdx)
  have Sa := S1.same (Same.new (.own x) hdx)
  have ub := Up.new (μ := μ1) (.ins Ca dx []) hx2
  have Sb := Sa.new (o := .ins C []) hx2 rfl ⟨Ca, dx, [], hc, upd_same, .nil⟩
  have uab := ua.trans ub
  have dx' : Den K (upd (upd H1 dx (.own x)) x (.ins Ca dx [])) (μ1 ++ [x]) (.ref G1.length) (.ref x) := ⟨x, by rw [← S1.len]; simp, rfl⟩
  have dd : Dens K (upd (upd H1 dx (.own x)) x (.ins Ca dx [])) (μ1 ++ [x]) (.ref G1.length :: ds) (.ref x :: vs) := ⟨_, _, rfl, dx', Dens.up uab d1⟩
  have h2 : M3.run (M3.bnd (g (.ref G1.length :: ds)) fun r => M3.bnd (M3.isNon r) fun _ => M3.ret (M3.D.ref G1.length)) (G1 ++ [.ins C []]) (PostV T K μ H Q) ((EX.of T K E).x μ1 H1) := h
  refine ⟨by rw [← dd.length]; exact len _ _ _ _ (M3.run_bnd h2), _, _, _, Sb, dd, M3.run_mono (M3.run_bnd h2) (fun r G2 q v H2 μ2 u2 S2 dr => ?_) fun c G2 z => (EX.of T K E).up uab z⟩
  cases r with
  | non => exact ⟨dr, q _ H2 μ2 ((u1.trans uab).trans u2) S2 (Den.up u2 dx')⟩
  | _ => exact False.elim q
theorem x_make {CX : CXT} {E : XK} {x : Str} {k n : Nat} {C : Nat} {g : List M3.D → M3.M M3.D} (F : Ct3 X.prog X.w X.K X.mg X.base CX T k x C n g) (hr : Room (k + 1) X.A) (hx : Passes CX X E) (ha : PA X (e :: es) (tA T X.K (EX.of T X.K E) f3)) (hg : Gl X x := by rfl) (hdb : (x == ("__debug__" : Str)) = false := by decide)
    (he : starEach (e :: es) X.env = (false, eval e X.env) :: starEach es X.env := by rfl) (hpl : (backTo pos (starEach es X.env)).any (·.1) = false := by rfl) : PE X (.Call (.Name x p) (e :: es) [] pos) (tE T X.K (EX.of T X.K E) (M3.eMake C g f3)) := by
  obtain ⟨Ca, fa', fd, ps, hc, M, hm, G, hb⟩ := F.ex
  refine PE.of (pe_make M G hr hg hm hb .nil hx ha hdb he hpl) fun σ H Q ⟨μ, σ3, G, S, sd, h⟩ => ⟨μ, σ3, G, S, sd, stepA h fun ds G1 vs H1 μ1 u1 S1 d1 h1 => ?_⟩
  rw [List.append_nil]
  exact t_make hc F.len u1 S1 d1 h1
theorem x_make0 {CX : CXT} {E : XK} {x : Str} {k n : Nat} {C : Nat} {g : List M3.D → M3.M M3.D} (F : Ct3 X.prog X.w X.K X.mg X.base CX T k x C n g) (hr : Room (k + 1) X.A) (hx : Passes CX X E) (hg : Gl X x := by rfl) (hdb : (x == ("__debug__" : Str)) = false := by decide) :
    PE X (.Call (.Name x p) [] [] pos) (tE T X.K (EX.of T X.K E) (M3.eMake C g M3.aNil)) := by
  obtain ⟨Ca, fa', fd, ps, hc, M, hm, G, hb⟩ := F.ex
  refine PE.of (pe_make0 M G hr hg hm hb .nil hx hdb) fun σ H Q ⟨μ, σ3, G, S, sd, h⟩ => ?_
  exact t_make (ds := []) (vs := []) hc F.len (Up.refl _ _) S rfl h
end
end L3

namespace L3
open PySem PySem.Spec PyProof.Rows L2 PySem.SeqAt
section
variable {X : Cx} {T : Tab} {Y : EX} {a b e o i : Expr} {es : List Expr} {fa fb fc : M3.E3} {ft : M3.T3} {f3 : M3.A3} {pos pos' p p2 apos : Pos}
/-! dicts by ints and texts -/
abbrev KDen {κ : Type} (K : PySem.W.Frag) (H : Hp) (μ : List Addr) : List (κ × M3.D) → List (κ × V) → Prop := Paired (fun (p : κ × M3.D) (q : κ × V) => p.1 = q.1 ∧ Den K H μ p.2 q.2)
theorem KDen.any {κ : Type} [DecidableEq κ] {K : PySem.W.Frag} {H : Hp} {μ : List Addr} (k : κ) : ∀ {kvs : List (κ × M3.D)} {ws : List (κ × V)}, KDen K H μ kvs ws → (kvs.any fun kv => decide (kv.1 = k)) = ws.any fun kv => decide (kv.1 = k)
  | _, _, .nil => rfl
  | (k1, d) :: kvs, (k2, v) :: ws, .cons ⟨h1, h2⟩ t => by
    cases (show k1 = k2 from h1)
    rw [List.any_cons, List.any_cons, KDen.any k t]
theorem KDen.map {κ : Type} [DecidableEq κ] {K : PySem.W.Frag} {H : Hp} {μ : List Addr} (k : κ) {d : M3.D} {v : V} (dv : Den K H μ d v) : ∀ {kvs : List (κ × M3.D)} {ws : List (κ × V)}, KDen K H μ kvs ws → KDen K H μ (kvs.map fun kv => if kv.1 = k then (kv.1, d) else kv) (ws.map fun kv => if kv.1 = k then (kv.1, v) else kv)
  | _, _, .nil => .nil
  | (k1, x) :: kvs, (k2, w) :: ws, .cons ⟨h1, h2⟩ t => by
    cases (show k1 = k2 from h1)
    rw [List.map_cons, List.map_cons]
    by_cases h : k1 = k
    · rw [if_pos h, if_pos h]; exact .cons ⟨rfl, dv⟩ (KDen.map k dv t)
    · rw [if_neg h, if_neg h]; exact .cons ⟨rfl, h2⟩ (KDen.map k dv t)
theorem KDen.snoc {κ : Type} {K : PySem.W.Frag} {H : Hp} {μ : List Addr} (k : κ) {d : M3.D} {v : V} (dv : Den K H μ d v) : ∀ {kvs : List (κ × M3.D)} {ws : List (κ × V)}, KDen K H μ kvs ws → KDen K H μ (kvs ++ [(k, d)]) (ws ++ [(k, v)])
  | _, _, .nil => .cons ⟨rfl, dv⟩ .nil
  | _, _, .cons h t => .cons h (KDen.snoc k dv t)
theorem KDen.put {κ : Type} [DecidableEq κ] {K : PySem.W.Frag} {H : Hp} {μ : List Addr} (k : κ) {d : M3.D} {v : V} (dv : Den K H μ d v) {kvs : List (κ × M3.D)} {ws : List (κ × V)} (r : KDen K H μ kvs ws) : KDen K H μ (M3.put kvs k d) (putK ws k v) := by
  unfold M3.put putK
  rw [KDen.any k r]
  by_cases h : (ws.any fun kv => decide (kv.1 = k)) = true
  · rw [if_pos h, if_pos h]; exact KDen.map k dv r
  · rw [if_neg h, if_neg h]; exact KDen.snoc k dv r
theorem x_dict0 : PE X (.Dict [] [] pos) (tE T X.K Y M3.eDict0) := by
  refine PE.of pe_dnewK fun σ H Q ⟨μ, σ3, G, S, sd, h⟩ q hq => ?_
  have u2 := Up.new (μ := μ) (.dK []) hq
  refine h _ _ (μ ++ [q]) u2 (S.new hq rfl ⟨[], upd_same, .nil⟩) ⟨q, ?_, rfl⟩
  rw [← S.len]; simp
/-! o[i] = e -/
theorem set_dict (hu : X.A.units + 64 < cLine) : PSet X (fun o i v H Q => ∃ a H', o = .ref a ∧ DPut H a i v H' ∧ Q H') := by
  intro pins s σ H o i v ov iv u Q I ro ri rv h
  obtain ⟨a, H', rfl, g, q⟩ := h
  cases (show ov = Value.ref a from ro)
  exact d_setItem (by omega) I g ri rv fun s' I' => ⟨H', I', q⟩
theorem PSet.or {t t' : TSet} (h : PSet X t) (h' : PSet X t') : PSet X (fun o i v H Q => t o i v H Q ∨ t' o i v H Q) := by
  intro pins s σ H o i v ov iv u Q I ro ri rv q
  rcases q with q | q
  · exact h pins s σ H o i v ov iv u Q I ro ri rv q
  · exact h' pins s σ H o i v ov iv u Q I ro ri rv q
theorem Dens.set {K : PySem.W.Frag} {H : Hp} {μ : List Addr} {d : M3.D} {v : V} (dv : Den K H μ d v) : ∀ {ds : List M3.D} {vs : List V} (j : Nat), Dens K H μ ds vs → Dens K H μ (ds.set j d) (vs.set j v)
  | [], _, _, h => by cases (show _ = [] from h); rfl
  | _ :: _, _, 0, ⟨w, r, e, h, t⟩ => by subst e; exact ⟨v, r, rfl, dv, t⟩
  | _ :: _, _, j + 1, ⟨w, r, e, h, t⟩ => by subst e; exact ⟨w, r.set j v, rfl, h, Dens.set dv j t⟩
theorem y_sub (hu : X.A.units + 64 < cLine) (ho : PE X o (tE T X.K Y fa)) (hi : PE X i (tE T X.K Y fb)) (he : PE X e (tE T X.K Y fc))
    (ha : ∀ v, assign (.Subscript o i pos') X.env v = (do
      let ov ← holding [v] (eval o X.env)
      let iv ← holding [v, ov] (eval i X.env)
      standAt pos'
      holding [v, ov, iv] (setItem ov iv v)
      release [v, ov, iv] []) := by intro _; rfl)
    (hs : swapsWithSole [.Subscript o i pos'] e pos.line X.env = pure false := by rfl) (hw : swappedStores [.Subscript o i pos'] e X.env = pure none := by rfl)
    (h1 : (assignEach [.Subscript o i pos'] X.env).map (·.2) = [assign (.Subscript o i pos') X.env] := by rfl) : PS X (.Assign [.Subscript o i pos'] e pos) (tS T X.K Y (M3.sSubS fa fb fc)) := by
  refine PS.of (ps_asg he (pg_sub ho hi (PSet.or set_list (set_dict hu)) ha) hs hw h1) fun D σ H ⟨μ, σ3, G, S, sd, h⟩ => ⟨μ, σ3, G, S, sd, stepV h fun w G1 wv H1 μ1 u1 S1 d1 h1 => ?_⟩
  refine ⟨μ1, σ3, G1, S1, sd.up u1, stepV h1 fun x G2 xv H2 μ2 u2 S2 d2 h2 => ⟨μ2, σ3, G2, S2, sd.up (u1.trans u2), stepV h2 fun y G3 yv H3 μ3 u3 S3 d3 h3 => ?_⟩⟩
  have h3 := M3.run_bnd h3
  have dw := Den.up (u2.trans u3) d1
  unfold M3.run M3.setI at h3
  cases x with
  | ref n =>
    dsimp only at h3
    obtain ⟨c, ec, rfl⟩ := Den.up u3 d2
    cases q : G3[n]? with
    | none => rw [q] at h3; exact False.elim h3
    | some ob =>
      have od := S3.obj n c ob ec q
      rw [q] at h3
      cases ob with
      | lst xs =>
        obtain ⟨vs, e1, r⟩ := od
        cases y with
        | int k =>
          dsimp only at h3
          cases qk : M3.ixN xs.length k with
          | none => rw [qk] at h3; exact False.elim h3
          | some j =>
            rw [qk] at h3
            have up := Up.set S3 (.lst (vs.set j wv)) ec q rfl
            refine .inl ⟨c, vs, k, j, rfl, d3, e1, by rw [← r.length]; exact qk, ?_⟩
            exact h3 _ _ μ3 (((u1.trans u2).trans u3).trans up) (S3.set ec q rfl rfl ⟨_, upd_same, Dens.up up (Dens.set dw j r)⟩) (sd.up (((u1.trans u2).trans u3).trans up))
        | _ => exact False.elim h3
      | dK kvs =>
        obtain ⟨ws, e1, r⟩ := od
        dsimp only at h3
        cases qk : M3.keyK y with
        | none => rw [qk] at h3; exact False.elim h3
        | some k =>
          rw [qk] at h3
          dsimp only at h3
          by_cases cl : kvs.length < M3.sizeL
          · rw [if_pos cl] at h3
            cases keyK_of qk d3
            have up := Up.set S3 (.dK (putK ws k wv)) ec q rfl
            refine .inr ⟨c, _, rfl, DPut.k e1 (by rw [← Paired.length r, ← sizeL_eq]; exact cl), ?_⟩
            have r2 : KDen X.K (upd H3 c (.dK (putK ws k wv))) μ3 kvs ws := Paired.imp' (fun _ _ z => ⟨z.1, Den.up up z.2⟩) r
            exact h3 _ _ μ3 (((u1.trans u2).trans u3).trans up) (S3.set ec q rfl rfl ⟨_, upd_same, KDen.put k (Den.up up dw) r2⟩) (sd.up (((u1.trans u2).trans u3).trans up))
          · rw [if_neg cl] at h3; exact False.elim h3
      | _ => exact False.elim h3
  | _ => exact False.elim h3
/-! slices -/
def PostP (T : Tab) (K : PySem.W.Frag) (μ : List Addr) (H : Hp) (Q : Option Int → Hp → Prop) (d : Option Int) (G' : M3.Hh) : Prop := ∀ H' μ', Up μ μ' H H' → Sim T K μ' H' G' → Q d H'
def tP (T : Tab) (K : PySem.W.Frag) (Y : EX) (f : M3.P3) : TO := fun σ H Q => ∃ μ σ3 G, Sim T K μ H G ∧ StD K H μ σ3 σ ∧ M3.run (f σ3) G (PostP T K μ H Q) (Y.x μ H)
theorem PO.of {e : Option Expr} {t u : TO} (h : PO X e t) (f : ∀ σ H Q, u σ H Q → t σ H Q) : PO X e u := fun pins s σ H Q I q => h pins s σ H Q I (f σ H Q q)
theorem p_none : PO X none (tP T X.K Y M3.pNone) := PO.of po_none fun σ H Q ⟨μ, σ3, G, S, sd, h⟩ => h H μ (Up.refl _ _) S
theorem p_some (h : PE X e (tE T X.K Y fa)) : PO X (some e) (tP T X.K Y (M3.pSome fa)) := by
  refine PO.of (po_some h) fun σ H Q ⟨μ, σ3, G, S, sd, h⟩ => ⟨μ, σ3, G, S, sd, stepV h fun d G1 v H1 μ1 u1 S1 d1 h1 => ?_⟩
  cases d with
  | int k => exact ⟨k, d1, h1 H1 μ1 u1 S1⟩
  | _ => exact False.elim h1
theorem Dens.cut {K : PySem.W.Frag} {H : Hp} {μ : List Addr} {ds : List M3.D} {vs : List V} (r : Dens K H μ ds vs) (lo hi : Option Int) : Dens K H μ (M3.cutD ds lo hi) (cutV vs lo hi) := by
  have dr : ∀ (n : Nat) {ds : List M3.D} {vs : List V}, Dens K H μ ds vs → Dens K H μ (ds.drop n) (vs.drop n) := by
    intro n
    induction n with
    | zero => intro ds vs r; simpa using r
    | succ n ih =>
      intro ds vs r
      cases ds with
      | nil => cases (show vs = [] from r); rfl
      | cons d ds => obtain ⟨w, t, rfl, _, r⟩ := r; simpa using ih r
  have tk : ∀ (n : Nat) {ds : List M3.D} {vs : List V}, Dens K H μ ds vs → Dens K H μ (ds.take n) (vs.take n) := by
    intro n
    induction n with
    | zero => intro ds vs r; simp; rfl
    | succ n ih =>
      intro ds vs r
      cases ds with
      | nil => cases (show vs = [] from r); rfl
      | cons d ds => obtain ⟨w, t, rfl, h, r⟩ := r; exact ⟨w, t.take n, rfl, h, ih r⟩
  have es : ∀ (n d : Nat) (o : Option Int), M3.sIx n d o = HT.sIx n d o := by
    intro n d o
    cases o <;> rfl
  unfold M3.cutD cutV
  rw [es, es, r.length]
  exact tk _ (dr _ r)
theorem x_slice {lo hi : Option Expr} {fl fh : M3.P3} (he : PE X e (tE T X.K Y fa)) (hl : PO X lo (tP T X.K Y fl)) (hh : PO X hi (tP T X.K Y fh)) : PE X (.Subscript e (.Slice lo hi none p2) pos) (tE T X.K Y (M3.eSl fa fl fh)) := by
  refine PE.of (pe_slice (L2.SlR.or sl_tup sl_list) he hl hh) fun σ H Q ⟨μ, σ3, G, S, sd, h⟩ => ⟨μ, σ3, G, S, sd, stepV h fun x G1 v H1 μ1 u1 S1 d1 h1 => ?_⟩
  refine ⟨μ1, σ3, G1, S1, sd.up u1, M3.run_mono (M3.run_bnd h1) (fun l G2 h2 H2 μ2 u2 S2 => ⟨μ2, σ3, G2, S2, sd.up (u1.trans u2), M3.run_mono (M3.run_bnd h2) (fun k G3 h3 H3 μ3 u3 S3 => ?_) fun _ _ z => Y.up u2 z⟩) fun _ _ z => z⟩
  have d3 := Den.up (u2.trans u3) d1
  have u := (u1.trans u2).trans u3
  unfold M3.run M3.oSl at h3
  cases x with
  | tup xs =>
    dsimp only at h3
    obtain ⟨c, vs, rfl, sq, r⟩ := d3
    by_cases cw : M3.sIx xs.length 0 l = 0 ∧ M3.sIx xs.length xs.length k = xs.length
    · rw [if_pos cw] at h3; exact False.elim h3
    · rw [if_neg cw] at h3
      refine .inl ⟨c, vs, rfl, sq, fun z => cw ?_, fun q hq => ?_⟩
      · have es : ∀ (n d : Nat) (o : Option Int), M3.sIx n d o = HT.sIx n d o := by
          intro n d o
          cases o <;> rfl
        rw [es, es, r.length]; exact z
      · have u4 : Up μ3 μ3 H3 (upd H3 q (.tup (cutV vs l k))) := Up.same (Same.new _ hq)
        exact h3 _ _ μ3 (u.trans u4) (S3.same (Same.new _ hq)) ⟨q, _, rfl, SqT.of upd_same, Dens.up u4 (r.cut l k)⟩
  | ref n =>
    dsimp only at h3
    obtain ⟨c, ec, rfl⟩ := d3
    have fin : ∀ {xs : List M3.D} {vs : List V}, SqL X.K H3 c vs → Dens X.K H3 μ3 xs vs → PostV T X.K μ H Q (.ref G3.length) (G3 ++ [.lst (M3.cutD xs l k)]) → rSlL X.K (.ref c) l k H3 Q := by
      intro xs vs sq r hq
      refine ⟨c, vs, rfl, sq, fun q hn => ?_⟩
      have u4 := Up.new (μ := μ3) (.lst (cutV vs l k)) hn
      refine hq _ _ (μ3 ++ [q]) (u.trans u4) (S3.new hn rfl ⟨_, upd_same, Dens.up u4 (r.cut l k)⟩) ⟨q, ?_, rfl⟩
      rw [← S3.len]; simp
    cases qn : G3[n]? with
    | none => rw [qn] at h3; exact False.elim h3
    | some ob =>
      have od := S3.obj n c ob ec qn
      rw [qn] at h3
      cases ob with
      | lst xs => obtain ⟨vs, e1, r⟩ := od; exact .inr (fin (SqL.of e1) r h3)
      | frz xs => obtain ⟨vs, e1, r⟩ := od; exact .inr (fin e1.sq r h3)
      | _ => exact False.elim h3
  | _ => exact False.elim h3
/-! while -/
theorem y_break : PS X (.Break pos) (tS T X.K Y M3.sBrk) := PS.of ps_break fun D σ H ⟨μ, σ3, G, S, sd, h⟩ => h σ H μ (Up.refl _ _) S sd
theorem y_continue : PS X (.Continue pos) (tS T X.K Y M3.sCont) := PS.of ps_continue fun D σ H ⟨μ, σ3, G, S, sd, h⟩ => h σ H μ (Up.refl _ _) S sd
theorem y_while {c : Expr} {body : List Stmt} {f : M3.S3} (hp : PassesOwn (model X.prog X.w) X.A X.env X.xe) (hc : PT X c (tT T X.K Y ft)) (hb : PSs X body (tS T X.K Y f)) : PS X (.While c body [] pos) (tS T X.K Y (M3.sWhile ft f)) := by
  refine PS.of (ps_while hp hc hb) fun D σ H ⟨μ, σ3, G, S, sd, h⟩ => ?_
  have h : M3.run (M3.whileL ft f M3.turns0 σ3) G (PostS T X.K μ H D) (Y.x μ H) := h
  generalize M3.turns0 = n at h
  refine ⟨fun m σ' H' => ∃ μ' σ3' G', Up μ μ' H H' ∧ Sim T X.K μ' H' G' ∧ StD X.K H' μ' σ3' σ' ∧ M3.run (M3.whileL ft f m σ3') G' (PostS T X.K μ H D) (Y.x μ' H'), ⟨n, μ, σ3, G, Up.refl _ _, S, sd, h⟩, ?_⟩
  rintro m σ' H' ⟨μ', σ3', G', u', S', sd', q⟩
  cases m with
  | zero => exact False.elim q
  | succ m =>
    refine ⟨μ', σ3', G', S', sd', stepB q fun b G1 H1 μ1 u1 S1 h1 => ?_⟩
    cases b with
    | false => exact h1 σ' H1 μ1 (u'.trans u1) S1 (sd'.up u1)
    | true =>
      refine ⟨fun σ2 H2 => ∃ μ2 σ4 G2, Up μ μ2 H H2 ∧ Sim T X.K μ2 H2 G2 ∧ StD X.K H2 μ2 σ4 σ2 ∧ M3.run (M3.whileL ft f m σ4) G2 (PostS T X.K μ H D) (Y.x μ2 H2), fun σ2 H2 hN => ⟨m, Nat.lt_succ_self _, hN⟩, ?_⟩
      refine ⟨μ1, σ3', G1, S1, sd'.up u1, runUp (M3.run_bnd h1) fun p G7 q7 σ7 H7 μ7 u7 S7 sd7 => ?_⟩
      obtain ⟨fl, σ8⟩ := p
      have up := (u'.trans u1).trans u7
      cases fl with
      | next => exact ⟨μ7, σ8, G7, up, S7, sd7, Y.upE u7 q7⟩
      | cont => exact ⟨μ7, σ8, G7, up, S7, sd7, Y.upE u7 q7⟩
      | brk => exact q7 σ7 H7 μ7 up S7 sd7
      | ret d => exact q7 σ7 H7 μ7 up S7 sd7
end
end L3

namespace HT
open PySem PyProof.Rows
theorem nolen_lri : typeLookup (.type "list_reverseiterator") "__len__" = pure none := by rw [typeLookup_type, builtinLookup_eq_fast]; kernel_rfl
theorem hint_lri : typeLookup (.type "list_reverseiterator") "__length_hint__" = pure (some (.builtin "list_reverseiterator.__length_hint__")) := by rw [typeLookup_type, builtinLookup_eq_fast]; kernel_rfl
section
variable {prog : Program} {w : World} {A : Around} {E : Value → Shared → Prop} {s : Shared}
/-- list(an iterator that goes back) -/
theorem call_list_rev {Q : Value → Shared → Prop} {I l : Addr} {items : Array Value} (hh : A.handled = none) (hit : s.heap.IsRevIter I l ((items.size : Int) - 1)) (hl : s.heap.IsList l items) (hne : l ≠ I) (hn : items.size ≤ sizeLine)
    (hQ : ∀ s' acc c', Moved (s.heap.objs.size :: [I]) (fun a b => b = a) { s with heap := s.heap.push { cls := .type "list", data := .seq #[] } } s' →
      s'.heap.get? s.heap.objs.size = some { cls := .type "list", dict := none, data := .seq acc c', slots := #[] } → ItemsOf (fun i v => items[items.size - 1 - i]? = some v) acc items.size → Q (.ref s.heap.objs.size) s') :
    wpAny (model prog w) A (call (.type "list") [.ref I]) Q E s := by
  have W := (Walks.listRev (prog := prog) (w := w) (A := A.in1.in1) hh I l hne items).toS
  obtain ⟨oi, hoi, _⟩ := id hit
  obtain ⟨ol, hol, _⟩ := id hl
  have hSI : s.heap.objs.size ≠ I := Nat.ne_of_gt (Heap.lt_size hoi)
  have hSl : s.heap.objs.size ≠ l := Nat.ne_of_gt (Heap.lt_size hol)
  have hSf : s.heap.objs.size ∉ [I, l] := by simp only [List.mem_cons, List.not_mem_nil, or_false, not_or]; exact ⟨hSI, hSl⟩
  refine callType_codes (Q₁ := fun obj s₁ => obj = .ref s.heap.objs.size ∧ s₁ = { s with heap := s.heap.push { cls := .type "list", data := .seq #[] } }) PySem.F.called_list (PySem.F.typeCall_list_1 _) PySem.F.entry_list_init
    (code_list_new _ ⟨rfl, rfl⟩) fun obj s₁ h₁ => ?_
  obtain ⟨rfl, rfl⟩ := h₁
  have hS : (s.heap.push { cls := .type "list", data := .seq #[] }).get? s.heap.objs.size = some { cls := .type "list", data := .seq #[] } := Heap.get?_push_size _ rfl
  refine ⟨⟨_, hS, rfl⟩, PySem.F.args_list_init_2 _ _, ?_⟩
  show wpAny _ A.in1.in1 (do let old ← Builtin.List.listItems (.ref s.heap.objs.size); Builtin.List.listUpdate (.ref s.heap.objs.size) (fun _ => #[]); letGo old.toList.reverse; Builtin.List.listExtendWith (.ref s.heap.objs.size) (.ref I) .none) _ _ _
  refine wpAny_bind ?_
  unfold Builtin.List.listItems
  refine wpAny_bind (wpAny_seqItems hS rfl (wpAny_pure ?_))
  show wpAny _ A.in1.in1 (updateSeq s.heap.objs.size (fun _ => #[]) >>= fun _ => letGo (#[] : Array Value).toList.reverse >>= fun _ => Builtin.List.listExtendWith (.ref s.heap.objs.size) (.ref I) .none) _ _ _
  refine wpAny_bind (wpAny_updateSeq hS rfl ?_)
  have hS₂ := Heap.get?_update_self (Obj.mapSeq (fun _ => (#[] : Array Value))) hS rfl
  refine wpAny_bind (wpAny_letGo ?_)
  have oth : ∀ b o, b ≠ s.heap.objs.size → (s.heap.push { cls := .type "list", data := .seq #[] }).get? b = some o → ((s.heap.push { cls := .type "list", data := .seq #[] }).update s.heap.objs.size (Obj.mapSeq (fun _ => (#[] : Array Value)))).get? b = some o :=
    fun b o hb e => (Heap.get?_update_other _ _ (Ne.symm hb)).trans e
  have hT : Shared.TypeIs { s with heap := (s.heap.push { cls := .type "list", data := .seq #[] }).update s.heap.objs.size (Obj.mapSeq (fun _ => (#[] : Array Value))) } (.ref I) "list_reverseiterator" :=
    Heap.IsRevIter.typeIs (s := { s with heap := (s.heap.push { cls := .type "list", data := .seq #[] }).update s.heap.objs.size (Obj.mapSeq (fun _ => (#[] : Array Value))) }) (hit.at fun o e => oth _ _ (Ne.symm hSI) (Heap.get?_push_of_some _ e))
  have hst : (0 : Nat) ≤ items.size ∧ ((s.heap.push { cls := .type "list", data := .seq #[] }).update s.heap.objs.size (Obj.mapSeq (fun _ => (#[] : Array Value)))).IsRevIter I l ((items.size : Int) - 1 - ((0 : Nat) : Int)) ∧ ((s.heap.push { cls := .type "list", data := .seq #[] }).update s.heap.objs.size (Obj.mapSeq (fun _ => (#[] : Array Value)))).IsList l items := by
    refine ⟨Nat.zero_le _, ?_, hl.at fun o e => oth _ _ (Ne.symm hSl) (Heap.get?_push_of_some _ e)⟩
    rw [show (items.size : Int) - 1 - ((0 : Nat) : Int) = (items.size : Int) - 1 by omega]
    exact hit.at fun o e => oth _ _ (Ne.symm hSI) (Heap.get?_push_of_some _ e)
  have h1 : Builtin.List.listSameRef (.ref s.heap.objs.size) (.ref I) = false := by simp [Builtin.List.listSameRef, hSI]
  unfold Builtin.List.listExtendWith
  refine wpAny_bind (wpAny_typeOf hT ?_)
  rw [if_neg (by rw [h1]; decide)]
  refine wpAny_bind (W.self 0 _ _ _ hst ?_)
  refine wpAny_bind (wpAny_holding ?_)
  unfold Builtin.List.listLengthHint
  refine wpAny_bind (wpAny_specialOf hT nolen_lri ?_)
  show wpAny _ A.in1.in1 (specialOf (Value.ref I) (Str.ofString "__length_hint__") >>= _) _ _ _
  refine wpAny_bind (wpAny_specialOf hT hint_lri ?_)
  (generalize hid : ("list_reverseiterator.__length_hint__" : String) = id0; (fail_if_success (clear hid id0)); wp_delta; rw [show splitId id0 = some ("list_reverseiterator", "__length_hint__") from by subst hid; decide +kernel]; subst hid)
  refine wpAny_bind (wpAny_isInstance (b := true) hT (by rw [isSubtype_type]; kernel_rfl) ?_)
  refine wpAny_pure ?_
  rw [if_neg (by decide)]
  refine wpAny_pure ⟨plainId_quiet PySem.F.plain_extend_loop _, codeAny_extend_loopS W hn _ hSf _ items.size 0 _ _ _ rfl (Nat.zero_le _) hst hS₂ (ItemsOf.nil _) fun s' acc' c' hm hS' hacc => ⟨rfl, ?_⟩⟩
  have mv : Moved (s.heap.objs.size :: [I]) (fun a b => b = a) { s with heap := s.heap.push { cls := .type "list", data := .seq #[] } } { s with heap := (s.heap.push { cls := .type "list", data := .seq #[] }).update s.heap.objs.size (Obj.mapSeq (fun _ => (#[] : Array Value))) } :=
    ⟨fun b o hb e => oth b o (fun h => hb (by rw [h]; exact List.mem_cons_self)) e, rfl, rfl, rfl, Nat.le_refl _⟩
  exact hQ s' acc' c' (Moved.trans W.gtrans mv hm) hS' hacc
end
end HT
namespace L2
open PySem PySem.Spec PyProof.Rows
section
variable {X : Cx} {pins : List (Addr × Obj)} {σ : List (Option V)} {H : Hp} {s : Shared} {h' : Heap}
/-- untracked records of ours have turned -/
theorem Inv.turnedL {t' : Nat} {fp : List Addr} (I : Inv X pins σ H s) (k : ∀ b o, b ∉ fp → s.heap.get? b = some o → h'.get? b = some o) (hf : ∀ b ∈ fp, FpOk X pins H b) : Inv X pins σ H { s with heap := h', toks := t' } := by
  have nit : ∀ b u, H b = some u → b ∉ fp := fun b u e z => by rw [(hf b z).1] at e; cases e
  refine I.step (g' := s.gens) (d' := s.drawn) (ch := fp) (fun b hb => ⟨(hf b hb).2.2.2.1, (hf b hb).2.1, (hf b hb).2.2.2.2.1, (hf b hb).2.2.2.2.2⟩) (fun b o _ _ hc e _ => k b o hc e) (fun b o _ _ hc e _ => ⟨o.slots, k b o hc e⟩) (fun _ _ _ _ n => n)
    (fun b o hc e => ⟨o, k b o hc e⟩) (fun _ _ e => e) (fun _ _ _ e => e) (fun b ps e => ⟨#[], by rw [e]; simp⟩) (fun m hm => ?_) (fun b u e => ?_) I.bare
  · obtain ⟨o, es, ep, ho, r⟩ := hm
    exact ⟨o, es, ep, k _ o (fun z => (hf _ z).2.1 rfl) ho, r⟩
  · refine (I.hok b u e).stay (fun c v hc q => k c v ?_ q) (fun _ q => q) fun _ _ q => q
    rcases hc with z | z
    · rw [z]; exact nit b u e
    · exact nit c _ z
end
/-- enumerate over the list at a -/
def Ite (K : PySem.W.Frag) (a : Addr) : It :=
  ⟨fun i H => ∃ xs x, SqL K H a xs ∧ xs[i]? = some x, fun i H x H' => ∃ y p, H p = none ∧ x = .ref p ∧ H' = upd H p (.tup [.int (i : Int), y]) ∧ ∀ xs, SqL K H a xs → xs[i]? = some y, fun i H => ∃ xs, SqL K H a xs ∧ xs.length ≤ i⟩
theorem turn_enum {P : Program} {w : World} {K : PySem.W.Frag} {elts : List Expr} {k : Nat} {pos : Pos} (a e it : Addr) (hne : e ≠ it) : Turn P w K (.Tuple elts k pos) (Ite K a) [e, it] e (fun i h => (∃ old, IsEnum h e it ((i : Nat) : Int) old) ∧ h.IsListIter it a i) where
  mem := by simp
  obj := fun i h st b hb => by
    obtain ⟨⟨old, he⟩, o, eo, c, d⟩ := st
    rcases List.mem_cons.mp hb with rfl | hb
    · exact ⟨_, he, fun v z => by
        have z' : Data.fields _ = Data.cell v := z
        cases z'⟩
    · have e : b = it := by simpa using hb
      subst e
      exact ⟨o, eo, fun v z => by rw [d] at z; cases z⟩
  keep := fun i h h' st k => ⟨let ⟨old, he⟩ := st.1; ⟨old, k e (by simp) _ he⟩, st.2.at fun o eo => k it (by simp) o eo⟩
  item := by
    intro X hP hw hK hc i pins s σ H E I hf st hg
    subst hP hw hK
    obtain ⟨⟨old, he⟩, hit⟩ := st
    obtain ⟨xs, x, hq, hx⟩ := hg
    obtain ⟨its, rv, p, hz⟩ := I.list hq
    obtain ⟨u, hu, ru⟩ := rv.get hx
    refine wpAny_pyNext_enum_item he hit p.isList (x := u) (by simpa using hu) hne fun h₁ heo hit₁ ht₁ hz₁ hk₁ => ?_
    have hlt : ∀ b ∈ [e, it], b < s.heap.objs.size := fun b hb => by
      rcases List.mem_cons.mp hb with rfl | hb
      · exact Heap.lt_size he
      · have eb : b = it := by simpa using hb
        subst eb
        obtain ⟨o, eo, _⟩ := id hit
        exact Heap.lt_size eo
    have I1 : Inv X pins σ (upd H s.heap.objs.size (.tup [.int (i : Int), x])) { s with heap := s.heap.push { cls := .type "tuple", data := .seq #[.int (i : Int) s.toks, u] }, toks := s.toks + 1 } :=
      I.laid (fun b o eb => Heap.get?_push_of_some _ eb) (Nat.le_refl _) ⟨by rw [sizeLine_eq]; exact Nat.le_of_ble_eq_true rfl, [.int (i : Int) s.toks, u], .cons ⟨_, rfl⟩ (.cons ru .nil), ⟨_, Heap.get?_push_size _ rfl, rfl, _, rfl⟩⟩
    have hf1 : ∀ b ∈ [e, it], FpOk X pins (upd H s.heap.objs.size (.tup [.int (i : Int), x])) b := fun b hb => ⟨by rw [upd_ne (Nat.ne_of_lt (hlt b hb))]; exact (hf b hb).1, (hf b hb).2⟩
    have I2 : Inv X pins σ (upd H s.heap.objs.size (.tup [.int (i : Int), x])) { s with heap := h₁, toks := s.toks + 1 } := by
      refine Inv.turnedL (s := { s with heap := s.heap.push { cls := .type "tuple", data := .seq #[.int (i : Int) s.toks, u] }, toks := s.toks + 1 }) (h' := h₁) (t' := s.toks + 1) (fp := [e, it]) I1 (fun b o hb eb => ?_) hf1
      rcases Heap.get?_push_cases eb with ⟨z1, z2⟩ | z
      · rw [z1, z2]; exact ht₁
      · exact hk₁ b o (fun z => hb (by simp [z])) (fun z => hb (by simp [z])) z
    refine ⟨_, rfl, wpAny_letOwnedTupleGo_enum heo fun h₂ he₂ hs₂ => ?_⟩
    obtain ⟨f0, f1, f2, f3, f4, f5⟩ := hf1 e (by simp)
    have hs₂ : Heap.SameBut e h₁ h₂ := hs₂
    have I3 : Inv X pins σ (upd H s.heap.objs.size (.tup [.int (i : Int), x])) { s with heap := h₂, toks := s.toks + 1 } := I2.turned (t' := s.toks + 1) (fun b o hb eb => (hs₂.2 b hb).trans eb) f0 f1 f3 f4 f5
    refine ⟨.ref s.heap.objs.size, _, I3, rfl, ⟨x, s.heap.objs.size, I.hok.fresh (Nat.le_refl _), rfl, rfl, fun ys hy => by rw [I.list_inj hy hq]; exact hx⟩, ⟨⟨u, ?_⟩, hit₁.at fun o eo => (hs₂.2 it (Ne.symm hne)).trans eo⟩, fun b hb => (hf1 b hb).1⟩
    have : ((i + 1 : Nat) : Int) = (i : Int) + 1 := by push_cast; rfl
    rw [this]
    exact he₂
  done := by
    intro X hP hw hK hc i pins s σ H E I hf st hg
    subst hP hw hK
    obtain ⟨⟨old, he⟩, hit⟩ := st
    obtain ⟨xs, hq, hx⟩ := hg
    obtain ⟨its, rv, p, hz⟩ := I.list hq
    obtain ⟨f0, f1, f2, f3, f4, f5⟩ := hf it (by simp)
    have hl := rv.length
    exact wpAny_pyNext_enum_end (I.ok.hd hc) he hit p.isList (by simp; omega) fun h' eb => ⟨rfl, I.turned (t' := s.toks) (fun b o hb e => eb b o hb e) f0 f1 f3 f4 f5⟩
  self := fun _ _ _ _ _ st h => let ⟨_, he⟩ := st.1; wpAny_pyIter_enum he h
def iEnum1 (K : PySem.W.Frag) (ta : TA) : TI := fun σ H R => ta σ H fun vs H1 => ∃ a, vs = [.ref a] ∧ (∃ xs, SqL K H1 a xs) ∧ R (Ite K a) H1
theorem pi_enum {X : Cx} {l : Expr} {elts : List Expr} {k : Nat} {ptg : Pos} {ta : TA} {p pos : Pos} (hg : Gl X "enumerate") (hm : X.mg "enumerate" = none) (ha : PA X [l] ta) (hs : starEach [l] X.env = [(false, eval l X.env)] := by rfl) : PI X (.Tuple elts k ptg) (.Call (.Name "enumerate" p) [l] [] pos) (iEnum1 X.K ta) := by
  intro pins s σ H R I h
  refine Call_ (ld_blt I hg hm boot_enumerate (PyProof.Rows.callWith_type1 (thn (ha pos pins s σ H _ I h) fun us s1 ⟨vs, H1, I1, r1, q1⟩ => ?_) hs rfl))
  obtain ⟨a, e, ⟨xs, hq⟩, q⟩ := q1
  subst e
  cases r1 with
  | cons r rr =>
    cases rr
    cases r
    obtain ⟨its, rv, pl, hz⟩ := I1.list hq
    refine call_enumerate_list pl.isList fun h' hE hIt hsz hk => ?_
    have I2 : Inv X pins σ H1 { s1 with heap := h' } := I1.kept (t' := s1.toks) hk
    refine wpAny_pyIter_enum hE ?_
    refine ⟨s1.heap.objs.size + 1, [s1.heap.objs.size + 1, s1.heap.objs.size], _, _, H1, rfl, I2, turn_enum a _ _ (Nat.succ_ne_self _), ⟨⟨.none, hE⟩, hIt⟩, fun b hb => ?_, q⟩
    have hb : s1.heap.objs.size ≤ b := by
      rcases List.mem_cons.mp hb with rfl | hb
      · exact Nat.le_succ _
      · have : b = s1.heap.objs.size := by simpa using hb
        exact Nat.le_of_eq this.symm
    exact I1.fpOk hb (I1.hok.fresh hb)
end L2
namespace L3
open PySem PySem.Spec PyProof.Rows L2 PySem.SeqAt
section
variable {X : Cx} {T : Tab} {Y : EX} {a b e o i : Expr} {es : List Expr} {fa fb fc : M3.E3} {ft : M3.T3} {f3 : M3.A3} {pos pos' p p2 apos : Pos}
theorem i_enum {elts : List Expr} {k : Nat} {ptg : Pos} (hm : X.mg "enumerate" = none) (ha : PE X a (tE T X.K Y fa)) (hg : Gl X "enumerate" := by rfl) (hs : starEach [a] X.env = [(false, eval a X.env)] := by rfl) : PI X (.Tuple elts k ptg) (.Call (.Name "enumerate" p) [a] [] pos) (tI T X.K Y (M3.iEnum fa)) := by
  refine PI.of (pi_enum hg hm (pa_cons ha pa_nil hs) hs) fun σ H R ⟨μ, σ3, G, S, sd, h⟩ => ⟨μ, σ3, G, S, sd, stepV h fun d G1 v H1 μ1 u1 S1 d1 h1 => ?_⟩
  have main : ∀ {n : Nat} {xs : List M3.D} {o : M3.O} {ck : M3.Hh → Bool} {q : Addr}, μ1[n]? = some q → (∀ G', ck G' = true → G'[n]? = some o) → (o = .lst xs ∨ o = .frz xs) → SrcD T X.K μ1 H1 ⟨M3.enumD xs, ck⟩ (Ite X.K q) := by
    intro n xs o ck q ea hck ho
    have key : ∀ {μ' H' G'}, Up μ1 μ' H1 H' → Sim T X.K μ' H' G' → ck G' = true → ∃ vs, SqL X.K H' q vs ∧ Dens X.K H' μ' xs vs := by
      intro μ' H' G' u S c
      have ob := S.obj n q o (u.at ea) (hck G' c)
      rcases ho with rfl | rfl
      · obtain ⟨vs, e1, r⟩ := ob; exact ⟨vs, SqL.of e1, r⟩
      · obtain ⟨vs, e1, r⟩ := ob; exact ⟨vs, e1.sq, r⟩
    have eget : ∀ {i : Nat} {d : M3.D}, (M3.enumD xs)[i]? = some d → ∃ y, xs[i]? = some y ∧ d = .tup [.int (i : Int), y] := by
      intro i d h
      unfold M3.enumD at h
      rw [List.getElem?_mapIdx] at h
      cases z : xs[i]? with
      | none => rw [z] at h; cases h
      | some y => rw [z] at h; exact ⟨y, rfl, (Option.some.inj h).symm⟩
    refine ⟨fun i d μ' H' G' u S c e => ?_, fun i d v μ' H' H'' G' u S c e y => ?_, fun μ' H' G' u S c => ?_⟩
    · obtain ⟨vs, sq, r⟩ := key u S c
      obtain ⟨y, ey, _⟩ := eget e
      obtain ⟨v, e1, _⟩ := r.get ey
      exact ⟨vs, v, sq, e1⟩
    · obtain ⟨vs, sq, r⟩ := key u S c
      obtain ⟨z, ez, rfl⟩ := eget e
      obtain ⟨w, e1, dw⟩ := r.get ez
      obtain ⟨yv, t, ht, rfl, rfl, hy⟩ := y
      have hy := hy vs sq
      rw [e1] at hy
      cases hy
      have sm : Same H' (upd H' t (.tup [.int (i : Int), w])) := Same.new _ ht
      exact ⟨sm, t, [.int (i : Int), w], rfl, SqT.of upd_same, ⟨_, _, rfl, rfl, _, _, rfl, Den.up (Up.same (μ := μ') sm) dw, rfl⟩⟩
    · obtain ⟨vs, sq, r⟩ := key u S c
      refine ⟨vs, sq, Nat.le_of_eq ?_⟩
      rw [← r.length]
      simp [M3.enumD]
  unfold M3.run M3.enumOf at h1
  cases d with
  | ref n =>
    dsimp only at h1
    obtain ⟨q, eq, rfl⟩ := d1
    cases z : G1[n]? with
    | none => rw [z] at h1; exact False.elim h1
    | some ob =>
      have od := S1.obj n q ob eq z
      rw [z] at h1
      cases ob with
      | lst xs => obtain ⟨vs, e1, r⟩ := od; exact ⟨q, rfl, ⟨vs, SqL.of e1⟩, h1 _ H1 μ1 u1 S1 (main eq (fun G' c => of_decide_eq_true c) (.inl rfl))⟩
      | frz xs => obtain ⟨vs, e1, r⟩ := od; exact ⟨q, rfl, ⟨vs, e1.sq⟩, h1 _ H1 μ1 u1 S1 (main eq (fun G' c => of_decide_eq_true c) (.inr rfl))⟩
      | _ => exact False.elim h1
  | _ => exact False.elim h1
/-! targets that are places -/
theorem g_sub (hu : X.A.units + 64 < cLine) (ho : PE X o (tE T X.K Y fa)) (hi : PE X i (tE T X.K Y fb))
    (ha : ∀ v, assign (.Subscript o i pos) X.env v = (do
      let ov ← holding [v] (eval o X.env)
      let iv ← holding [v, ov] (eval i X.env)
      standAt pos
      holding [v, ov, iv] (setItem ov iv v)
      release [v, ov, iv] []) := by intro _; rfl) : PG X (.Subscript o i pos) (tG T X.K Y (M3.gSub fa fb)) := by
  refine PG.of (pg_sub ho hi (PSet.or set_list (set_dict hu)) ha) fun wv σ H Q ⟨μ, σ3, G, w, S, sd, dw0, h⟩ => ⟨μ, σ3, G, S, sd, stepV h fun x G2 xv H2 μ2 u2 S2 d2 h2 => ⟨μ2, σ3, G2, S2, sd.up u2, stepV h2 fun y G3 yv H3 μ3 u3 S3 d3 h3 => ?_⟩⟩
  have h3 := M3.run_bnd h3
  have dw := Den.up (u2.trans u3) dw0
  unfold M3.run M3.setI at h3
  cases x with
  | ref n =>
    dsimp only at h3
    obtain ⟨c, ec, rfl⟩ := Den.up u3 d2
    cases q : G3[n]? with
    | none => rw [q] at h3; exact False.elim h3
    | some ob =>
      have od := S3.obj n c ob ec q
      rw [q] at h3
      cases ob with
      | lst xs =>
        obtain ⟨vs, e1, r⟩ := od
        cases y with
        | int k =>
          dsimp only at h3
          cases qk : M3.ixN xs.length k with
          | none => rw [qk] at h3; exact False.elim h3
          | some j =>
            rw [qk] at h3
            have up := Up.set S3 (.lst (vs.set j wv)) ec q rfl
            refine .inl ⟨c, vs, k, j, rfl, d3, e1, by rw [← r.length]; exact qk, ?_⟩
            exact h3 _ _ μ3 ((u2.trans u3).trans up) (S3.set ec q rfl rfl ⟨_, upd_same, Dens.up up (Dens.set dw j r)⟩) (sd.up ((u2.trans u3).trans up))
        | _ => exact False.elim h3
      | dK kvs =>
        obtain ⟨ws, e1, r⟩ := od
        dsimp only at h3
        cases qk : M3.keyK y with
        | none => rw [qk] at h3; exact False.elim h3
        | some k =>
          rw [qk] at h3
          dsimp only at h3
          by_cases cl : kvs.length < M3.sizeL
          · rw [if_pos cl] at h3
            cases keyK_of qk d3
            have up := Up.set S3 (.dK (putK ws k wv)) ec q rfl
            refine .inr ⟨c, _, rfl, DPut.k e1 (by rw [← Paired.length r, ← sizeL_eq]; exact cl), ?_⟩
            have r2 : KDen X.K (upd H3 c (.dK (putK ws k wv))) μ3 kvs ws := Paired.imp' (fun _ _ z => ⟨z.1, Den.up up z.2⟩) r
            exact h3 _ _ μ3 ((u2.trans u3).trans up) (S3.set ec q rfl rfl ⟨_, upd_same, KDen.put k (Den.up up dw) r2⟩) (sd.up ((u2.trans u3).trans up))
          · rw [if_neg cl] at h3; exact False.elim h3
      | _ => exact False.elim h3
  | _ => exact False.elim h3
def tGa (T : Tab) (K : PySem.W.Frag) (Y : EX) (gs : List (M3.D → M3.St → M3.M M3.St)) : TGs := fun vs σ H Q => ∃ μ σ3 G ds, Sim T K μ H G ∧ StD K H μ σ3 σ ∧ Dens K H μ ds vs ∧ M3.run (M3.gAll gs ds σ3) G (PostG T K μ H Q) (Y.x μ H)
theorem ga_nil : PGs X [] (tGa T X.K Y []) := by
  refine PGs.of pgs_nil fun vs σ H Q ⟨μ, σ3, G, ds, S, sd, r, h⟩ => ?_
  cases ds with
  | nil => exact ⟨r, h σ H μ (Up.refl _ _) S sd⟩
  | cons d t => exact False.elim h
theorem ga_cons {g : M3.D → M3.St → M3.M M3.St} {gs : List (M3.D → M3.St → M3.M M3.St)} {tg : Expr} {ts : List Expr} (hg : PG X tg (tG T X.K Y g)) (ht : PGs X ts (tGa T X.K Y gs))
    (hs : (assignEach (tg :: ts) X.env).map (·.2) = assign tg X.env :: (assignEach ts X.env).map (·.2) := by rfl) : PGs X (tg :: ts) (tGa T X.K Y (g :: gs)) := by
  refine PGs.of (pgs_cons hg ht hs) fun vs σ H Q ⟨μ, σ3, G, ds, S, sd, r, h⟩ => ?_
  cases ds with
  | nil => exact False.elim h
  | cons d t =>
    obtain ⟨v, rv, rfl, d1, d2⟩ := r
    refine ⟨v, rv, rfl, μ, σ3, G, d, S, sd, d1, runUp (M3.run_bnd h) fun σ4 G4 q σ' H' μ' u' S' sd' => ?_⟩
    exact ⟨μ', σ4, G4, t, S', sd', Dens.up u' d2, runUp (Y.upE u' q) fun σ5 G5 q5 σ6 H6 μ6 u6 S6 sd6 => q5 σ6 H6 μ6 (u'.trans u6) S6 sd6⟩
theorem g_tup {ts : List Expr} {k : Nat} {gs : List (M3.D → M3.St → M3.M M3.St)} (hc : X.calm = true) (h : PGs X ts (tGa T X.K Y gs)) (hn : (assignEach ts X.env).length = gs.length := by rfl) (hst : (assignEach ts X.env).findIdx? (·.1) = none := by rfl) : PG X (.Tuple ts k pos) (tG T X.K Y (M3.gTup gs)) := by
  refine PG.of (pg_tup hc h hn hst) fun v σ H Q ⟨μ, σ3, G, d, S, sd, r, h⟩ => ?_
  cases d with
  | tup ds =>
    obtain ⟨a, vs, rfl, sq, r⟩ := r
    obtain ⟨hl, h⟩ := runIf (c := ds.length = gs.length) h
    exact ⟨a, vs, rfl, sq, by rw [← r.length]; exact hl, μ, σ3, G, ds, S, sd, r, h⟩
  | _ => exact False.elim h
theorem y_asg {tg : Expr} {g : M3.D → M3.St → M3.M M3.St} (he : PE X e (tE T X.K Y fa)) (hg : PG X tg (tG T X.K Y g)) (hs : swapsWithSole [tg] e pos.line X.env = pure false := by rfl) (hw : swappedStores [tg] e X.env = pure none := by rfl)
    (h1 : (assignEach [tg] X.env).map (·.2) = [assign tg X.env] := by rfl) : PS X (.Assign [tg] e pos) (tS T X.K Y (M3.sAsg g fa)) := by
  refine PS.of (ps_asg he hg hs hw h1) fun D σ H ⟨μ, σ3, G, S, sd, h⟩ => ⟨μ, σ3, G, S, sd, stepV h fun d G1 v H1 μ1 u1 S1 d1 h1 => ?_⟩
  refine ⟨μ1, σ3, G1, d, S1, sd.up u1, d1, runUp (M3.run_bnd h1) fun σ4 G2 q σ' H' μ' u' S' sd' => ?_⟩
  exact q σ' H' μ' (u1.trans u') S' sd'
/-! list(reversed(x)) -/
theorem Dens.rev {K : PySem.W.Frag} {H : Hp} {μ : List Addr} : ∀ {ds : List M3.D} {vs : List V}, Dens K H μ ds vs → Dens K H μ ds.reverse vs.reverse
  | [], _, h => by cases (show _ = [] from h); rfl
  | d :: ds, _, ⟨v, r, e, h, t⟩ => by
    subst e
    rw [List.reverse_cons, List.reverse_cons]
    exact (Dens.rev t).append (Dens.one h)
theorem Vals.rev : ∀ {vs : List V} {us : List Value}, Vals vs us → Vals vs.reverse us.reverse
  | _, _, .nil => .nil
  | _, _, .cons r t => by
    rw [List.reverse_cons, List.reverse_cons]
    exact Vals.append (Vals.rev t) (.cons r .nil)
theorem pe_listRev {to : TE} (hh : X.A.handled = none) (ho : PE X o to) (hm : X.mg "list" = none) (hm2 : X.mg "reversed" = none) (hg : Gl X "list" := by rfl) (hg2 : Gl X "reversed" := by rfl)
    (he : starEach [.Call (.Name "reversed" p2) [o] [] pos'] X.env = (false, eval (.Call (.Name "reversed" p2) [o] [] pos') X.env) :: starEach [] X.env := by rfl) (hpl : (backTo pos (starEach [] X.env)).any (·.1) = false := by rfl)
    (he2 : starEach [o] X.env = (false, eval o X.env) :: starEach [] X.env := by rfl) (hpl2 : (backTo pos' (starEach [] X.env)).any (·.1) = false := by rfl) :
    PE X (.Call (.Name "list" p) [.Call (.Name "reversed" p2) [o] [] pos'] [] pos) (fun σ H Q => to σ H fun x H1 => ∃ a vs, x = .ref a ∧ H1 a = some (.lst vs) ∧ ∀ l, H1 l = none → Q (.ref l) (upd H1 l (.lst vs.reverse))) := by
  intro pins s σ H Q I h
  refine wpAny_Call_Name_kw (ld_blt I hg hm boot_list ?_ (by decide) (by decide))
  refine PyProof.Rows.callWith_type1 (Q := EP X pins σ Q) ?_ he hpl
  rw [he]
  show wpAny _ _ (spliced ((false, eval (.Call (.Name "reversed" p2) [o] [] pos') X.env) :: backTo pos (starEach [] X.env))) _ _ s
  refine Calls.spliced_cons ?_
  refine wpAny_Call_Name_kw (ld_blt I hg2 hm2 boot_reversed ?_ (by decide) (by decide))
  refine PyProof.Rows.callWith_type1 ?_ he2 hpl2
  rw [he2]
  show wpAny _ _ (spliced ((false, eval o X.env) :: backTo pos' (starEach [] X.env))) _ _ s
  refine Calls.spliced_cons (thn (ho pins s σ H _ I h) fun v s1 ⟨x, H1, I1, r1, a, vs, e, ha, q⟩ => ?_)
  subst e
  cases r1
  show wpAny _ _ (spliced []) _ _ _
  refine Calls.spliced_nil ?_
  obtain ⟨its, rv, pl, hz⟩ := I1.list (SqL.of ha)
  refine call_reversed_list pl.isList ?_
  show wpAny _ _ (spliced []) _ _ _
  refine Calls.spliced_nil ?_
  have I2 : L2.Inv X pins σ H1 { s1 with heap := s1.heap.push (revObj a ((its.toArray.size : Int) - 1)) } := I1.kept (t' := s1.toks) fun b u e => Heap.get?_push_of_some _ e
  obtain ⟨ob, nb, hob, _⟩ := id pl
  have hne : a ≠ s1.heap.objs.size := Nat.ne_of_lt (Heap.lt_size hob)
  refine HT.call_list_rev (items := its.toArray) hh ⟨_, Heap.get?_push_size _ rfl, rfl, rfl⟩ (pl.isList.at fun o e => Heap.get?_push_of_some _ e) hne (by have := rv.length; simp; rw [← this]; exact hz) fun s' acc c' hmv hS' items => ?_
  have e' := Moved.eq_with hmv
  have hsz : (s1.heap.push (revObj a ((its.toArray.size : Int) - 1))).objs.size = s1.heap.objs.size + 1 := Heap.size_push ..
  have kk : ∀ b u, s1.heap.get? b = some u → s'.heap.get? b = some u := fun b u e => by
    have hlt := Heap.lt_size e
    refine hmv.heap b u (fun z => ?_) (Heap.get?_push_of_some _ (Heap.get?_push_of_some _ e))
    rcases List.mem_cons.mp z with z | z
    · rw [z] at hlt
      have hlt : (s1.heap.push (revObj a ((its.toArray.size : Int) - 1))).objs.size < s1.heap.objs.size := hlt
      omega
    · have z : b = s1.heap.objs.size := by simpa using z
      rw [z] at hlt
      exact absurd hlt (Nat.lt_irrefl _)
  have ev : acc.toList = its.reverse := by
    apply List.ext_getElem?
    intro j
    have hs : acc.size = its.length := by have := items.1; simpa using this
    by_cases hj : j < its.length
    · have h1 : acc[j]? = some (acc[j]'(by omega)) := Array.getElem?_eq_getElem _
      have h2 := items.2 j _ h1
      rw [Array.getElem?_toList, h1, List.getElem?_reverse hj]
      have h3 : its[its.length - 1 - j]? = some (acc[j]'(by omega)) := by simpa using h2
      rw [h3]
    · rw [List.getElem?_eq_none (by simp; omega), List.getElem?_eq_none (by simp; omega)]
  have hge : s1.heap.objs.size ≤ (s1.heap.push (revObj a ((its.toArray.size : Int) - 1))).objs.size := by omega
  rw [e']
  refine ⟨.ref (s1.heap.push (revObj a ((its.toArray.size : Int) - 1))).objs.size, _, I1.laid (t' := s'.toks) kk hge (show ObjOk X.prog X.w _ s'.heap _ (.lst vs.reverse) from ⟨by rw [List.length_reverse]; exact hz, acc.toList, c', by rw [ev]; exact Vals.rev rv, by rw [Array.toArray_toList]; exact hS'⟩), rfl, q _ (I1.hok.fresh hge)⟩
theorem x_listRev (hh : X.A.handled = none) (hm : X.mg "list" = none) (hm2 : X.mg "reversed" = none) (ho : PE X o (tE T X.K Y fa)) (hg : Gl X "list" := by rfl) (hg2 : Gl X "reversed" := by rfl)
    (he : starEach [.Call (.Name "reversed" p2) [o] [] pos'] X.env = (false, eval (.Call (.Name "reversed" p2) [o] [] pos') X.env) :: starEach [] X.env := by rfl) (hpl : (backTo pos (starEach [] X.env)).any (·.1) = false := by rfl)
    (he2 : starEach [o] X.env = (false, eval o X.env) :: starEach [] X.env := by rfl) (hpl2 : (backTo pos' (starEach [] X.env)).any (·.1) = false := by rfl) :
    PE X (.Call (.Name "list" p) [.Call (.Name "reversed" p2) [o] [] pos'] [] pos) (tE T X.K Y (M3.eRevL fa)) := by
  refine PE.of (pe_listRev hh ho hm hm2 hg hg2 he hpl he2 hpl2) fun σ H Q ⟨μ, σ3, G, S, sd, h⟩ => ⟨μ, σ3, G, S, sd, stepV h fun d G1 v H1 μ1 u1 S1 d1 h1 => ?_⟩
  unfold M3.run M3.mRev at h1
  cases d with
  | ref n =>
    dsimp only at h1
    obtain ⟨a, ea, rfl⟩ := id d1
    cases q : G1[n]? with
    | none => rw [q] at h1; exact False.elim h1
    | some ob =>
      have od := S1.obj n a ob ea q
      rw [q] at h1
      cases ob with
      | lst xs =>
        obtain ⟨ws, e1, r⟩ := od
        dsimp only at h1
        by_cases cl : xs.length ≤ M3.sizeL
        · rw [if_pos cl] at h1
          refine ⟨a, ws, rfl, e1, fun l hl => ?_⟩
          have up := Up.new (μ := μ1) (.lst ws.reverse) hl
          exact h1 _ _ (μ1 ++ [l]) (u1.trans up) (S1.new hl rfl ⟨_, upd_same, Dens.up up (Dens.rev r)⟩) ⟨l, by rw [← S1.len]; simp, rfl⟩
        · rw [if_neg cl] at h1; exact False.elim h1
      | _ => exact False.elim h1
  | _ => exact False.elim h1
/-! is None, as a test -/
theorem non_iff {K : PySem.W.Frag} {H : Hp} {μ : List Addr} {x : M3.D} {v : V} (d : Den K H μ x v) : (V.bl (decide (v = .non))) = .bl (decide (x = .non)) := by
  cases x with
  | non => cases (show v = .non from d); rfl
  | bl b => cases (show v = .bl b from d); rfl
  | int b => cases (show v = .int b from d); rfl
  | str b => cases (show v = .str b from d); rfl
  | ref n => obtain ⟨_, _, rfl⟩ := d; rfl
  | tup ds => obtain ⟨_, _, rfl, _⟩ := d; rfl
theorem t_isN {j} (ha : PE X a (tE T X.K Y fa)) : PT X (.Compare a [.Is] [.Constant .none j pos'] pos) (tT T X.K Y (M3.tB (M3.eUn M3.oIsN fa))) := by
  refine PT.of (pt_cmp (pc_isN ha)) fun σ H Q ⟨μ, σ3, G, S, sd, h⟩ => ?_
  have h : M3.run (M3.bnd (M3.bnd (fa σ3) M3.oIsN) M3.asB) G (PostB T X.K μ H Q) (Y.x μ H) := h
  rw [M3.bnd_assoc] at h
  exact ⟨μ, σ3, G, S, sd, stepV h fun x G1 v H1 μ1 u1 S1 d1 h1 => ⟨decide (x = .non), non_iff d1, h1 H1 μ1 u1 S1⟩⟩
theorem t_notN {j} (ha : PE X a (tE T X.K Y fa)) : PT X (.Compare a [.IsNot] [.Constant .none j pos'] pos) (tT T X.K Y (M3.tB (M3.eUn M3.oNotN fa))) := by
  refine PT.of (pt_cmp (pc_notN ha)) fun σ H Q ⟨μ, σ3, G, S, sd, h⟩ => ?_
  have h : M3.run (M3.bnd (M3.bnd (fa σ3) M3.oNotN) M3.asB) G (PostB T X.K μ H Q) (Y.x μ H) := h
  rw [M3.bnd_assoc] at h
  exact ⟨μ, σ3, G, S, sd, stepV h fun x G1 v H1 μ1 u1 S1 d1 h1 => ⟨!decide (x = .non), by have := non_iff d1; injection this with this; rw [this], h1 H1 μ1 u1 S1⟩⟩
end
end L3

namespace KC
open PySem M3
def k_are_places : S3 :=
    (sSeq (sSet 2 eDict0)
    (sSeq (sFor (iOf (eVar 1)) (gNm 3) (sSeq (sIf (tOr (tB (eOp oLt (eVar 3) (eC (.int 0)))) (tOr (tB (eOp oGe (eVar 3) (eCall bLen (aCons (eVar 0) aNil)))) (tB (eOp oIn (eVar 3) (eVar 2))))) (sRet (eC (.bl false))) sNil)
    (sSubS (eVar 2) (eVar 3) (eC (.bl true)))))
    (sRet (eC (.bl true)))))
def c_are_places : List D → M D := fnM 2 [none, none] k_are_places
def k_has_ended : S3 :=
    (sRet (eUn oNotN (eOp oIx (eVar 0) (eC (.int 4)))))
def c_has_ended : List D → M D := fnM 1 [] k_has_ended
def k_is_read : S3 :=
    (sRet (eOp oEq (eOp oIx (eVar 0) (eC (.int 1))) (eC (.str "read"))))
def c_is_read : List D → M D := fnM 1 [] k_is_read
def k_stand_rightly : S3 :=
    (sSeq (sFor (iEnum (eVar 0)) (gUn [2, 3]) (sSeq (sIf (tAnd (tOf (eCall c_has_ended (aCons (eVar 3) aNil))) (tB (eOp oNotIn (eVar 2) (eVar 1)))) (sRet (eC (.bl false))) sNil)
    (sIf (tAnd (tOf (eCall c_is_read (aCons (eVar 3) aNil))) (tAnd (tNot (tOf (eCall c_has_ended (aCons (eVar 3) aNil)))) (tB (eOp oIn (eVar 2) (eVar 1))))) (sRet (eC (.bl false))) sNil)))
    (sRet (eC (.bl true))))
def c_stand_rightly : List D → M D := fnM 2 [none, none] k_stand_rightly
def k_ended_before : S3 :=
    (sRet (eAnd (eCall c_has_ended (aCons (eVar 0) aNil)) (eOp oLt (eOp oIx (eVar 0) (eC (.int 4))) (eOp oIx (eVar 1) (eC (.int 3))))))
def c_ended_before : List D → M D := fnM 2 [] k_ended_before
def k_keeps_time : S3 :=
    (sSeq (sFor (iEnum (eVar 1)) (gUn [2, 3]) (sFor (iOf (eSl (eVar 1) (pSome (eOp oAdd (eVar 2) (eC (.int 1)))) pNone)) (gNm 4) (sIf (tOf (eCall c_ended_before (aCons (eOp oIx (eVar 0) (eVar 4)) (aCons (eOp oIx (eVar 0) (eVar 3)) aNil)))) (sRet (eC (.bl false))) sNil)))
    (sRet (eC (.bl true))))
def c_keeps_time : List D → M D := fnM 2 [none, none, none] k_keeps_time
def k_reads_are_right : S3 :=
    (sSeq (sSet 2 (eC (.int 0)))
    (sSeq (sFor (iOf (eVar 1)) (gNm 3) (sSeq (sSet 4 (eOp oIx (eVar 0) (eVar 3)))
    (sIf (tNot (tOf (eCall c_is_read (aCons (eVar 4) aNil)))) (sSet 2 (eOp oIx (eVar 4) (eC (.int 2)))) (sIf (tB (eOp oNe (eOp oIx (eVar 4) (eC (.int 2))) (eVar 2))) (sRet (eC (.bl false))) sNil))))
    (sRet (eC (.bl true)))))
def c_reads_are_right : List D → M D := fnM 2 [none, none, none] k_reads_are_right
def k_explains : S3 :=
    (sRet (eAnd (eCall c_are_places (aCons (eVar 0) (aCons (eVar 1) aNil))) (eAnd (eCall c_stand_rightly (aCons (eVar 0) (aCons (eVar 1) aNil))) (eAnd (eCall c_keeps_time (aCons (eVar 0) (aCons (eVar 1) aNil))) (eCall c_reads_are_right (aCons (eVar 0) (aCons (eVar 1) aNil)))))))
def c_explains : List D → M D := fnM 2 [] k_explains
def k_whole : S3 :=
    (sRet (eAnd (eCall (bIs .int) (aCons (eVar 0) aNil)) (eNot (eCall (bIs .bl) (aCons (eVar 0) aNil)))))
def c_whole : List D → M D := fnM 1 [] k_whole
def k_at : S3 :=
    (sSeq (sIf (tB (eOp oLt (eVar 1) (eCall bLen (aCons (eVar 0) aNil)))) (sRet (eOp oIx (eVar 0) (eVar 1))) sNil)
    (sRet (eC (.int 0))))
def c_at : List D → M D := fnM 2 [] k_at
def k_one_explains : S3 :=
    (sSeq (sSet 2 eDict0)
    (sSeq (sFor (iRng1 (eCall bLen (aCons (eVar 1) aNil))) (gNm 3) (sSeq (sSet 4 (eOp oIx (eVar 1) (eVar 3)))
    (sSeq (sIf (tOr (tNot (tOf (eCall c_whole (aCons (eVar 4) aNil)))) (tOr (tB (eOp oLt (eVar 4) (eC (.int 0)))) (tB (eOp oGe (eVar 4) (eCall bLen (aCons (eVar 0) aNil)))))) (sRet (eC (.bl false))) sNil)
    (sSeq (sIf (tAnd (tB (eOp oEq (eOp oIx (eOp oIx (eVar 0) (eVar 4)) (eC (.int 1))) (eC (.str "read")))) (tB (eUn oIsN (eOp oIx (eOp oIx (eVar 0) (eVar 4)) (eC (.int 4)))))) (sRet (eC (.bl false))) sNil)
    (sSeq (sIf (tB (eOp oIn (eVar 4) (eVar 2))) (sRet (eC (.bl false))) sNil)
    (sSubS (eVar 2) (eVar 4) (eVar 3)))))))
    (sSeq (sFor (iRng1 (eCall bLen (aCons (eVar 0) aNil))) (gNm 4) (sIf (tB (eUn oNotN (eOp oIx (eOp oIx (eVar 0) (eVar 4)) (eC (.int 4))))) (sSeq (sIf (tB (eOp oNotIn (eVar 4) (eVar 2))) (sRet (eC (.bl false))) sNil)
    (sFor (iOf (eVar 1)) (gNm 5) (sSeq (sSet 6 (eOp oGt (eOp oIx (eOp oIx (eVar 0) (eVar 5)) (eC (.int 3))) (eOp oIx (eOp oIx (eVar 0) (eVar 4)) (eC (.int 4)))))
    (sIf (tAnd (tOf (eVar 6)) (tB (eOp oLt (eOp oIx (eVar 2) (eVar 5)) (eOp oIx (eVar 2) (eVar 4))))) (sRet (eC (.bl false))) sNil)))) sNil))
    (sSeq (sFor (iRng1 (eCall bLen (aCons (eVar 1) aNil))) (gNm 3) (sIf (tB (eOp oEq (eOp oIx (eOp oIx (eVar 0) (eOp oIx (eVar 1) (eVar 3))) (eC (.int 1))) (eC (.str "read")))) (sSeq (sSet 7 (eC (.int 0)))
    (sSeq (sFor (iOf (eSl (eVar 1) pNone (pSome (eVar 3)))) (gNm 4) (sIf (tB (eOp oEq (eOp oIx (eOp oIx (eVar 0) (eVar 4)) (eC (.int 1))) (eC (.str "write")))) (sSet 7 (eOp oIx (eOp oIx (eVar 0) (eVar 4)) (eC (.int 2)))) sNil))
    (sIf (tB (eOp oNe (eOp oIx (eOp oIx (eVar 0) (eOp oIx (eVar 1) (eVar 3))) (eC (.int 2))) (eVar 7))) (sRet (eC (.bl false))) sNil))) sNil))
    (sRet (eC (.bl true)))))))
def c_one_explains : List D → M D := fnM 2 [none, none, none, none, none, none] k_one_explains
def k_works_by : S3 :=
    (sSeq (sSet 1 (eLst aNil))
    (sSeq (sSet 2 (eC (.int 0)))
    (sSeq (sSet 3 (eC (.int 0)))
    (sSeq (sFor (iRng1 (eCall bLen (aCons (eVar 0) aNil))) (gNm 4) (sSeq (sSet 5 (eOp oAdd (eOp oIx (eVar 0) (eVar 4)) (eOp oMul (eC (.int 7)) (eVar 4))))
    (sSeq (sSet 2 (eOp oAdd (eOp oAdd (eVar 2) (eC (.int 1))) (eOp oMod (eOp oMod (eOp oMul (eVar 5) (eC (.int 48271))) (eC (.int 1009))) (eC (.int 3)))))
    (sSeq (sSet 6 (eOp oAdd (eOp oAdd (eVar 2) (eC (.int 1))) (eOp oMod (eOp oMod (eOp oMul (eVar 5) (eC (.int 48271))) (eC (.int 1013))) (eC (.int 6)))))
    (sSeq (sIf (tB (eOp oEq (eOp oMod (eOp oMod (eOp oMul (eVar 5) (eC (.int 48271))) (eC (.int 1019))) (eC (.int 6))) (eC (.int 1)))) (sSet 6 (eC .non)) sNil)
    (sIf (tB (eOp oEq (eOp oMod (eOp oMod (eOp oMul (eVar 5) (eC (.int 48271))) (eC (.int 1021))) (eC (.int 2))) (eC (.int 1)))) (sSeq (sSet 3 (eOp oIx (eLst (aCons (eC (.int 1)) (aCons (eC (.int 2)) (aCons (eC (.int 0)) (aCons (eC (.int 100000000000000000000)) aNil))))) (eOp oMod (eOp oMod (eOp oMul (eVar 5) (eC (.int 48271))) (eC (.int 1031))) (eC (.int 4)))))
    (sExpr (eApp (eVar 1) (eTup (aCons (eOp oMod (eVar 4) (eC (.int 3))) (aCons (eC (.str "write")) (aCons (eVar 3) (aCons (eVar 2) (aCons (eVar 6) aNil))))))))) (sSeq (sSet 7 (eOp oIx (eLst (aCons (eVar 3) (aCons (eC .non) aNil))) (eCall bInt (aCons (eUn oIsN (eVar 6)) aNil))))
    (sExpr (eApp (eVar 1) (eTup (aCons (eOp oMod (eVar 4) (eC (.int 3))) (aCons (eC (.str "read")) (aCons (eVar 7) (aCons (eVar 2) (aCons (eVar 6) aNil)))))))))))))))
    (sRet (eVar 1))))))
def c_works_by : List D → M D := fnM 1 [none, none, none, none, none, none, none] k_works_by
def k_harmed : S3 :=
    (sSeq (sSet 3 (eCall bList (aCons (eVar 1) aNil)))
    (sSeq (sSet 4 (eOp oMod (eOp oMod (eOp oMul (eVar 2) (eC (.int 48271))) (eC (.int 1033))) (eCall bMax (aCons (eC (.int 1)) (aCons (eCall bLen (aCons (eVar 3) aNil)) aNil)))))
    (sSeq (sSet 5 (eOp oMod (eOp oMod (eOp oMul (eVar 2) (eC (.int 48271))) (eC (.int 1039))) (eC (.int 9))))
    (sSeq (sIf (tAnd (tB (eOp oEq (eVar 5) (eC (.int 1)))) (tB (eOp oLt (eOp oAdd (eVar 4) (eC (.int 1))) (eCall bLen (aCons (eVar 3) aNil))))) (sAsg (gTup [(gSub (eVar 3) (eVar 4)), (gSub (eVar 3) (eOp oAdd (eVar 4) (eC (.int 1))))]) (eTup (aCons (eOp oIx (eVar 3) (eOp oAdd (eVar 4) (eC (.int 1)))) (aCons (eOp oIx (eVar 3) (eVar 4)) aNil)))) sNil)
    (sSeq (sIf (tB (eOp oEq (eVar 5) (eC (.int 2)))) (sSet 3 (eOp oAdd (eSl (eVar 3) pNone (pSome (eVar 4))) (eSl (eVar 3) (pSome (eOp oAdd (eVar 4) (eC (.int 1)))) pNone))) sNil)
    (sSeq (sIf (tB (eOp oEq (eVar 5) (eC (.int 3)))) (sSet 3 (eOp oAdd (eSl (eVar 3) pNone (pSome (eOp oAdd (eVar 4) (eC (.int 1))))) (eSl (eVar 3) (pSome (eVar 4)) pNone))) sNil)
    (sSeq (sIf (tB (eOp oEq (eVar 5) (eC (.int 4)))) (sSeq (sSet 6 (eOp oIx (eLst (aCons (eUn oNeg (eC (.int 1))) (aCons (eCall bLen (aCons (eVar 0) aNil)) aNil))) (eOp oMod (eOp oMod (eOp oMul (eVar 2) (eC (.int 48271))) (eC (.int 1049))) (eC (.int 2)))))
    (sSet 3 (eOp oAdd (eOp oAdd (eSl (eVar 3) pNone (pSome (eVar 4))) (eLst (aCons (eVar 6) aNil))) (eSl (eVar 3) (pSome (eVar 4)) pNone)))) sNil)
    (sSeq (sIf (tB (eOp oEq (eVar 5) (eC (.int 5)))) (sSet 3 (eRevL (eVar 3))) sNil)
    (sSeq (sIf (tB (eOp oEq (eVar 5) (eC (.int 6)))) (sSet 3 (eOp oAdd (eSl (eVar 3) (pSome (eVar 4)) pNone) (eSl (eVar 3) pNone (pSome (eVar 4))))) sNil)
    (sSeq (sIf (tB (eOp oEq (eVar 5) (eC (.int 7)))) (sSet 3 (eComp (iRng1 (eCall bLen (aCons (eVar 0) aNil))) [] tTrue (eVar 0))) sNil)
    (sRet (eVar 3))))))))))))
def c_harmed : List D → M D := fnM 3 [none, none, none, none] k_harmed
def k_room : S3 :=
    (sSeq (sIf (tB (eOp oGt (eCall bLen (aCons (eVar 0) aNil)) (eC (.int 63)))) (sRet (eVar 2)) sNil)
    (sRet (eVar 1)))
def c_room : List D → M D := fnM 3 [] k_room
def k_law : S3 :=
    (sSeq (sSet 1 (eOp oIx (eLst (aCons (eC (.int 7)) (aCons (eC (.int 20)) aNil))) (eOp oMod (eOp oMod (eOp oMul (eCall c_at (aCons (eVar 0) (aCons (eC (.int 0)) aNil))) (eC (.int 48271))) (eC (.int 1061))) (eC (.int 2)))))
    (sSeq (sSet 2 (eCall c_works_by (aCons (eSl (eVar 0) (pSome (eC (.int 1))) (pSome (eOp oAdd (eC (.int 1)) (eCall c_room (aCons (eVar 0) (aCons (eVar 1) (aCons (eC (.int 150)) aNil))))))) aNil)))
    (sSeq (sSet 3 (eLst aNil))
    (sSeq (sFor (iRng1 (eCall bLen (aCons (eVar 2) aNil))) (gNm 4) (sIf (tOr (tB (eUn oNotN (eOp oIx (eOp oIx (eVar 2) (eVar 4)) (eC (.int 4))))) (tB (eOp oEq (eOp oIx (eOp oIx (eVar 2) (eVar 4)) (eC (.int 1))) (eC (.str "write"))))) (sExpr (eApp (eVar 3) (eVar 4))) sNil))
    (sSeq (sSet 3 (eCall c_harmed (aCons (eVar 2) (aCons (eVar 3) (aCons (eCall c_at (aCons (eVar 0) (aCons (eC (.int 0)) aNil))) aNil)))))
    (sSeq (sSet 5 (eLst (aCons (eCall bList (aCons (eVar 2) aNil)) (aCons (eCall bList (aCons (eVar 3) aNil)) aNil))))
    (sSeq (sSet 6 (eCall c_explains (aCons (eOp oIx (eVar 5) (eC (.int 0))) (aCons (eOp oIx (eVar 5) (eC (.int 1))) aNil))))
    (sSeq (sIf (tOr (tB (eOp oNe (eVar 5) (eLst (aCons (eVar 2) (aCons (eVar 3) aNil))))) (tNot (tOf (eCall (bIs .bl) (aCons (eVar 6) aNil))))) (sRet (eC (.bl false))) sNil)
    (sRet (eOp oEq (eVar 6) (eCall c_one_explains (aCons (eVar 2) (aCons (eVar 3) aNil)))))))))))))
def c_law : List D → M D := fnM 1 [none, none, none, none, none, none] k_law
end KC

namespace M3
open PySem
section
variable {α β : Type} {G G' : Hh} {E : Nat → Hh → Prop} {σ : St}
variable {Q : D → Hh → Prop} {QB : Bool → Hh → Prop} {QA : List D → Hh → Prop} {QS : Fl × St → Hh → Prop} {QU : Unit → Hh → Prop} {QI : Src → Hh → Prop} {QG : St → Hh → Prop}
theorem w_pNone {QP : Option Int → Hh → Prop} (h : QP none G) : run (pNone σ) G QP E := h
theorem w_pSome {e : E3} {QP : Option Int → Hh → Prop} (h : run (e σ) G (fun d G1 => run (asI d) G1 QP E) E) : run (pSome e σ) G QP E := w_bnd h
theorem w_asI {i : Int} {QP : Option Int → Hh → Prop} (h : QP (some i) G) : run (asI (.int i)) G QP E := h
theorem w_slL {n : Nat} {xs : List D} {lo hi : Option Int} (hn : G[n]? = some (.lst xs)) (h : Q (.ref G.length) (G ++ [.lst (cutD xs lo hi)])) : run (oSl (.ref n) lo hi) G Q E := by
  unfold run oSl
  dsimp only
  rw [hn]
  exact h
theorem w_slF {n : Nat} {xs : List D} {lo hi : Option Int} (hn : G[n]? = some (.frz xs)) (h : Q (.ref G.length) (G ++ [.lst (cutD xs lo hi)])) : run (oSl (.ref n) lo hi) G Q E := by
  unfold run oSl
  dsimp only
  rw [hn]
  exact h
theorem w_iEnum {e : E3} (h : run (e σ) G (fun x G1 => run (enumOf x) G1 QI E) E) : run (iEnum e σ) G QI E := w_bnd h
theorem w_enumL {n : Nat} {xs : List D} (hl : G[n]? = some (.lst xs)) (h : QI ⟨enumD xs, fun G' => decide (G'[n]? = some (.lst xs))⟩ G) : run (enumOf (.ref n)) G QI E := by
  refine run_some (G' := G) ?_ h
  unfold enumOf; dsimp only; rw [hl]
theorem enumD_get {xs : List D} {i : Nat} {x : D} (h : (enumD xs)[i]? = some x) : ∃ y, xs[i]? = some y ∧ x = .tup [.int (i : Int), y] := by
  unfold enumD at h
  rw [List.getElem?_mapIdx] at h
  cases q : xs[i]? with
  | none => rw [q] at h; cases h
  | some y => rw [q] at h; exact ⟨y, rfl, (Option.some.inj h).symm⟩
theorem enumD_len {xs : List D} : (enumD xs).length = xs.length := by simp [enumD]
theorem w_revL {o : E3} (h : run (o σ) G (fun x G1 => run (mRev x) G1 Q E) E) : run (eRevL o σ) G Q E := w_bnd h
theorem w_mRev {n : Nat} {xs : List D} (hn : G[n]? = some (.lst xs)) (hl : xs.length ≤ sizeL) (h : Q (.ref G.length) (G ++ [.lst xs.reverse])) : run (mRev (.ref n)) G Q E := by
  unfold run mRev
  dsimp only
  rw [hn]
  dsimp only
  rw [if_pos hl]
  exact h
theorem w_asg {g : D → St → M St} {e : E3} (h : run (e σ) G (fun d G1 => run (g d σ) G1 (fun σ' G2 => QS (.next, σ') G2) E) E) : run (sAsg g e σ) G QS E :=
  w_bnd (run_mono h (fun _ _ q => w_bnd q) fun _ _ q => q)
theorem w_gTup {gs : List (D → St → M St)} {ds : List D} (hl : ds.length = gs.length) (h : run (gAll gs ds σ) G QG E) : run (gTup gs (.tup ds) σ) G QG E := by
  show run (if ds.length = gs.length then gAll gs ds σ else fail) G QG E
  rw [if_pos hl]; exact h
theorem w_gaNil (h : QG σ G) : run (gAll [] [] σ) G QG E := h
theorem w_gaCons {g : D → St → M St} {gs : List (D → St → M St)} {d : D} {ds : List D} (h : run (g d σ) G (fun σ' G1 => run (gAll gs ds σ') G1 QG E) E) : run (gAll (g :: gs) (d :: ds) σ) G QG E := w_bnd h
theorem w_gSub {o i : E3} {d : D} (h : run (o σ) G (fun x G1 => run (i σ) G1 (fun y G2 => run (setI x y d) G2 (fun _ G3 => QG σ G3) E) E) E) : run (gSub o i d σ) G QG E :=
  w_bnd (run_mono h (fun _ _ q => w_bnd (run_mono q (fun _ _ q => w_bnd q) fun _ _ q => q)) fun _ _ q => q)
theorem w_rngLen {j : Nat} (hj : j ≤ 1000000) (h : QI ⟨rng 0 j, fun _ => true⟩ G) : run (rng1 (.int (j : Int))) G QI E := by
  have c : inRng (j : Int) = true := by unfold inRng; exact decide_eq_true (by omega)
  show run (if inRng (j : Int) = true then ret (⟨rng 0 (j : Int).toNat, fun _ => true⟩ : Src) else fail) G QI E
  rw [if_pos c, Int.toNat_natCast]; exact h
/-- for i in range(n) -/
theorem w_forR {n : Nat} {body : D → St → M (Fl × St)} (P : Nat → St → Hh → Prop)
    (hs : ∀ (i : Nat) σ G, i < n → P i σ G → run (body (.int (i : Int)) σ) G (fun p G1 => match p.1 with
      | .next => P (i + 1) p.2 G1
      | .cont => P (i + 1) p.2 G1
      | .brk => QS (.next, p.2) G1
      | .ret d => QS (.ret d, p.2) G1) E)
    (hd : ∀ σ G, P n σ G → QS (.next, σ) G) (h0 : P 0 σ G) : run (forL (fun _ => true) body (rng 0 n) σ) G QS E := by
  refine w_forL (xs := rng 0 n) P (fun _ _ _ _ => rfl) (fun i x σ G hx p => ?_) (fun σ G p => hd σ G (by rw [rng_len] at p; exact p)) _ 0 σ G List.drop_zero (Nat.zero_le _) h0
  obtain ⟨rfl, hi⟩ := rng_get hx
  rw [Int.zero_add]
  exact hs i σ G hi p
/-- for x in a list that stays -/
theorem w_forS {α : Type} {f : α → D} {xs : List α} {ck : Hh → Bool} {body : D → St → M (Fl × St)} (P : Nat → St → Hh → Prop) (hck : ∀ i σ G, P i σ G → ck G = true)
    (hs : ∀ (i : Nat) x σ G, xs[i]? = some x → P i σ G → run (body (f x) σ) G (fun p G1 => match p.1 with
      | .next => P (i + 1) p.2 G1
      | .cont => P (i + 1) p.2 G1
      | .brk => QS (.next, p.2) G1
      | .ret d => QS (.ret d, p.2) G1) E)
    (hd : ∀ σ G, P xs.length σ G → QS (.next, σ) G) (h0 : P 0 σ G) : run (forL ck body (xs.map f) σ) G QS E := by
  refine w_forL (xs := xs.map f) P hck (fun i x σ G hx p => ?_) (fun σ G p => hd σ G (by rw [List.length_map] at p; exact p)) _ 0 σ G List.drop_zero (Nat.zero_le _) h0
  rw [List.getElem?_map] at hx
  cases q : xs[i]? with
  | none => rw [q] at hx; cases hx
  | some y =>
    rw [q] at hx
    cases hx
    exact hs i y σ G q p
theorem w_intI {i : Int} (h : Q (.int i) G) : run (bInt [.int i]) G Q E := h
theorem w_intB {b : Bool} (h : Q (.int (if b then 1 else 0)) G) : run (bInt [.bl b]) G Q E := h
theorem w_lenK {n : Nat} {kvs : List (Key × D)} (hl : G[n]? = some (.dK kvs)) (h : Q (.int kvs.length) G) : run (bLen [.ref n]) G Q E := by
  refine run_some (a := .int kvs.length) (G' := G) ?_ h
  unfold bLen; dsimp only; rw [hl]
end
end M3
local macro_rules | `(tactic| walk_at "fn_in") => `(tactic| (refine M3.w_fn rfl ?_; simp only [List.map_cons, List.map_nil, List.cons_append, List.nil_append]))
local macro_rules | `(tactic| walk_at "wp1") => `(tactic| first
  | with_reducible refine M3.w_op ?_ | ((with_reducible refine' M3.w_var ?e1 ?_); case e1 => rfl) | with_reducible refine M3.w_c ?_ | with_reducible refine M3.w_seq ?_
  | ((with_reducible refine M3.w_next ?_); try simp only [List.set_cons_succ, List.set_cons_zero]) | with_reducible refine M3.w_kret ?_
  | with_reducible refine M3.w_set ?_ | with_reducible refine M3.w_sif ?_ | with_reducible refine M3.w_sret ?_ | with_reducible refine M3.w_expr ?_ | with_reducible refine M3.w_nil ?_
  | with_reducible refine M3.w_call ?_ | with_reducible refine M3.w_aCons ?_ | with_reducible refine M3.w_aNil ?_
  | with_reducible refine M3.w_tup ?_ | with_reducible refine M3.w_lst ?_ | with_reducible refine M3.w_un ?_
  | with_reducible refine M3.w_tB ?_ | with_reducible refine M3.w_tOf ?_ | with_reducible refine M3.w_tAnd ?_ | with_reducible refine M3.w_tOr ?_ | with_reducible refine M3.w_tNot ?_
  | with_reducible refine M3.w_asB ?_ | with_reducible refine M3.w_truB ?_ | with_reducible refine M3.w_eAnd ?_ | with_reducible refine M3.w_eOr ?_ | with_reducible refine M3.w_eNot ?_ | with_reducible refine M3.w_eIf ?_
  | with_reducible refine M3.w_iteT ?_ | with_reducible refine M3.w_iteF ?_ | with_reducible refine M3.w_iteNT ?_ | with_reducible refine M3.w_iteNF ?_ | with_reducible refine M3.w_ret ?_
  | with_reducible refine M3.w_addI ?_ | with_reducible refine M3.w_subI ?_ | ((with_reducible refine' M3.w_mulR ?e1 ?_); case e1 => decide) | ((with_reducible refine' M3.w_mulL ?e1 ?_); case e1 => decide) | ((with_reducible refine' M3.w_modI ?e1 ?_); case e1 => decide)
  | with_reducible refine M3.w_ltI ?_ | with_reducible refine M3.w_gtI ?_ | with_reducible refine M3.w_leI ?_ | with_reducible refine M3.w_geI ?_
  | ((with_reducible refine' M3.w_gtT ?e1 ?e2 ?_); (case e1 => rfl); (case e2 => rfl))
  | ((with_reducible refine' M3.w_ixT ?e1 ?_); case e1 => rfl)
  | (first | with_reducible refine M3.w_is_int_non ?_ | with_reducible refine M3.w_is_int_bl ?_ | with_reducible refine M3.w_is_int_int ?_ | with_reducible refine M3.w_is_int_str ?_ | with_reducible refine M3.w_is_int_tup ?_ | with_reducible refine M3.w_is_bl_non ?_ | with_reducible refine M3.w_is_bl_bl ?_ | with_reducible refine M3.w_is_bl_int ?_ | with_reducible refine M3.w_is_bl_str ?_ | with_reducible refine M3.w_is_bl_tup ?_ | with_reducible refine M3.w_is_str_non ?_ | with_reducible refine M3.w_is_str_bl ?_ | with_reducible refine M3.w_is_str_int ?_ | with_reducible refine M3.w_is_str_str ?_ | with_reducible refine M3.w_is_str_tup ?_ | with_reducible refine M3.w_is_tup_non ?_ | with_reducible refine M3.w_is_tup_bl ?_ | with_reducible refine M3.w_is_tup_int ?_ | with_reducible refine M3.w_is_tup_str ?_ | with_reducible refine M3.w_is_tup_tup ?_ | with_reducible refine M3.w_is_lst_non ?_ | with_reducible refine M3.w_is_lst_bl ?_ | with_reducible refine M3.w_is_lst_int ?_ | with_reducible refine M3.w_is_lst_str ?_ | with_reducible refine M3.w_is_lst_tup ?_ | with_reducible refine M3.w_is_dic_non ?_ | with_reducible refine M3.w_is_dic_bl ?_ | with_reducible refine M3.w_is_dic_int ?_ | with_reducible refine M3.w_is_dic_str ?_ | with_reducible refine M3.w_is_dic_tup ?_)
  | with_reducible refine M3.w_isN ?_ | with_reducible refine M3.w_negI ?_ | with_reducible refine M3.w_app ?_ | with_reducible refine M3.w_notN ?_ | with_reducible refine M3.w_min ?_ | with_reducible refine M3.w_max ?_
  | with_reducible refine M3.w_iOf ?_ | with_reducible refine M3.w_iRng1 ?_ | with_reducible refine M3.w_iRng2 ?_ | with_reducible refine M3.w_for ?_ | with_reducible refine M3.w_comp ?_ | with_reducible refine M3.w_sun ?_ | with_reducible refine M3.w_gNm ?_
  | with_reducible refine M3.w_fRet ?_ | with_reducible refine M3.w_fNext ?_
  | with_reducible refine M3.w_dict0 ?_ | with_reducible refine M3.w_subS ?_ | with_reducible refine M3.w_sl ?_ | with_reducible refine M3.w_pNone ?_ | with_reducible refine M3.w_pSome ?_ | with_reducible refine M3.w_asI ?_
  | with_reducible refine M3.w_iEnum ?_ | with_reducible refine M3.w_revL ?_ | with_reducible refine M3.w_asg ?_ | ((with_reducible refine' M3.w_gTup ?e1 ?_); case e1 => rfl) | with_reducible refine M3.w_gaNil ?_ | with_reducible refine M3.w_gaCons ?_ | with_reducible refine M3.w_gSub ?_ | with_reducible refine M3.w_intI ?_ | with_reducible refine M3.w_intB ?_
  | ((with_reducible refine' M3.w_gUn ?e1 ?_); (case e1 => rfl); try simp only [List.set_cons_succ, List.set_cons_zero])
  | ((with_reducible refine' M3.w_lenT ?e1 ?_); case e1 => exact Nat.le_of_ble_eq_true rfl)
  | with_reducible refine And.intro (show (_ : Nat) ≤ M3.sizeL from Nat.le_of_ble_eq_true (by with_unfolding_all rfl)) ?_
  | with_reducible refine M3.w_bnd ?_)
namespace KH
open PySem M3
/-! heaps that grow -/
def Ext (G G' : Hh) : Prop := ∃ r, G' = G ++ r
theorem Ext.refl (G : Hh) : Ext G G := ⟨[], by simp⟩
theorem Ext.trans {A B C : Hh} (a : Ext A B) (b : Ext B C) : Ext A C := by
  obtain ⟨r, rfl⟩ := a
  obtain ⟨t, rfl⟩ := b
  exact ⟨r ++ t, by simp⟩
theorem Ext.add (G : Hh) (o : O) : Ext G (G ++ [o]) := ⟨[o], rfl⟩
theorem Ext.get {A B : Hh} (a : Ext A B) {n : Nat} {o : O} (h : A[n]? = some o) : B[n]? = some o := by
  obtain ⟨r, rfl⟩ := a
  rw [List.getElem?_append_left (List.getElem?_eq_some_iff.mp h).1]
  exact h
theorem get_new (G : Hh) (o : O) : (G ++ [o])[G.length]? = some o := by simp
theorem set_new (G : Hh) (o o' : O) : (G ++ [o]).set G.length o' = G ++ [o'] := by simp
theorem take_succ {α : Type} {xs : List α} {i : Nat} {x : α} (h : xs[i]? = some x) : xs.take (i + 1) = xs.take i ++ [x] := by
  rw [List.take_add_one, h]; rfl
theorem map_get {α : Type} {f : α → D} {ps : List α} {i : Nat} {x : D} (h : (ps.map f)[i]? = some x) : ∃ p, ps[i]? = some p ∧ x = f p := by
  rw [List.getElem?_map] at h
  cases e : ps[i]? with
  | none => rw [e] at h; cases h
  | some p => rw [e] at h; exact ⟨p, rfl, (Option.some.inj h).symm⟩
theorem atI_map {α : Type} {f : α → D} {xs : List α} {i : Nat} {x : α} (h : xs[i]? = some x) : atI (xs.map f) (i : Int) = some (f x) := by
  have hl := (List.getElem?_eq_some_iff.mp h).1
  unfold atI M3.ixN
  rw [if_pos (Int.natCast_nonneg _), List.length_map, if_pos (by exact_mod_cast hl)]
  simp [h]
theorem atI_mapI {α : Type} {f : α → D} {xs : List α} {i : Int} {x : α} (h0 : 0 ≤ i) (h : xs[i.toNat]? = some x) : atI (xs.map f) i = some (f x) := by
  have := atI_map (f := f) h
  rwa [Int.toNat_of_nonneg h0] at this
theorem eq_int {G : Hh} {k : Nat} {a b : Int} : eqG G (k + 1) (.int a) (.int b) = some (decide (a = b)) := rfl
theorem eq_bl {G : Hh} {k : Nat} {a b : Bool} : eqG G (k + 1) (.bl a) (.bl b) = some (a == b) := rfl
theorem mem_ints {G : Hh} {p : Int} : ∀ {os : List Int}, memG G (.int p) (os.map D.int) = some (decide (p ∈ os))
  | [] => by simp [memG]
  | a :: r => by
    have ih := mem_ints (G := G) (p := p) (os := r)
    show (match eqG G 8 (.int a) (.int p), memG G (.int p) (r.map D.int) with
      | some p, some q => some (p || q)
      | _, _ => none) = _
    rw [ih]
    show some (decide (a = p) || decide (p ∈ r)) = _
    congr 1
    simp only [List.mem_cons, Bool.decide_or]
    congr 1
    exact decide_eq_decide.mpr ⟨Eq.symm, Eq.symm⟩
theorem eqZ_self {f : D → D → Option Bool} : ∀ {xs : List D}, (∀ x ∈ xs, f x x = some true) → eqZ f xs xs = some true
  | [], _ => rfl
  | x :: r, h => by
    unfold eqZ
    rw [h x List.mem_cons_self, eqZ_self fun y hy => h y (List.mem_cons_of_mem _ hy)]
    rfl
theorem look_none {κ : Type} [DecidableEq κ] {kvs : List (κ × D)} {k : κ} : look kvs k = none ↔ k ∉ kvs.map (·.1) := by
  unfold look
  rw [Option.map_eq_none_iff, List.find?_eq_none]
  constructor
  · intro h z
    obtain ⟨kv, hm, e⟩ := List.mem_map.mp z
    exact h kv hm (decide_eq_true e)
  · intro h kv hm e
    exact h (List.mem_map.mpr ⟨kv, hm, of_decide_eq_true e⟩)
theorem look_isSome {κ : Type} [DecidableEq κ] {kvs : List (κ × D)} {k : κ} : (look kvs k).isSome = decide (k ∈ kvs.map (·.1)) := by
  by_cases h : k ∈ kvs.map (·.1)
  · rw [decide_eq_true h]
    cases q : look kvs k with
    | none => exact absurd h (look_none.mp q)
    | some _ => rfl
  · rw [decide_eq_false h, look_none.mpr h]; rfl
theorem put_new {κ : Type} [DecidableEq κ] {kvs : List (κ × D)} {k : κ} {v : D} (h : k ∉ kvs.map (·.1)) : put kvs k v = kvs ++ [(k, v)] := by
  unfold put
  rw [if_neg]
  intro z
  obtain ⟨kv, hm, e⟩ := List.any_eq_true.mp z
  exact h (List.mem_map.mpr ⟨kv, hm, of_decide_eq_true e⟩)
end KH

namespace KS
open PySem M3 KC KH

structure Wk where
  hand : Int
  rd : Bool
  val : Option Int
  beg : Int
  en : Option Int
instance : Inhabited Wk := ⟨⟨0, false, none, 0, none⟩⟩
def oD : Option Int → D
  | none => .non
  | some i => .int i
def word (b : Bool) : Str := if b then "read" else "write"
def wD (w : Wk) : D := .tup [.int w.hand, .str (word w.rd), oD w.val, .int w.beg, oD w.en]
theorem oD_non (o : Option Int) : decide (oD o = .non) = o.isNone := by cases o <;> rfl
theorem oD_eq {G : Hh} {k : Nat} (a b : Option Int) : eqG G (k + 1) (oD a) (oD b) = some (decide (a = b)) := by
  cases a <;> cases b <;> simp [oD, eqG]
theorem word_read {G : Hh} (b : Bool) : eqG G 8 (.str (word b)) (.str "read") = some b := by
  show some (decide (word b = "read")) = some b
  cases b <;> (congr 1)
theorem word_write {G : Hh} (b : Bool) : eqG G 8 (.str (word b)) (.str "write") = some (!b) := by
  show some (decide (word b = "write")) = some (!b)
  cases b <;> (congr 1)
/-- a ended ahead of b's beginning -/
def eb (a b : Wk) : Bool := match a.en with
  | some e => decide (e < b.beg)
  | none => false
section
variable {G : Hh} {Q : D → Hh → Prop} {E : Nat → Hh → Prop}
theorem r_has_ended {w : Wk} (h : Q (.bl w.en.isSome) G) : run (c_has_ended [wD w]) G Q E := by
  walk_at "fn_in"
  unfold k_has_ended wD
  repeat walk_at "wp1"
  rw [oD_non]
  cases q : w.en <;> (rw [q] at h; exact h)
theorem r_is_read {w : Wk} (h : Q (.bl w.rd) G) : run (c_is_read [wD w]) G Q E := by
  walk_at "fn_in"
  unfold k_is_read wD
  repeat walk_at "wp1"
  refine w_eq (word_read _) ?_
  repeat walk_at "wp1"
  exact h
theorem r_ended_before {a b : Wk} (h : Q (.bl (eb a b)) G) : run (c_ended_before [wD a, wD b]) G Q E := by
  walk_at "fn_in"
  unfold k_ended_before
  repeat walk_at "wp1"
  refine r_has_ended ?_
  repeat walk_at "wp1"
  unfold eb at h
  cases q : a.en with
  | none =>
    rw [q] at h
    repeat walk_at "wp1"
    exact h
  | some e =>
    rw [q] at h
    unfold wD
    rw [q]
    repeat walk_at "wp1"
    exact h
theorem r_whole {i : Int} (h : Q (.bl true) G) : run (c_whole [.int i]) G Q E := by
  walk_at "fn_in"
  unfold k_whole
  repeat walk_at "wp1"
  exact h

variable {lw lo : Nat} {ws : List Wk} {os : List Int}
def InR (ws : List Wk) (os : List Int) : Prop := ∀ p ∈ os, 0 ≤ p ∧ p < (ws.length : Int)
def seenD (v : Nat → D) (os : List Int) : List (Key × D) := os.mapIdx fun i p => (.inl p, v i)
theorem seen_keys {v : Nat → D} (os : List Int) : (seenD v os).map (·.1) = os.map Sum.inl := by
  apply List.ext_getElem?
  intro i
  unfold seenD
  rw [List.getElem?_map, List.getElem?_mapIdx, List.getElem?_map]
  cases os[i]? <;> rfl
theorem seen_in {v : Nat → D} (os : List Int) (p : Int) : (look (seenD v os) (.inl p)).isSome = decide (p ∈ os) := by
  rw [look_isSome, seen_keys]
  exact decide_eq_decide.mpr ⟨fun h => by
    obtain ⟨q, hq, e⟩ := List.mem_map.mp h
    cases e; exact hq, fun h => List.mem_map.mpr ⟨p, h, rfl⟩⟩
theorem seen_put {v : Nat → D} {os : List Int} {p : Int} (h : p ∉ os) : put (seenD v os) (.inl p) (v os.length) = seenD v (os ++ [p]) := by
  rw [put_new]
  · unfold seenD
    rw [List.mapIdx_append]
    simp
  · rw [seen_keys]
    intro z
    obtain ⟨q, hq, e⟩ := List.mem_map.mp z
    cases e; exact h hq
theorem r_are_places (hw : G[lw]? = some (.lst (ws.map wD))) (ho : G[lo]? = some (.lst (os.map D.int))) (hz : os.length ≤ 100000)
    (h : ∀ b G', Ext G G' → (b = true ↔ InR ws os ∧ os.Nodup) → Q (.bl b) G') : run (c_are_places [.ref lw, .ref lo]) G Q E := by
  walk_at "fn_in"
  unfold k_are_places
  repeat walk_at "wp1"
  refine w_srcL ((Ext.add _ _).get ho) ?_
  refine w_forL (fun i σ G' => G' = G ++ [.dK (seenD (fun _ => .bl true) (os.take i))] ∧ InR ws (os.take i) ∧ (os.take i).Nodup ∧ ∃ x, σ = [some (.ref lw), some (.ref lo), some (.ref G.length), x]) ?_ ?_ ?_ (os.map D.int) 0 _ _ rfl (Nat.zero_le _) ⟨rfl, ?_, ?_, none, rfl⟩
  · rintro i σ G' ⟨rfl, _⟩
    exact decide_eq_true ((Ext.add _ _).get ho)
  · rintro i x σ G' hx ⟨rfl, hin, hnd, y, rfl⟩
    obtain ⟨p, hp, rfl⟩ := map_get hx
    have hmem : p ∈ os := List.mem_of_getElem? hp
    repeat walk_at "wp1"
    refine w_ite (fun c => ?_) fun c => ?_
    · repeat walk_at "wp1"
      refine h false _ (Ext.add _ _) ⟨fun z => (by cases z), fun ⟨z, _⟩ => ?_⟩
      have := z p hmem
      have := of_decide_eq_true c
      omega
    · repeat walk_at "wp1"
      refine w_lenL ((Ext.add _ _).get hw) ?_
      repeat walk_at "wp1"
      refine w_ite (fun c2 => ?_) fun c2 => ?_
      · repeat walk_at "wp1"
        refine h false _ (Ext.add _ _) ⟨fun z => (by cases z), fun ⟨z, _⟩ => ?_⟩
        have := z p hmem
        have := of_decide_eq_true c2
        rw [List.length_map] at this
        omega
      · repeat walk_at "wp1"
        refine w_in (b := decide (p ∈ os.take i)) ?_ ?_
        · unfold inG
          dsimp only
          rw [get_new]
          show some (look (seenD (fun _ => .bl true) (os.take i)) (.inl p)).isSome = _
          rw [seen_in]
        repeat walk_at "wp1"
        have spl : os = os.take i ++ p :: os.drop (i + 1) := by
          have hl := (List.getElem?_eq_some_iff.mp hp)
          obtain ⟨hl, e⟩ := hl
          rw [← e, ← List.drop_eq_getElem_cons hl, List.take_append_drop]
        refine w_ite (fun c3 => ?_) fun c3 => ?_
        · repeat walk_at "wp1"
          refine h false _ (Ext.add _ _) ⟨fun z => (by cases z), fun ⟨_, z⟩ => ?_⟩
          rw [spl, List.nodup_append] at z
          exact absurd rfl (z.2.2 p (of_decide_eq_true c3) p List.mem_cons_self)
        · have c3 := of_decide_eq_false c3
          repeat walk_at "wp1"
          refine w_setK (get_new _ _) rfl ?_ ?_
          · unfold seenD
            simp [sizeL]
            omega
          have hlen : (os.take i).length = i := by
            have hl := (List.getElem?_eq_some_iff.mp hp).1
            simp; omega
          refine ⟨?_, ?_, ?_, some (.int p), rfl⟩
          · rw [set_new, take_succ hp]
            congr 2
            rw [← seen_put (v := fun _ => D.bl true) c3]
          · rw [take_succ hp]
            intro q hq
            rcases List.mem_append.mp hq with z | z
            · exact hin q z
            · simp at z
              subst z
              have a1 := of_decide_eq_false c
              have a2 := of_decide_eq_false c2
              rw [List.length_map] at a2
              omega
          · rw [take_succ hp, List.nodup_append]
            refine ⟨hnd, by simp, ?_⟩
            intro a ha b hb
            simp at hb
            subst hb
            rintro rfl
            exact c3 ha
  · rintro σ G' ⟨rfl, hin, hnd, y, rfl⟩
    rw [List.length_map, List.take_length] at *
    repeat walk_at "wp1"
    exact h true _ (Ext.add _ _) ⟨fun _ => ⟨hin, hnd⟩, fun _ => rfl⟩
  · intro p hp; simp at hp
  · simp

def Std (ws : List Wk) (os : List Int) (k : Nat) (w : Wk) : Prop := (w.en.isSome = true → (k : Int) ∈ os) ∧ ¬ (w.rd = true ∧ w.en.isSome = false ∧ (k : Int) ∈ os)
theorem r_stand_rightly (hw : G[lw]? = some (.lst (ws.map wD))) (ho : G[lo]? = some (.lst (os.map D.int)))
    (h : ∀ b, (b = true ↔ ∀ (k : Nat) w, ws[k]? = some w → Std ws os k w) → Q (.bl b) G) : run (c_stand_rightly [.ref lw, .ref lo]) G Q E := by
  walk_at "fn_in"
  unfold k_stand_rightly
  repeat walk_at "wp1"
  refine w_enumL hw ?_
  have hin : ∀ p : Int, inG G (.int p) (.ref lo) = some (decide (p ∈ os)) := fun p => by
    unfold inG
    dsimp only
    rw [ho]
    exact mem_ints
  refine w_forL (fun i σ G' => G' = G ∧ (∀ (k : Nat) w, k < i → ws[k]? = some w → Std ws os k w) ∧ ∃ x y, σ = [some (.ref lw), some (.ref lo), x, y]) ?_ ?_ ?_ (enumD (ws.map wD)) 0 _ _ rfl (Nat.zero_le _) ⟨rfl, (fun k w z => absurd z (Nat.not_lt_zero _)), none, none, rfl⟩
  · rintro i σ G' ⟨rfl, _⟩
    exact decide_eq_true hw
  · rintro i x σ G' hx ⟨rfl, hP, _, _, rfl⟩
    obtain ⟨z, hz, rfl⟩ := enumD_get hx
    obtain ⟨w, hwi, rfl⟩ := map_get hz
    have step : Std ws os i w → ∀ (k : Nat) w, k < i + 1 → ws[k]? = some w → Std ws os k w := fun s k w' hk hk2 => by
      rcases Nat.lt_or_ge k i with a | a
      · exact hP k w' a hk2
      · have : k = i := by omega
        subst this
        rw [hwi] at hk2
        cases hk2
        exact s
    have done : Std ws os i w → ∀ p1 p2 : Option D, G' = G' ∧ (∀ (k : Nat) w, k < i + 1 → ws[k]? = some w → Std ws os k w) ∧ ∃ x y, [some (D.ref lw), some (D.ref lo), p1, p2] = [some (D.ref lw), some (D.ref lo), x, y] := fun s _ _ => ⟨rfl, step s, _, _, rfl⟩
    repeat walk_at "wp1"
    refine r_has_ended ?_
    repeat walk_at "wp1"
    cases e1 : w.en.isSome with
    | true =>
      repeat walk_at "wp1"
      refine w_notIn (hin _) ?_
      repeat walk_at "wp1"
      refine w_ite (fun c => ?_) fun c => ?_
      · repeat walk_at "wp1"
        refine h false ⟨fun z => (by cases z), fun z => ?_⟩
        have := (z i w hwi).1 e1
        simp [this] at c
      · repeat walk_at "wp1"
        have c : (i : Int) ∈ os := by simpa using c
        refine r_is_read ?_
        repeat walk_at "wp1"
        cases e2 : w.rd with
        | true =>
          repeat walk_at "wp1"
          refine r_has_ended ?_
          repeat walk_at "wp1"
          rw [e1]
          repeat walk_at "wp1"
          exact done ⟨fun _ => c, fun z => by rw [e1] at z; cases z.2.1⟩ _ _
        | false =>
          repeat walk_at "wp1"
          exact done ⟨fun _ => c, fun z => by rw [e1] at z; cases z.2.1⟩ _ _
    | false =>
      repeat walk_at "wp1"
      refine r_is_read ?_
      repeat walk_at "wp1"
      cases e2 : w.rd with
      | true =>
        repeat walk_at "wp1"
        refine r_has_ended ?_
        repeat walk_at "wp1"
        rw [e1]
        repeat walk_at "wp1"
        refine w_in (hin _) ?_
        repeat walk_at "wp1"
        refine w_ite (fun c => ?_) fun c => ?_
        · repeat walk_at "wp1"
          refine h false ⟨fun z => (by cases z), fun z => ?_⟩
          exact absurd ⟨e2, e1, of_decide_eq_true c⟩ (z i w hwi).2
        · repeat walk_at "wp1"
          exact done ⟨fun z => (by rw [e1] at z; cases z), fun z => of_decide_eq_false c z.2.2⟩ _ _
      | false =>
        repeat walk_at "wp1"
        exact done ⟨fun z => (by rw [e1] at z; cases z), fun z => (by rw [e2] at z; cases z.1)⟩ _ _
  · rintro σ G' ⟨rfl, hP, _, _, rfl⟩
    repeat walk_at "wp1"
    refine h true ⟨fun _ k w hk => hP k w ?_ hk, fun _ => rfl⟩
    have := enumD_len (xs := ws.map wD)
    rw [List.length_map] at this
    show k < (enumD (ws.map wD)).length
    rw [this]
    exact (List.getElem?_eq_some_iff.mp hk).1
/-- the work at a place -/
def gw (ws : List Wk) (p : Int) : Wk := ws.getD p.toNat default
theorem gw_get (hr : InR ws os) {p : Int} (hp : p ∈ os) : ws[p.toNat]? = some (gw ws p) := by
  obtain ⟨h0, h1⟩ := hr p hp
  have hl : p.toNat < ws.length := by omega
  unfold gw
  rw [List.getD_eq_getElem?_getD, List.getElem?_eq_getElem hl]
  rfl
theorem w_gw (hr : InR ws os) {p : Int} (hp : p ∈ os) (hw : G[lw]? = some (.lst (ws.map wD))) (h : Q (wD (gw ws p)) G) : run (oIx (.ref lw) (.int p)) G Q E :=
  w_ixL hw (atI_mapI (hr p hp).1 (gw_get hr hp)) h
theorem cut_from {xs : List D} {k : Nat} : cutD xs (some (k : Int)) none = xs.drop k := by
  unfold cutD sIx
  dsimp only
  rw [if_neg (by omega), Int.toNat_natCast]
  rcases Nat.lt_or_ge k xs.length with h | h
  · rw [Nat.min_eq_left (Nat.le_of_lt h), List.take_of_length_le]
    simp
  · rw [Nat.min_eq_right h, List.drop_eq_nil_of_le h]
    simp
theorem cut_to {xs : List D} {k : Nat} : cutD xs none (some (k : Int)) = xs.take k := by
  unfold cutD sIx
  dsimp only
  rw [if_neg (by omega), Int.toNat_natCast, List.drop_zero, Nat.sub_zero]
  rcases Nat.lt_or_ge k xs.length with h | h
  · rw [Nat.min_eq_left (Nat.le_of_lt h)]
  · rw [Nat.min_eq_right h, List.take_length, List.take_of_length_le h]
def KT (ws : List Wk) (os : List Int) : Prop := ∀ (i j : Nat) p q, i < j → os[i]? = some p → os[j]? = some q → eb (gw ws q) (gw ws p) = false
theorem r_keeps_time (hr : InR ws os) (hw : G[lw]? = some (.lst (ws.map wD))) (ho : G[lo]? = some (.lst (os.map D.int)))
    (h : ∀ b G', Ext G G' → (b = true ↔ KT ws os) → Q (.bl b) G') : run (c_keeps_time [.ref lw, .ref lo]) G Q E := by
  walk_at "fn_in"
  unfold k_keeps_time
  repeat walk_at "wp1"
  refine w_enumL ho ?_
  refine w_forL (fun i σ G' => Ext G G' ∧ (∀ (a b : Nat) p q, a < i → a < b → os[a]? = some p → os[b]? = some q → eb (gw ws q) (gw ws p) = false) ∧ ∃ x y z, σ = [some (.ref lw), some (.ref lo), x, y, z]) ?_ ?_ ?_ (enumD (os.map D.int)) 0 _ _ rfl (Nat.zero_le _) ⟨Ext.refl _, (fun a b p q z => absurd z (Nat.not_lt_zero _)), none, none, none, rfl⟩
  · rintro i σ G' ⟨ex, _⟩
    exact decide_eq_true (ex.get ho)
  · rintro i x σ G' hx ⟨ex, hP, _, _, z0, rfl⟩
    obtain ⟨z, hz, rfl⟩ := enumD_get hx
    obtain ⟨p, hp, rfl⟩ := map_get hz
    repeat walk_at "wp1"
    refine w_slL (ex.get ho) ?_
    repeat walk_at "wp1"
    have ec : cutD (os.map D.int) (some ((i : Int) + 1)) none = (os.drop (i + 1)).map D.int := by
      rw [show ((i : Int) + 1) = ((i + 1 : Nat) : Int) by push_cast; rfl, cut_from, List.map_drop]
    rw [ec]
    have ex2 : Ext G (G' ++ [O.lst ((os.drop (i + 1)).map D.int)]) := ex.trans (Ext.add _ _)
    refine w_srcL (get_new _ _) ?_
    refine w_forL (fun j σ G'' => G'' = G' ++ [O.lst ((os.drop (i + 1)).map D.int)] ∧ (∀ (b : Nat) q, b < j → (os.drop (i + 1))[b]? = some q → eb (gw ws q) (gw ws p) = false) ∧ ∃ z, σ = [some (.ref lw), some (.ref lo), some (.int (i : Int)), some (.int p), z]) ?_ ?_ ?_ ((os.drop (i + 1)).map D.int) 0 _ _ rfl (Nat.zero_le _) ⟨rfl, (fun b q z => absurd z (Nat.not_lt_zero _)), z0, rfl⟩
    · rintro j σ G'' ⟨rfl, _⟩
      exact decide_eq_true (get_new _ _)
    · rintro j x σ G'' hx ⟨rfl, hJ, _, rfl⟩
      obtain ⟨q, hq, rfl⟩ := map_get hx
      have hq2 : os[i + 1 + j]? = some q := by rw [List.getElem?_drop] at hq; exact hq
      repeat walk_at "wp1"
      refine w_gw hr (List.mem_of_getElem? hq2) (ex2.get hw) ?_
      repeat walk_at "wp1"
      refine w_gw hr (List.mem_of_getElem? hp) (ex2.get hw) ?_
      repeat walk_at "wp1"
      refine r_ended_before ?_
      repeat walk_at "wp1"
      cases e : eb (gw ws q) (gw ws p) with
      | true =>
        repeat walk_at "wp1"
        refine h false _ ex2 ⟨fun z => (by cases z), fun z => ?_⟩
        rw [z i (i + 1 + j) p q (by omega) hp hq2] at e
        cases e
      | false =>
        repeat walk_at "wp1"
        refine ⟨rfl, fun b q' hb hb2 => ?_, _, rfl⟩
        rcases Nat.lt_or_ge b j with a | a
        · exact hJ b q' a hb2
        · have : b = j := by omega
          subst this
          rw [hq] at hb2
          cases hb2
          exact e
    · rintro σ G'' ⟨rfl, hJ, _, rfl⟩
      refine ⟨ex2, fun a b p' q ha hab h1 h2 => ?_, _, _, _, rfl⟩
      rcases Nat.lt_or_ge a i with c | c
      · exact hP a b p' q c hab h1 h2
      · have : a = i := by omega
        subst this
        rw [hp] at h1
        cases h1
        have h3 : (os.drop (a + 1))[b - (a + 1)]? = some q := by rw [List.getElem?_drop, show a + 1 + (b - (a + 1)) = b by omega]; exact h2
        refine hJ _ q ?_ h3
        have := (List.getElem?_eq_some_iff.mp h3).1
        simpa using this
  · rintro σ G' ⟨ex, hP, _, _, _, rfl⟩
    repeat walk_at "wp1"
    refine h true _ ex ⟨fun _ a b p q hab h1 h2 => hP a b p q ?_ hab h1 h2, fun _ => rfl⟩
    have := enumD_len (xs := os.map D.int)
    rw [List.length_map] at this
    show a < (enumD (os.map D.int)).length
    rw [this]
    exact (List.getElem?_eq_some_iff.mp h1).1
/-- what the last write ahead left -/
def lastW (ws : List Wk) (os : List Int) : Option Int := os.foldl (fun v p => if (gw ws p).rd then v else (gw ws p).val) (some 0)
def RR (ws : List Wk) (os : List Int) : Prop := ∀ (i : Nat) p, os[i]? = some p → (gw ws p).rd = true → (gw ws p).val = lastW ws (os.take i)
theorem lastW_snoc {p : Int} : lastW ws (os ++ [p]) = if (gw ws p).rd then lastW ws os else (gw ws p).val := by
  unfold lastW
  rw [List.foldl_append]
  rfl
theorem r_reads_are_right (hr : InR ws os) (hw : G[lw]? = some (.lst (ws.map wD))) (ho : G[lo]? = some (.lst (os.map D.int)))
    (h : ∀ b, (b = true ↔ RR ws os) → Q (.bl b) G) : run (c_reads_are_right [.ref lw, .ref lo]) G Q E := by
  walk_at "fn_in"
  unfold k_reads_are_right
  repeat walk_at "wp1"
  refine w_srcL ho ?_
  refine w_forL (fun i σ G' => G' = G ∧ (∀ (a : Nat) p, a < i → os[a]? = some p → (gw ws p).rd = true → (gw ws p).val = lastW ws (os.take a)) ∧ ∃ x y, σ = [some (.ref lw), some (.ref lo), some (oD (lastW ws (os.take i))), x, y]) ?_ ?_ ?_ (os.map D.int) 0 _ _ rfl (Nat.zero_le _) ⟨rfl, (fun a p z => absurd z (Nat.not_lt_zero _)), none, none, rfl⟩
  · rintro i σ G' ⟨rfl, _⟩
    exact decide_eq_true ho
  · rintro i x σ G' hx ⟨rfl, hP, _, _, rfl⟩
    obtain ⟨p, hp, rfl⟩ := map_get hx
    have step : ((gw ws p).rd = true → (gw ws p).val = lastW ws (os.take i)) → ∀ (a : Nat) p, a < i + 1 → os[a]? = some p → (gw ws p).rd = true → (gw ws p).val = lastW ws (os.take a) := fun s a q ha h1 => by
      rcases Nat.lt_or_ge a i with c | c
      · exact hP a q c h1
      · have : a = i := by omega
        subst this
        rw [hp] at h1
        cases h1
        exact s
    repeat walk_at "wp1"
    refine w_gw hr (List.mem_of_getElem? hp) hw ?_
    repeat walk_at "wp1"
    refine r_is_read ?_
    repeat walk_at "wp1"
    cases e : (gw ws p).rd with
    | false =>
      repeat walk_at "wp1"
      unfold wD
      repeat walk_at "wp1"
      refine ⟨rfl, step (fun z => (by rw [e] at z; cases z)), some (.int p), some (wD (gw ws p)), ?_⟩
      have el : lastW ws (os.take (i + 1)) = (gw ws p).val := by rw [take_succ hp, lastW_snoc, e]; rfl
      rw [el]
      rfl
    | true =>
      repeat walk_at "wp1"
      unfold wD
      repeat walk_at "wp1"
      refine w_ne (oD_eq _ _) ?_
      repeat walk_at "wp1"
      refine w_ite (fun c => ?_) fun c => ?_
      · repeat walk_at "wp1"
        refine h false ⟨fun z => (by cases z), fun z => ?_⟩
        have := z i p hp e
        rw [decide_eq_true this] at c
        cases c
      · repeat walk_at "wp1"
        have c : (gw ws p).val = lastW ws (os.take i) := by simpa using c
        refine ⟨rfl, step (fun _ => c), some (.int p), some (wD (gw ws p)), ?_⟩
        have el : lastW ws (os.take (i + 1)) = lastW ws (os.take i) := by rw [take_succ hp, lastW_snoc, e]; rfl
        rw [el]
        rfl
  · rintro σ G' ⟨rfl, hP, _, _, rfl⟩
    repeat walk_at "wp1"
    refine h true ⟨fun _ a p h1 => hP a p ?_ h1, fun _ => rfl⟩
    rw [List.length_map]
    exact (List.getElem?_eq_some_iff.mp h1).1
/-- the order explains the works -/
def Expl (ws : List Wk) (os : List Int) : Prop := InR ws os ∧ os.Nodup ∧ (∀ (k : Nat) w, ws[k]? = some w → Std ws os k w) ∧ KT ws os ∧ RR ws os
theorem r_explains (hw : G[lw]? = some (.lst (ws.map wD))) (ho : G[lo]? = some (.lst (os.map D.int))) (hz : os.length ≤ 100000)
    (h : ∀ b G', Ext G G' → (b = true ↔ Expl ws os) → Q (.bl b) G') : run (c_explains [.ref lw, .ref lo]) G Q E := by
  walk_at "fn_in"
  unfold k_explains
  repeat walk_at "wp1"
  refine r_are_places hw ho hz fun b1 G1 x1 h1 => ?_
  repeat walk_at "wp1"
  cases b1 with
  | false =>
    repeat walk_at "wp1"
    exact h false _ x1 ⟨fun z => (by cases z), fun z => h1.mpr ⟨z.1, z.2.1⟩⟩
  | true =>
    obtain ⟨hr, hn⟩ := h1.mp rfl
    repeat walk_at "wp1"
    refine r_stand_rightly (x1.get hw) (x1.get ho) fun b2 h2 => ?_
    repeat walk_at "wp1"
    cases b2 with
    | false =>
      repeat walk_at "wp1"
      exact h false _ x1 ⟨fun z => (by cases z), fun z => h2.mpr z.2.2.1⟩
    | true =>
      repeat walk_at "wp1"
      refine r_keeps_time hr (x1.get hw) (x1.get ho) fun b3 G3 x3 h3 => ?_
      repeat walk_at "wp1"
      have xx := x1.trans x3
      cases b3 with
      | false =>
        repeat walk_at "wp1"
        exact h false _ xx ⟨fun z => (by cases z), fun z => h3.mpr z.2.2.2.1⟩
      | true =>
        repeat walk_at "wp1"
        refine r_reads_are_right hr (xx.get hw) (xx.get ho) fun b4 h4 => ?_
        repeat walk_at "wp1"
        exact h b4 _ xx ⟨fun z => ⟨hr, hn, h2.mp rfl, h3.mp rfl, h4.mp z⟩, fun z => h4.mpr z.2.2.2.2⟩
/-! the law's own judge -/
theorem seen_look {v : Nat → D} {os : List Int} {j : Nat} {p : Int} (hn : os.Nodup) (hp : os[j]? = some p) : look (seenD v os) (.inl p) = some (v j) := by
  have e : (seenD v os)[j]? = some (.inl p, v j) := by unfold seenD; rw [List.getElem?_mapIdx, hp]; rfl
  unfold look
  have hf : (seenD v os).find? (fun kv => decide (kv.1 = (.inl p : Key))) = some (.inl p, v j) := by
    rw [List.find?_eq_some_iff_getElem]
    refine ⟨decide_eq_true rfl, j, (List.getElem?_eq_some_iff.mp e).1, (List.getElem?_eq_some_iff.mp e).2, fun k hk => ?_⟩
    have hkl : k < os.length := by
      have := (List.getElem?_eq_some_iff.mp hp).1
      omega
    have ek : (seenD v os)[k]? = some (.inl os[k], v k) := by unfold seenD; rw [List.getElem?_mapIdx, List.getElem?_eq_getElem hkl]; rfl
    have := (List.getElem?_eq_some_iff.mp ek).2
    rw [this]
    simp only [Bool.not_eq_true', decide_eq_false_iff_not, Sum.inl.injEq]
    intro z
    have hj := (List.getElem?_eq_some_iff.mp hp)
    obtain ⟨hjl, hje⟩ := hj
    have : k = j := (List.getElem_inj hn).mp (z.trans hje.symm)
    omega
  rw [hf]
  rfl
def Late (ws : List Wk) (os : List Int) (k : Nat) (w : Wk) : Prop := ∀ e, w.en = some e → (k : Int) ∈ os ∧ ∀ (x y : Nat) q, os[x]? = some q → os[y]? = some (k : Int) → e < (gw ws q).beg → ¬ x < y
def One (ws : List Wk) (os : List Int) : Prop := (∀ p ∈ os, (0 ≤ p ∧ p < (ws.length : Int)) ∧ ¬ ((gw ws p).rd = true ∧ (gw ws p).en = none)) ∧ os.Nodup ∧ (∀ (k : Nat) w, ws[k]? = some w → Late ws os k w) ∧ RR ws os
theorem one_iff (ws : List Wk) (os : List Int) : Expl ws os ↔ One ws os := by
  have gk : ∀ (k : Nat) w, ws[k]? = some w → gw ws (k : Int) = w := fun k w h => by
    unfold gw
    rw [Int.toNat_natCast, List.getD_eq_getElem?_getD, h]
    rfl
  constructor
  · rintro ⟨hr, hn, hs, hk, hv⟩
    refine ⟨fun p hp => ⟨hr p hp, fun z => ?_⟩, hn, fun k w hkw e he => ⟨(hs k w hkw).1 (by rw [he]; rfl), fun x y q h1 h2 h3 hxy => ?_⟩, hv⟩
    · have h1 := gw_get hr hp
      refine (hs _ _ h1).2 ⟨z.1, by rw [z.2]; rfl, ?_⟩
      rw [Int.toNat_of_nonneg (hr p hp).1]
      exact hp
    · have := hk x y q k hxy h1 h2
      rw [gk k w hkw] at this
      unfold eb at this
      rw [he] at this
      exact of_decide_eq_false this h3
  · rintro ⟨hp, hn, hl, hv⟩
    have hr : InR ws os := fun p h => (hp p h).1
    refine ⟨hr, hn, fun k w hkw => ⟨fun z => ?_, fun ⟨z1, z2, z3⟩ => ?_⟩, fun i j p q hij h1 h2 => ?_, hv⟩
    · obtain ⟨e, he⟩ := Option.isSome_iff_exists.mp z
      exact (hl k w hkw e he).1
    · refine (hp _ z3).2 ?_
      rw [gk k w hkw]
      refine ⟨z1, ?_⟩
      cases q : w.en with
      | none => rfl
      | some e => rw [q] at z2; cases z2
    · have hq := List.mem_of_getElem? h2
      have h3 := gw_get hr hq
      unfold eb
      cases e : (gw ws q).en with
      | none => rfl
      | some t =>
        refine decide_eq_false fun z => ?_
        refine (hl _ _ h3 t e).2 i j p h1 ?_ z hij
        rw [Int.toNat_of_nonneg (hr q hq).1]
        exact h2
theorem InR.of (h : ∀ p ∈ os, (0 ≤ p ∧ p < (ws.length : Int)) ∧ ¬ ((gw ws p).rd = true ∧ (gw ws p).en = none)) : InR ws os := fun p hp => (h p hp).1
theorem split_at {os : List Int} {i : Nat} {p : Int} (hp : os[i]? = some p) : os = os.take i ++ p :: os.drop (i + 1) := by
  obtain ⟨hl, e⟩ := List.getElem?_eq_some_iff.mp hp
  rw [← e, ← List.drop_eq_getElem_cons hl, List.take_append_drop]
theorem r_tst {σ : St} {p : Int} {w : Wk} {QB : Bool → Hh → Prop} (e0 : σ[0]? = some (some (.ref lw))) (e4 : σ[4]? = some (some (.int p))) (ha : atI (ws.map wD) p = some (wD w)) (hw : G[lw]? = some (.lst (ws.map wD))) (h : QB (w.rd && w.en.isNone) G) :
    run (tAnd (tB (eOp oEq (eOp oIx (eOp oIx (eVar 0) (eVar 4)) (eC (.int 1))) (eC (.str "read")))) (tB (eUn oIsN (eOp oIx (eOp oIx (eVar 0) (eVar 4)) (eC (.int 4))))) σ) G QB E := by
  refine w_tAnd (w_tB (w_op (w_op (w_op (w_var e0 (w_var e4 (w_ixL hw ha (w_c ?_))))))))
  unfold wD
  repeat walk_at "wp1"
  refine w_eq (word_read _) ?_
  repeat walk_at "wp1"
  cases q : w.rd with
  | false => rw [q] at h; exact w_iteF h
  | true =>
    rw [q] at h
    refine w_iteT (w_tB (w_un (w_op (w_op (w_var e0 (w_var e4 (w_ixL hw ha (w_c ?_))))))))
    unfold wD
    repeat walk_at "wp1"
    rw [oD_non]
    exact h
theorem r_one_explains (hw : G[lw]? = some (.lst (ws.map wD))) (ho : G[lo]? = some (.lst (os.map D.int))) (hz : os.length ≤ 100000) (hz2 : ws.length ≤ 100000)
    (h : ∀ b G', Ext G G' → (b = true ↔ One ws os) → Q (.bl b) G') : run (c_one_explains [.ref lw, .ref lo]) G Q E := by
  walk_at "fn_in"
  unfold k_one_explains
  repeat walk_at "wp1"
  refine w_lenL ((Ext.add _ _).get ho) ?_
  with_reducible refine M3.w_rngLen (by rw [List.length_map]; omega) ?_
  rw [List.length_map]
  refine w_forR (fun i σ G' => G' = G ++ [.dK (seenD (fun j => .int (j : Int)) (os.take i))] ∧ (∀ p ∈ os.take i, (0 ≤ p ∧ p < (ws.length : Int)) ∧ ¬ ((gw ws p).rd = true ∧ (gw ws p).en = none)) ∧ (os.take i).Nodup ∧ ∃ a b, σ = [some (.ref lw), some (.ref lo), some (.ref G.length), a, b, none, none, none]) ?_ ?_ ⟨rfl, (fun p hp => by simp at hp), (by simp), none, none, rfl⟩
  · rintro i σ G' hi ⟨rfl, hin, hnd, _, _, rfl⟩
    have hp : os[i]? = some os[i] := List.getElem?_eq_getElem hi
    generalize os[i] = p at hp
    have hmem : p ∈ os := List.mem_of_getElem? hp
    have spl := split_at hp
    repeat walk_at "wp1"
    refine w_ixL ((Ext.add _ _).get ho) (atI_map hp) ?_
    repeat walk_at "wp1"
    refine r_whole ?_
    repeat walk_at "wp1"
    refine w_ite (fun c => ?_) fun c => ?_
    · repeat walk_at "wp1"
      refine h false _ (Ext.add _ _) ⟨fun z => (by cases z), fun z => ?_⟩
      have := (z.1 p hmem).1
      have := of_decide_eq_true c
      omega
    have c := of_decide_eq_false c
    repeat walk_at "wp1"
    refine w_lenL ((Ext.add _ _).get hw) ?_
    repeat walk_at "wp1"
    refine w_ite (fun c2 => ?_) fun c2 => ?_
    · repeat walk_at "wp1"
      refine h false _ (Ext.add _ _) ⟨fun z => (by cases z), fun z => ?_⟩
      have := (z.1 p hmem).1
      have := of_decide_eq_true c2
      rw [List.length_map] at this
      omega
    have c2 := of_decide_eq_false c2
    rw [List.length_map] at c2
    have hr1 : InR ws [p] := fun q hq => by
      simp at hq
      subst hq
      omega
    have hw1 : (G ++ [O.dK (seenD (fun j => .int (j : Int)) (os.take i))])[lw]? = some (.lst (ws.map wD)) := (Ext.add _ _).get hw
    refine w_nil ?_
    refine w_next ?_
    refine w_seq (w_sif (r_tst (p := p) rfl rfl (atI_mapI (hr1 p List.mem_cons_self).1 (gw_get hr1 List.mem_cons_self)) hw1 ?_))
    refine w_ite (fun c3 => ?_) fun c3 => ?_
    · repeat walk_at "wp1"
      refine h false _ (Ext.add _ _) ⟨fun z => (by cases z), fun z => ?_⟩
      refine absurd ?_ (z.1 p hmem).2
      rw [Bool.and_eq_true] at c3
      exact ⟨c3.1, by cases q : (gw ws p).en with
        | none => rfl
        | some e => rw [q] at c3; cases c3.2⟩
    have c3 : ¬ ((gw ws p).rd = true ∧ (gw ws p).en = none) := fun z => by rw [z.1, z.2] at c3; cases c3
    repeat walk_at "wp1"
    refine w_in (b := decide (p ∈ os.take i)) ?_ ?_
    · unfold inG
      dsimp only
      rw [get_new]
      show some (look (seenD (fun j => .int (j : Int)) (os.take i)) (.inl p)).isSome = _
      rw [seen_in]
    repeat walk_at "wp1"
    refine w_ite (fun c4 => ?_) fun c4 => ?_
    · repeat walk_at "wp1"
      refine h false _ (Ext.add _ _) ⟨fun z => (by cases z), fun z => ?_⟩
      have z := z.2.1
      rw [spl, List.nodup_append] at z
      exact absurd rfl (z.2.2 p (of_decide_eq_true c4) p List.mem_cons_self)
    · have c4 := of_decide_eq_false c4
      repeat walk_at "wp1"
      refine w_setK (get_new _ _) rfl ?_ ?_
      · unfold seenD
        simp [sizeL]
        omega
      have hlen : (os.take i).length = i := by simp; omega
      refine ⟨?_, ?_, ?_, _, _, rfl⟩
      · rw [set_new, take_succ hp]
        congr 2
        rw [← seen_put (v := fun j => D.int (j : Int)) c4, hlen]
      · rw [take_succ hp]
        intro q hq
        rcases List.mem_append.mp hq with z | z
        · exact hin q z
        · simp at z
          subst z
          exact ⟨by omega, c3⟩
      · rw [take_succ hp, List.nodup_append]
        refine ⟨hnd, by simp, ?_⟩
        intro a ha b hb
        simp at hb
        subst hb
        rintro rfl
        exact c4 ha
  · rintro σ G' ⟨rfl, hin, hnd, a0, b0, rfl⟩
    rw [List.take_length] at *
    have hr := InR.of hin
    have hw1 : (G ++ [O.dK (seenD (fun j => .int (j : Int)) os)])[lw]? = some (.lst (ws.map wD)) := (Ext.add _ _).get hw
    have ho1 : (G ++ [O.dK (seenD (fun j => .int (j : Int)) os)])[lo]? = some (.lst (os.map D.int)) := (Ext.add _ _).get ho
    have hd1 : (G ++ [O.dK (seenD (fun j => .int (j : Int)) os)])[G.length]? = some (.dK (seenD (fun j => .int (j : Int)) os)) := get_new _ _
    have x1 : Ext G (G ++ [O.dK (seenD (fun j => .int (j : Int)) os)]) := Ext.add _ _
    generalize hG1 : G ++ [O.dK (seenD (fun j => .int (j : Int)) os)] = G1 at hw1 ho1 hd1 x1
    generalize G.length = dl at hd1
    repeat walk_at "wp1"
    refine w_lenL hw1 ?_
    with_reducible refine M3.w_rngLen (by rw [List.length_map]; omega) ?_
    rw [List.length_map]
    refine w_forR (fun i σ G' => G' = G1 ∧ (∀ (k : Nat) w, k < i → ws[k]? = some w → Late ws os k w) ∧ ∃ a b c e, σ = [some (.ref lw), some (.ref lo), some (.ref dl), a, b, c, e, none]) ?_ ?_ ⟨rfl, (fun k w z => absurd z (Nat.not_lt_zero _)), _, _, _, _, rfl⟩
    · rintro i σ G' hi ⟨eg, hP, a, _, c, e0, rfl⟩
      have eg := eg.symm
      subst eg
      have hwi : ws[i]? = some ws[i] := List.getElem?_eq_getElem hi
      generalize ws[i] = w at hwi
      have step : Late ws os i w → ∀ (k : Nat) w, k < i + 1 → ws[k]? = some w → Late ws os k w := fun s k w' hk hk2 => by
        rcases Nat.lt_or_ge k i with a | a
        · exact hP k w' a hk2
        · have : k = i := by omega
          subst this
          rw [hwi] at hk2
          cases hk2
          exact s
      repeat walk_at "wp1"
      refine w_ixL hw1 (atI_map hwi) ?_
      unfold wD
      repeat walk_at "wp1"
      rw [oD_non]
      cases he : w.en with
      | none =>
        repeat walk_at "wp1"
        exact ⟨rfl, step (fun e z => by rw [he] at z; cases z), _, _, _, _, rfl⟩
      | some t =>
        repeat walk_at "wp1"
        refine w_iteNF ?_
        repeat walk_at "wp1"
        refine w_notIn (b := decide ((i : Int) ∈ os)) ?_ ?_
        · unfold inG
          dsimp only
          rw [hd1]
          show some (look (seenD (fun j => .int (j : Int)) os) (.inl (i : Int))).isSome = _
          rw [seen_in]
        repeat walk_at "wp1"
        refine w_ite (fun c1 => ?_) fun c1 => ?_
        · repeat walk_at "wp1"
          refine h false _ x1 ⟨fun z => (by cases z), fun z => ?_⟩
          rw [decide_eq_true (z.2.2.1 i w hwi t he).1] at c1
          cases c1
        have c1 : (i : Int) ∈ os := by simpa using c1
        obtain ⟨y, hyl, hye⟩ := List.getElem_of_mem c1
        have hy : os[y]? = some (i : Int) := by rw [List.getElem?_eq_getElem hyl, hye]
        repeat walk_at "wp1"
        refine w_srcL ho1 ?_
        refine w_forS (fun j σ G' => G' = G1 ∧ (∀ (x : Nat) q, x < j → os[x]? = some q → t < (gw ws q).beg → ¬ x < y) ∧ ∃ c e, σ = [some (.ref lw), some (.ref lo), some (.ref dl), a, some (.int (i : Int)), c, e, none]) ?_ ?_ ?_ ⟨rfl, (fun x q z => absurd z (Nat.not_lt_zero _)), _, _, rfl⟩
        · rintro j σ G' ⟨rfl, _⟩
          exact decide_eq_true ho1
        · rintro j q σ G' hq ⟨rfl, hJ, _, _, rfl⟩
          have stepj : (t < (gw ws q).beg → ¬ j < y) → ∀ (x : Nat) q, x < j + 1 → os[x]? = some q → t < (gw ws q).beg → ¬ x < y := fun s x q' hx hx2 => by
            rcases Nat.lt_or_ge x j with a | a
            · exact hJ x q' a hx2
            · have : x = j := by omega
              subst this
              rw [hq] at hx2
              cases hx2
              exact s
          repeat walk_at "wp1"
          refine w_gw hr (List.mem_of_getElem? hq) hw1 ?_
          unfold wD
          repeat walk_at "wp1"
          refine w_ixL hw1 (atI_map hwi) ?_
          unfold wD
          rw [he]
          repeat walk_at "wp1"
          show run (oGt (.int (gw ws q).beg) (.int t)) _ _ _
          repeat walk_at "wp1"
          refine w_ite (fun c2 => ?_) fun c2 => ?_
          · have c2 := of_decide_eq_true c2
            repeat walk_at "wp1"
            refine w_ixK hd1 rfl (seen_look hnd hq) ?_
            repeat walk_at "wp1"
            refine w_ixK hd1 rfl (seen_look hnd hy) ?_
            repeat walk_at "wp1"
            refine w_ite (fun c3 => ?_) fun c3 => ?_
            · have c3 := of_decide_eq_true c3
              repeat walk_at "wp1"
              refine h false _ x1 ⟨fun z => (by cases z), fun z => ?_⟩
              exact absurd (show j < y by omega) ((z.2.2.1 i w hwi t he).2 j y q hq hy c2)
            · have c3 := of_decide_eq_false c3
              repeat walk_at "wp1"
              exact ⟨rfl, stepj (fun _ => by omega), _, _, rfl⟩
          · have c2 := of_decide_eq_false c2
            repeat walk_at "wp1"
            exact ⟨rfl, stepj (fun z => absurd z c2), _, _, rfl⟩
        · rintro σ G' ⟨rfl, hJ, _, _, rfl⟩
          refine ⟨rfl, step ?_, _, _, _, _, rfl⟩
          intro e' z
          rw [he] at z
          cases z
          refine ⟨c1, fun x y' q h1 h2 h3 => ?_⟩
          have hyy : y' = y := by
            obtain ⟨l1, e1⟩ := List.getElem?_eq_some_iff.mp h2
            exact (List.getElem_inj hnd).mp (e1.trans hye.symm)
          subst hyy
          exact hJ x q (List.getElem?_eq_some_iff.mp h1).1 h1 h3
    · rintro σ G' ⟨eg, hL, a, b, c, e0, rfl⟩
      have eg := eg.symm
      subst eg
      have hL' : ∀ (k : Nat) w, ws[k]? = some w → Late ws os k w := fun k w hk => hL k w (List.getElem?_eq_some_iff.mp hk).1 hk
      repeat walk_at "wp1"
      refine w_lenL ho1 ?_
      with_reducible refine M3.w_rngLen (by rw [List.length_map]; omega) ?_
      rw [List.length_map]
      refine w_forR (fun i σ G' => Ext G1 G' ∧ (∀ (x : Nat) p, x < i → os[x]? = some p → (gw ws p).rd = true → (gw ws p).val = lastW ws (os.take x)) ∧ ∃ a b f, σ = [some (.ref lw), some (.ref lo), some (.ref dl), a, b, c, e0, f]) ?_ ?_ ⟨Ext.refl _, (fun k w z => absurd z (Nat.not_lt_zero _)), _, _, _, rfl⟩
      · rintro i σ G' hi ⟨ex, hP, _, b', f', rfl⟩
        have hp : os[i]? = some os[i] := List.getElem?_eq_getElem hi
        generalize os[i] = p at hp
        have step : ((gw ws p).rd = true → (gw ws p).val = lastW ws (os.take i)) → ∀ (a : Nat) p, a < i + 1 → os[a]? = some p → (gw ws p).rd = true → (gw ws p).val = lastW ws (os.take a) := fun s a q ha h1 => by
          rcases Nat.lt_or_ge a i with c | c
          · exact hP a q c h1
          · have : a = i := by omega
            subst this
            rw [hp] at h1
            cases h1
            exact s
        repeat walk_at "wp1"
        refine w_ixL (ex.get ho1) (atI_map hp) ?_
        repeat walk_at "wp1"
        refine w_gw hr (List.mem_of_getElem? hp) (ex.get hw1) ?_
        unfold wD
        repeat walk_at "wp1"
        refine w_eq (word_read _) ?_
        repeat walk_at "wp1"
        cases e1 : (gw ws p).rd with
        | false =>
          repeat walk_at "wp1"
          exact ⟨ex, step (fun z => by rw [e1] at z; cases z), _, _, _, rfl⟩
        | true =>
          repeat walk_at "wp1"
          refine w_slL (ex.get ho1) ?_
          repeat walk_at "wp1"
          rw [cut_to, ← List.map_take]
          have ex2 : Ext G1 (G' ++ [O.lst ((os.take i).map D.int)]) := ex.trans (Ext.add _ _)
          refine w_srcL (get_new _ _) ?_
          refine w_forS (fun j σ G'' => G'' = G' ++ [O.lst ((os.take i).map D.int)] ∧ ∃ b, σ = [some (.ref lw), some (.ref lo), some (.ref dl), some (.int (i : Int)), b, c, e0, some (oD (lastW ws ((os.take i).take j)))]) ?_ ?_ ?_ ⟨rfl, _, rfl⟩
          · rintro j σ G'' ⟨rfl, _⟩
            exact decide_eq_true (get_new _ _)
          · rintro j q σ G'' hq ⟨rfl, _, rfl⟩
            have hq2 : q ∈ os := List.mem_of_mem_take (List.mem_of_getElem? hq)
            repeat walk_at "wp1"
            refine w_gw hr hq2 (ex2.get hw1) ?_
            unfold wD
            repeat walk_at "wp1"
            refine w_eq (word_write _) ?_
            repeat walk_at "wp1"
            cases e2 : (gw ws q).rd with
            | false =>
              repeat walk_at "wp1"
              refine w_gw hr hq2 (ex2.get hw1) ?_
              unfold wD
              repeat walk_at "wp1"
              have el : lastW ws ((os.take i).take (j + 1)) = (gw ws q).val := by rw [take_succ hq, lastW_snoc, e2]; rfl
              refine ⟨rfl, some (.int q), ?_⟩
              rw [el]
              rfl
            | true =>
              repeat walk_at "wp1"
              have el : lastW ws ((os.take i).take (j + 1)) = lastW ws ((os.take i).take j) := by rw [take_succ hq, lastW_snoc, e2]; rfl
              refine ⟨rfl, some (.int q), ?_⟩
              rw [el]
              rfl
          · rintro σ G'' ⟨rfl, _, rfl⟩
            rw [List.take_length]
            repeat walk_at "wp1"
            refine w_ixL (ex2.get ho1) (atI_map hp) ?_
            repeat walk_at "wp1"
            refine w_gw hr (List.mem_of_getElem? hp) (ex2.get hw1) ?_
            unfold wD
            repeat walk_at "wp1"
            refine w_ne (oD_eq _ _) ?_
            repeat walk_at "wp1"
            refine w_ite (fun c1 => ?_) fun c1 => ?_
            · repeat walk_at "wp1"
              refine h false _ (x1.trans ex2) ⟨fun z => (by cases z), fun z => ?_⟩
              rw [decide_eq_true (z.2.2.2 i p hp e1)] at c1
              cases c1
            · repeat walk_at "wp1"
              have c1 : (gw ws p).val = lastW ws (os.take i) := by simpa using c1
              exact ⟨ex2, step (fun _ => c1), _, _, _, rfl⟩
      · rintro σ G' ⟨ex, hP, _, _, _, rfl⟩
        repeat walk_at "wp1"
        exact h true _ (x1.trans ex) ⟨fun _ => ⟨hin, hnd, hL', fun x p hx => hP x p (List.getElem?_eq_some_iff.mp hx).1 hx⟩, fun _ => rfl⟩
end
end KS

namespace KH
open PySem M3
/-- what stood stands -/
def Kp (G G' : Hh) : Prop := G.length ≤ G'.length ∧ ∀ (n : Nat) o, G[n]? = some o → G'[n]? = some o
theorem Kp.refl (G : Hh) : Kp G G := ⟨Nat.le_refl _, fun _ _ h => h⟩
theorem Kp.trans {A B C : Hh} (a : Kp A B) (b : Kp B C) : Kp A C := ⟨Nat.le_trans a.1 b.1, fun n o h => b.2 n o (a.2 n o h)⟩
theorem Kp.get {A B : Hh} (a : Kp A B) {n : Nat} {o : O} (h : A[n]? = some o) : B[n]? = some o := a.2 n o h
theorem Ext.kp {A B : Hh} (a : Ext A B) : Kp A B := ⟨by obtain ⟨r, rfl⟩ := a; simp, fun _ _ h => a.get h⟩
theorem Kp.add (G : Hh) (o : O) : Kp G (G ++ [o]) := (Ext.add G o).kp
theorem Kp.set {A B : Hh} (a : Kp A B) {l : Nat} {o : O} (h : A.length ≤ l) : Kp A (B.set l o) := ⟨by rw [List.length_set]; exact a.1, fun n p hn => by
  have := (List.getElem?_eq_some_iff.mp hn).1
  rw [List.getElem?_set_ne (by omega)]
  exact a.2 n p hn⟩
theorem set_self {G : Hh} {l : Nat} {o o' : O} (h : G[l]? = some o) : (G.set l o')[l]? = some o' := List.getElem?_set_self (List.getElem?_eq_some_iff.mp h).1
theorem set_other {G : Hh} {l n : Nat} {o o' : O} (hn : n ≠ l) (h : G[n]? = some o) : (G.set l o')[n]? = some o := by
  rw [List.getElem?_set_ne (Ne.symm hn)]; exact h
end KH
namespace KS
open PySem M3 KC KH
section
variable {G : Hh} {Q : D → Hh → Prop} {E : Nat → Hh → Prop}
theorem atI_ints {xs : List Int} {i : Int} (h0 : 0 ≤ i) (h1 : i < (xs.length : Int)) : atI (xs.map D.int) i = some (.int (xs.getD i.toNat 0)) := by
  unfold atI M3.ixN
  have hl : i.toNat < xs.length := by omega
  rw [if_pos h0, List.length_map, if_pos h1]
  simp [hl]
theorem mod_in (x : Int) {n : Int} (h : 0 < n) : 0 ≤ x % n ∧ x % n < n := ⟨Int.emod_nonneg _ (by omega), Int.emod_lt_of_pos _ h⟩
theorem r_at {l : Nat} {ns : List Int} {i : Nat} (hl : G[l]? = some (.frz (ns.map D.int))) (h : Q (.int (ns.getD i 0)) G) : run (c_at [.ref l, .int i]) G Q E := by
  walk_at "fn_in"
  unfold k_at
  repeat walk_at "wp1"
  refine w_lenF hl ?_
  repeat walk_at "wp1"
  refine w_ite (fun c => ?_) fun c => ?_
  · have c' : (i : Int) < (ns.length : Int) := by simpa using c
    repeat walk_at "wp1"
    refine w_ixF hl (atI_ints (Int.natCast_nonneg _) c') ?_
    repeat walk_at "wp1"
    exact h
  · have c' : ns.length ≤ i := by simpa using c
    repeat walk_at "wp1"
    rw [show ns.getD i 0 = 0 by simp [c']] at h
    exact h
theorem r_room {l : Nat} {ns : List Int} {a b : Int} (hl : G[l]? = some (.frz (ns.map D.int))) (hn : ns.length ≤ 63) (h : Q (.int a) G) : run (c_room [.ref l, .int a, .int b]) G Q E := by
  walk_at "fn_in"
  unfold k_room
  repeat walk_at "wp1"
  refine w_lenF hl ?_
  repeat walk_at "wp1"
  refine w_ite (fun c => ?_) fun c => ?_
  · rw [List.length_map] at c
    have := of_decide_eq_true c
    omega
  · repeat walk_at "wp1"
    exact h
theorem two_at {a b : D} {i : Int} (h0 : 0 ≤ i) (h1 : i < 2) : atI [a, b] i = some (if i = 0 then a else b) := by
  rcases (show i = 0 ∨ i = 1 by omega) with rfl | rfl <;> rfl
theorem r_works_by {lc : Nat} {cs : List Int} (hc : G[lc]? = some (.lst (cs.map D.int))) (hz : cs.length ≤ 150)
    (h : ∀ l ws G', Kp G G' → G.length ≤ l → G'[l]? = some (.lst (List.map wD ws)) → ws.length ≤ 150 → Q (.ref l) G') : run (c_works_by [.ref lc]) G Q E := by
  walk_at "fn_in"
  unfold k_works_by
  repeat walk_at "wp1"
  refine w_lenL ((Ext.add _ _).get hc) ?_
  with_reducible refine M3.w_rngLen (by rw [List.length_map]; omega) ?_
  rw [List.length_map]
  refine w_forR (fun i σ G' => Kp G G' ∧ (∃ ws : List Wk, ws.length = i ∧ G'[G.length]? = some (.lst (ws.map wD))) ∧ ∃ (t v : Int) (a b c e : Option D), σ = [some (.ref lc), some (.ref G.length), some (.int t), some (.int v), a, b, c, e]) ?_ ?_ ⟨Kp.add _ _, ⟨[], rfl, get_new _ _⟩, 0, 0, none, none, none, none, rfl⟩
  · rintro i σ G' hi ⟨kp, ⟨ws, hwl, hws⟩, t, v, _, _, _, e0, rfl⟩
    have hci : cs[i]? = some cs[i] := List.getElem?_eq_getElem hi
    generalize cs[i] = c0 at hci
    repeat walk_at "wp1"
    refine w_ixL (kp.get hc) (atI_map hci) ?_
    repeat walk_at "wp1"
    refine w_eq (by rfl) ?_
    repeat walk_at "wp1"
    generalize hc1 : c0 + 7 * (i : Int) = cl
    generalize hT : t + 1 + cl * 48271 % 1009 % 3 = T
    -- the end
    have key : ∀ en : Option Int, run (sIf (tB (eOp oEq (eOp oMod (eOp oMod (eOp oMul (eVar 5) (eC (.int 48271))) (eC (.int 1021))) (eC (.int 2))) (eC (.int 1)))) (sSeq (sSet 3 (eOp oIx (eLst (aCons (eC (.int 1)) (aCons (eC (.int 2)) (aCons (eC (.int 0)) (aCons (eC (.int 100000000000000000000)) aNil))))) (eOp oMod (eOp oMod (eOp oMul (eVar 5) (eC (.int 48271))) (eC (.int 1031))) (eC (.int 4)))))
    (sExpr (eApp (eVar 1) (eTup (aCons (eOp oMod (eVar 4) (eC (.int 3))) (aCons (eC (.str "write")) (aCons (eVar 3) (aCons (eVar 2) (aCons (eVar 6) aNil))))))))) (sSeq (sSet 7 (eOp oIx (eLst (aCons (eVar 3) (aCons (eC .non) aNil))) (eCall bInt (aCons (eUn oIsN (eVar 6)) aNil))))
    (sExpr (eApp (eVar 1) (eTup (aCons (eOp oMod (eVar 4) (eC (.int 3))) (aCons (eC (.str "read")) (aCons (eVar 7) (aCons (eVar 2) (aCons (eVar 6) aNil))))))))) [some (.ref lc), some (.ref G.length), some (.int T), some (.int v), some (.int (i : Int)), some (.int cl), some (oD en), e0]) G'
      (fun p G1 => p.1 = .next ∧ Kp G G1 ∧ (∃ ws : List Wk, ws.length = i + 1 ∧ G1[G.length]? = some (.lst (ws.map wD))) ∧ ∃ (t v : Int) (a b c e : Option D), p.2 = [some (.ref lc), some (.ref G.length), some (.int t), some (.int v), a, b, c, e]) E := by
      intro en
      have hz2 : (ws.map wD).length < sizeL := by rw [List.length_map, hwl]; unfold sizeL; omega
      repeat walk_at "wp1"
      refine w_eq (by rfl) ?_
      repeat walk_at "wp1"
      refine w_ite (fun c => ?_) fun c => ?_
      · repeat walk_at "wp1"
        have i3 := mod_in (cl * 48271 % 1031) (show (0 : Int) < 4 by decide)
        refine w_ixL (get_new _ _) (atI_ints (xs := [1, 2, 0, 100000000000000000000]) i3.1 i3.2) ?_
        generalize ([1, 2, 0, 100000000000000000000] : List Int).getD _ 0 = v2
        repeat walk_at "wp1"
        refine w_isL ((Kp.add _ _).get hws) ?_
        repeat walk_at "wp1"
        refine w_append ((Kp.add _ _).get hws) hz2 ?_
        refine ⟨rfl, (kp.trans (Kp.add _ _)).set (Nat.le_refl _), ⟨ws ++ [⟨(i : Int) % 3, false, some v2, T, en⟩], by simp [hwl], ?_⟩, _, _, _, _, _, _, rfl⟩
        rw [set_self ((Kp.add _ _).get hws), List.map_append]
        rfl
      · repeat walk_at "wp1"
        rw [oD_non]
        refine w_ixL (get_new _ _) (two_at (by cases en.isNone <;> decide) (by cases en.isNone <;> decide)) ?_
        have ev : (if (if en.isNone = true then (1 : Int) else 0) = 0 then D.int v else D.non) = oD (if en.isNone then none else some v) := by cases en <;> rfl
        rw [ev]
        generalize (if en.isNone = true then none else some v) = v2
        repeat walk_at "wp1"
        refine w_isL ((Kp.add _ _).get hws) ?_
        repeat walk_at "wp1"
        refine w_append ((Kp.add _ _).get hws) hz2 ?_
        refine ⟨rfl, (kp.trans (Kp.add _ _)).set (Nat.le_refl _), ⟨ws ++ [⟨(i : Int) % 3, true, v2, T, en⟩], by simp [hwl], ?_⟩, _, _, _, _, _, _, rfl⟩
        rw [set_self ((Kp.add _ _).get hws), List.map_append]
        rfl
    have fin : ∀ en : Option Int, run (sIf (tB (eOp oEq (eOp oMod (eOp oMod (eOp oMul (eVar 5) (eC (.int 48271))) (eC (.int 1021))) (eC (.int 2))) (eC (.int 1)))) (sSeq (sSet 3 (eOp oIx (eLst (aCons (eC (.int 1)) (aCons (eC (.int 2)) (aCons (eC (.int 0)) (aCons (eC (.int 100000000000000000000)) aNil))))) (eOp oMod (eOp oMod (eOp oMul (eVar 5) (eC (.int 48271))) (eC (.int 1031))) (eC (.int 4)))))
    (sExpr (eApp (eVar 1) (eTup (aCons (eOp oMod (eVar 4) (eC (.int 3))) (aCons (eC (.str "write")) (aCons (eVar 3) (aCons (eVar 2) (aCons (eVar 6) aNil))))))))) (sSeq (sSet 7 (eOp oIx (eLst (aCons (eVar 3) (aCons (eC .non) aNil))) (eCall bInt (aCons (eUn oIsN (eVar 6)) aNil))))
    (sExpr (eApp (eVar 1) (eTup (aCons (eOp oMod (eVar 4) (eC (.int 3))) (aCons (eC (.str "read")) (aCons (eVar 7) (aCons (eVar 2) (aCons (eVar 6) aNil))))))))) [some (.ref lc), some (.ref G.length), some (.int T), some (.int v), some (.int (i : Int)), some (.int cl), some (oD en), e0]) G'
      (fun p G1 => match p.1 with
      | .next => Kp G G1 ∧ (∃ ws : List Wk, ws.length = i + 1 ∧ G1[G.length]? = some (.lst (ws.map wD))) ∧ ∃ (t v : Int) (a b c e : Option D), p.2 = [some (.ref lc), some (.ref G.length), some (.int t), some (.int v), a, b, c, e]
      | .cont => Kp G G1 ∧ (∃ ws : List Wk, ws.length = i + 1 ∧ G1[G.length]? = some (.lst (ws.map wD))) ∧ ∃ (t v : Int) (a b c e : Option D), p.2 = [some (.ref lc), some (.ref G.length), some (.int t), some (.int v), a, b, c, e]
      | .brk => False
      | .ret d => False) E := fun en => run_mono (key en) (fun p G1 ⟨e, q⟩ => by
        obtain ⟨f, σ⟩ := p
        cases (show f = .next from e)
        exact q) fun _ _ z => z
    refine w_ite (fun c => ?_) fun c => ?_
    · refine w_set (w_c ?_)
      refine w_next ?_
      refine run_mono (fin none) (fun p G1 q => ?_) fun _ _ z => z
      obtain ⟨f, σ⟩ := p
      cases f with
      | next => exact q
      | cont => exact q
      | brk => exact q.elim
      | ret d => exact q.elim
    · refine w_nil ?_
      refine w_next ?_
      refine run_mono (fin (some _)) (fun p G1 q => ?_) fun _ _ z => z
      obtain ⟨f, σ⟩ := p
      cases f with
      | next => exact q
      | cont => exact q
      | brk => exact q.elim
      | ret d => exact q.elim
  · rintro σ G' ⟨kp, ⟨ws, hwl, hws⟩, t, v, _, _, _, e0, rfl⟩
    repeat walk_at "wp1"
    exact h _ ws G' kp (Nat.le_refl _) hws (by omega)
/-- the list that is harmed -/
def Made (G0 : Hh) (lw lo : Nat) (c s w : Int) (B : Nat) (r : Fl × St) (G : Hh) : Prop :=
  ∃ (l : Nat) (os : List Int) (y : Option D), r = (.next, [some (.ref lw), some (.ref lo), some (.int c), some (.ref l), some (.int s), some (.int w), y]) ∧ G[l]? = some (.lst (os.map D.int)) ∧ os.length ≤ B ∧ Kp G0 G ∧ G0.length ≤ l
def cutL (xs : List Int) (lo hi : Option Int) : List Int := (xs.drop (sIx xs.length 0 lo)).take (sIx xs.length xs.length hi - sIx xs.length 0 lo)
theorem cut_ints (xs : List Int) (lo hi : Option Int) : cutD (xs.map D.int) lo hi = (cutL xs lo hi).map D.int := by
  unfold cutD cutL
  rw [List.length_map, List.map_take, List.map_drop]
theorem cutL_len (xs : List Int) (lo hi : Option Int) : (cutL xs lo hi).length ≤ xs.length := by
  unfold cutL
  rw [List.length_take, List.length_drop]
  omega
theorem w_slI {n : Nat} {xs : List Int} {lo hi : Option Int} (hn : G[n]? = some (.lst (xs.map D.int))) (h : Q (.ref G.length) (G ++ [.lst ((cutL xs lo hi).map D.int)])) : run (oSl (.ref n) lo hi) G Q E := by
  refine w_slL hn ?_
  rw [cut_ints]; exact h
theorem w_addI2 {i j : Nat} {a b : List Int} (h1 : G[i]? = some (.lst (a.map D.int))) (h2 : G[j]? = some (.lst (b.map D.int))) (hl : a.length + b.length ≤ 1000000) (h : Q (.ref G.length) (G ++ [.lst ((a ++ b).map D.int)])) : run (oAdd (.ref i) (.ref j)) G Q E := by
  refine w_addL h1 h2 ?_ ?_
  · rw [List.length_map, List.length_map]; unfold sizeL; omega
  · rw [← List.map_append]; exact h
variable {G0 : Hh} {lw lo : Nat} {c s w : Int} {B : Nat} {r : Fl × St}
theorem made_if {k : Int} {a : S3} {l : Nat} {os : List Int} {y : Option D} {B2 : Nat} (hl : G[l]? = some (.lst (os.map D.int))) (hb : os.length ≤ B) (kp : Kp G0 G) (hg : G0.length ≤ l) (hB : B ≤ B2)
    (h : run (a [some (.ref lw), some (.ref lo), some (.int c), some (.ref l), some (.int s), some (.int w), y]) G (Made G0 lw lo c s w B2) E) :
    run (sIf (tB (eOp oEq (eVar 5) (eC (.int k)))) a sNil [some (.ref lw), some (.ref lo), some (.int c), some (.ref l), some (.int s), some (.int w), y]) G (Made G0 lw lo c s w B2) E := by
  refine w_sif (w_tB (w_op (w_var rfl (w_c (w_eq rfl (w_asB ?_))))))
  refine w_ite (fun _ => h) fun _ => w_nil ⟨l, os, y, rfl, hl, by omega, kp, hg⟩
theorem r_harmed {ws : List Wk} {os : List Int} (hw : G[lw]? = some (.lst (ws.map wD))) (ho : G[lo]? = some (.lst (os.map D.int))) (hz : os.length ≤ 150) (hz2 : ws.length ≤ 150)
    (h : ∀ l os' G', Kp G G' → G.length ≤ l → G'[l]? = some (.lst (List.map D.int os')) → os'.length ≤ 100000 → Q (.ref l) G') : run (c_harmed [.ref lw, .ref lo, .int c]) G Q E := by
  walk_at "fn_in"
  unfold k_harmed
  repeat walk_at "wp1"
  refine w_listL ho ?_
  repeat walk_at "wp1"
  refine w_lenL (get_new _ _) ?_
  rw [List.length_map]
  repeat walk_at "wp1"
  have hm : 0 < (if (os.length : Int) > 1 then (os.length : Int) else 1) := by split <;> omega
  refine w_modI hm ?_
  have hs := mod_in (c * 48271 % 1033) hm
  generalize hsp : c * 48271 % 1033 % (if (os.length : Int) > 1 then (os.length : Int) else 1) = sp at hs
  refine w_next ?_
  refine w_seq (w_set (w_op (w_op (w_op (w_var rfl (w_c (w_mulR (by decide) (w_c (w_modI (by decide) (w_c (w_modI (by decide) ?_)))))))))))
  refine w_next ?_
  generalize c * 48271 % 1039 % 9 = way
  simp only [List.set_cons_succ, List.set_cons_zero]
  -- two changed about
  have st1 : run (sIf (tAnd (tB (eOp oEq (eVar 5) (eC (.int 1)))) (tB (eOp oLt (eOp oAdd (eVar 4) (eC (.int 1))) (eCall bLen (aCons (eVar 3) aNil))))) (sAsg (gTup [(gSub (eVar 3) (eVar 4)), (gSub (eVar 3) (eOp oAdd (eVar 4) (eC (.int 1))))]) (eTup (aCons (eOp oIx (eVar 3) (eOp oAdd (eVar 4) (eC (.int 1)))) (aCons (eOp oIx (eVar 3) (eVar 4)) aNil)))) sNil
      [some (.ref lw), some (.ref lo), some (.int c), some (.ref G.length), some (.int sp), some (.int way), none]) (G ++ [O.lst (os.map D.int)]) (Made G lw lo c sp way 160) E := by
    have keep : Made G lw lo c sp way 160 (.next, [some (.ref lw), some (.ref lo), some (.int c), some (.ref G.length), some (.int sp), some (.int way), none]) (G ++ [O.lst (os.map D.int)]) := ⟨_, os, _, rfl, get_new _ _, by omega, Kp.add _ _, Nat.le_refl _⟩
    repeat walk_at "wp1"
    refine w_eq rfl ?_
    repeat walk_at "wp1"
    refine w_ite (fun _ => ?_) fun _ => ?_
    · repeat walk_at "wp1"
      refine w_lenL (get_new _ _) ?_
      rw [List.length_map]
      repeat walk_at "wp1"
      refine w_ite (fun c2 => ?_) fun c2 => ?_
      · have c2 := of_decide_eq_true c2
        repeat walk_at "wp1"
        refine w_ixL (get_new _ _) (atI_ints (by omega) (by omega)) ?_
        repeat walk_at "wp1"
        refine w_ixL (get_new _ _) (atI_ints (by omega) (by omega)) ?_
        repeat walk_at "wp1"
        generalize os.getD (sp + 1).toNat 0 = u1
        generalize os.getD sp.toNat 0 = u2
        have ix : ∀ (xs : List D) (i : Int), 0 ≤ i → i < (xs.length : Int) → M3.ixN xs.length i = some i.toNat := fun xs i h0 h1 => by unfold M3.ixN; rw [if_pos h0, if_pos h1]
        refine w_setL (get_new _ _) (ix _ _ (by omega) (by rw [List.length_map]; omega)) ?_
        repeat walk_at "wp1"
        rw [set_new]
        refine w_setL (get_new _ _) (ix _ _ (by omega) (by rw [List.length_set, List.length_map]; omega)) ?_
        repeat walk_at "wp1"
        rw [set_new]
        refine ⟨_, (os.set sp.toNat u1).set (sp + 1).toNat u2, none, rfl, ?_, by simp; omega, Kp.add _ _, Nat.le_refl _⟩
        rw [get_new, List.map_set, List.map_set]
      · repeat walk_at "wp1"
        exact keep
    · repeat walk_at "wp1"
      exact keep
  refine w_seq (run_mono st1 (fun r G1 ⟨l, os1, y, e, hl, hb, kp, hg⟩ => ?_) fun _ _ z => z)
  subst e
  refine w_next ?_
  clear st1
  refine w_seq (run_mono (made_if (B2 := 400) hl hb kp hg (by omega) ?h2) (fun r G1 ⟨l, os1, y, e, hl, hb, kp, hg⟩ => ?_) fun _ _ z => z)
  case h2 =>
    repeat walk_at "wp1"
    refine w_slI hl ?_
    repeat walk_at "wp1"
    refine w_slI ((Kp.add _ _).get hl) ?_
    repeat walk_at "wp1"
    have l1 := cutL_len os1 none (some sp)
    have l2 := cutL_len os1 (some (sp + 1)) none
    refine w_addI2 ((Kp.add _ _).get (get_new _ _)) (get_new _ _) (by omega) ?_
    exact ⟨_, _, y, rfl, get_new _ _, by rw [List.length_append]; omega, ((kp.trans (Kp.add _ _)).trans (Kp.add _ _)).trans (Kp.add _ _), by have := kp.1; simp; omega⟩
  subst e
  refine w_next ?_
  refine w_seq (run_mono (made_if (B2 := 900) hl hb kp hg (by omega) ?h3) (fun r G1 ⟨l, os1, y, e, hl, hb, kp, hg⟩ => ?_) fun _ _ z => z)
  case h3 =>
    repeat walk_at "wp1"
    refine w_slI hl ?_
    repeat walk_at "wp1"
    refine w_slI ((Kp.add _ _).get hl) ?_
    repeat walk_at "wp1"
    have l1 := cutL_len os1 none (some (sp + 1))
    have l2 := cutL_len os1 (some sp) none
    refine w_addI2 ((Kp.add _ _).get (get_new _ _)) (get_new _ _) (by omega) ?_
    exact ⟨_, _, y, rfl, get_new _ _, by rw [List.length_append]; omega, ((kp.trans (Kp.add _ _)).trans (Kp.add _ _)).trans (Kp.add _ _), by have := kp.1; simp; omega⟩
  subst e
  refine w_next ?_
  refine w_seq (run_mono (made_if (B2 := 2000) hl hb kp hg (by omega) ?h4) (fun r G1 ⟨l, os1, y, e, hl, hb, kp, hg⟩ => ?_) fun _ _ z => z)
  case h4 =>
    repeat walk_at "wp1"
    refine w_lenL (kp.get hw) ?_
    repeat walk_at "wp1"
    have i3 := mod_in (c * 48271 % 1049) (show (0 : Int) < 2 by decide)
    refine w_ixL (get_new _ _) (atI_ints (xs := [-1, ((ws.map wD).length : Int)]) i3.1 i3.2) ?_
    generalize ([-1, ((ws.map wD).length : Int)] : List Int).getD _ 0 = odd
    repeat walk_at "wp1"
    refine w_slI ((Kp.add _ _).get hl) ?_
    repeat walk_at "wp1"
    have l1 := cutL_len os1 none (some sp)
    have l2 := cutL_len os1 (some sp) none
    refine w_addI2 (b := [odd]) ((Kp.add _ _).get (get_new _ _)) (get_new _ _) (by simp; omega) ?_
    repeat walk_at "wp1"
    refine w_slI ((((Kp.add _ _).trans (Kp.add _ _)).trans ((Kp.add _ _).trans (Kp.add _ _))).get hl) ?_
    repeat walk_at "wp1"
    refine w_addI2 ((Kp.add _ _).get (get_new _ _)) (get_new _ _) (by rw [List.length_append]; simp; omega) ?_
    refine ⟨_, _, some (.int odd), rfl, get_new _ _, by rw [List.length_append, List.length_append]; simp; omega, kp.trans (((Kp.add _ _).trans (Kp.add _ _)).trans (((Kp.add _ _).trans (Kp.add _ _)).trans ((Kp.add _ _).trans (Kp.add _ _)))), by have := kp.1; simp; omega⟩
  subst e
  refine w_next ?_
  refine w_seq (run_mono (made_if (B2 := 2000) hl hb kp hg (by omega) ?h5) (fun r G1 ⟨l, os1, y, e, hl, hb, kp, hg⟩ => ?_) fun _ _ z => z)
  case h5 =>
    repeat walk_at "wp1"
    refine w_mRev hl (by rw [List.length_map]; unfold sizeL; omega) ?_
    refine ⟨_, os1.reverse, y, rfl, ?_, by rw [List.length_reverse]; omega, kp.trans (Kp.add _ _), by have := kp.1; omega⟩
    rw [get_new, List.map_reverse]
  subst e
  refine w_next ?_
  refine w_seq (run_mono (made_if (B2 := 5000) hl hb kp hg (by omega) ?h6) (fun r G1 ⟨l, os1, y, e, hl, hb, kp, hg⟩ => ?_) fun _ _ z => z)
  case h6 =>
    repeat walk_at "wp1"
    refine w_slI hl ?_
    repeat walk_at "wp1"
    refine w_slI ((Kp.add _ _).get hl) ?_
    repeat walk_at "wp1"
    have l1 := cutL_len os1 none (some sp)
    have l2 := cutL_len os1 (some sp) none
    refine w_addI2 ((Kp.add _ _).get (get_new _ _)) (get_new _ _) (by omega) ?_
    exact ⟨_, _, y, rfl, get_new _ _, by rw [List.length_append]; omega, ((kp.trans (Kp.add _ _)).trans (Kp.add _ _)).trans (Kp.add _ _), by have := kp.1; simp; omega⟩
  subst e
  refine w_next ?_
  refine w_seq (run_mono (made_if (B2 := 5000) hl hb kp hg (by omega) ?h7) (fun r G1 ⟨l, os1, y, e, hl, hb, kp, hg⟩ => ?_) fun _ _ z => z)
  case h7 =>
    repeat walk_at "wp1"
    refine w_lenL (kp.get hw) ?_
    with_reducible refine M3.w_rngLen (by rw [List.length_map]; omega) ?_
    rw [List.length_map]
    refine w_compL (fun i acc G' => G' = G1 ∧ acc = ((List.range ws.length).map fun (k : Nat) => D.int (k : Int)).take i) ?_ ?_ ?_ (rng 0 ws.length) 0 [] G1 List.drop_zero (Nat.zero_le _) ⟨rfl, by simp⟩
    · intros; rfl
    · rintro i x acc G' hx ⟨rfl, rfl⟩
      obtain ⟨rfl, hi⟩ := rng_get hx
      refine w_ret ?_
      rw [if_pos rfl, Int.zero_add]
      repeat walk_at "wp1"
      have e : ((List.range ws.length).map fun (k : Nat) => D.int (k : Int))[i]? = some (.int (i : Int)) := by
        rw [List.getElem?_map, List.getElem?_range hi]; rfl
      exact ⟨by simp [sizeL]; omega, rfl, (take_succ e).symm⟩
    · rintro acc G' ⟨rfl, rfl⟩
      rw [rng_len, List.take_of_length_le (by simp)]
      refine ⟨_, (List.range ws.length).map fun (k : Nat) => (k : Int), y, rfl, ?_, by simp; omega, kp.trans (Kp.add _ _), by have := kp.1; omega⟩
      rw [get_new, List.map_map]
      rfl
  subst e
  refine w_next ?_
  repeat walk_at "wp1"
  exact h _ _ _ kp hg hl (by omega)
theorem wD_self {k : Nat} (w : Wk) : eqG G (k + 2) (wD w) (wD w) = some true := by
  unfold wD
  show Option.map (· && decide (5 = 5)) (eqZ (eqG G (k + 1)) [.int w.hand, .str (word w.rd), oD w.val, .int w.beg, oD w.en] [.int w.hand, .str (word w.rd), oD w.val, .int w.beg, oD w.en]) = some true
  rw [eqZ_self]
  · rfl
  · intro x hx
    simp only [List.mem_cons, List.not_mem_nil, or_false] at hx
    rcases hx with rfl | rfl | rfl | rfl | rfl
    · simp [eqG]
    · simp [eqG]
    · rw [oD_eq, decide_eq_true rfl]
    · simp [eqG]
    · rw [oD_eq, decide_eq_true rfl]
theorem eq_lists {k i j : Nat} {xs : List D} (h1 : G[i]? = some (.lst xs)) (h2 : G[j]? = some (.lst xs)) (h : ∀ x ∈ xs, eqG G k x x = some true) : eqG G (k + 1) (.ref i) (.ref j) = some true := by
  show (match M3.listOf G i, M3.listOf G j with
    | some a, some b => if a.length = b.length then eqZ (eqG G k) a b else some false
    | _, _ => none) = some true
  unfold M3.listOf
  rw [h1, h2]
  dsimp only
  rw [if_pos rfl, eqZ_self h]
theorem law_true : ∀ ns : List Int, ns.length ≤ 63 → run (c_law [.ref 0]) [.frz (ns.map D.int)] (fun d _ => d = .bl true) fun _ _ => False := by
  intro ns hn
  have h0 : ([O.frz (ns.map D.int)] : Hh)[0]? = some (.frz (ns.map D.int)) := rfl
  generalize ([O.frz (ns.map D.int)] : Hh) = G at h0
  walk_at "fn_in"
  unfold k_law
  repeat walk_at "wp1"
  refine r_at (i := 0) ((Kp.add _ _).get h0) ?_
  repeat walk_at "wp1"
  have i3 := mod_in (ns.getD 0 0 * 48271 % 1061) (show (0 : Int) < 2 by decide)
  refine w_ixL (get_new _ _) (atI_ints (xs := [7, 20]) i3.1 i3.2) ?_
  have hmost : ∀ k : Nat, 0 ≤ ([7, 20] : List Int).getD k 0 ∧ ([7, 20] : List Int).getD k 0 ≤ 20 := fun k => by
    match k with
    | 0 => decide
    | 1 => decide
    | k + 2 => simp
  have hm := hmost (ns.getD 0 0 * 48271 % 1061 % 2).toNat
  generalize ([7, 20] : List Int).getD (ns.getD 0 0 * 48271 % 1061 % 2).toNat 0 = most at hm
  have k0 := Kp.add G (O.lst [D.int 7, D.int 20])
  have h1 := k0.get h0
  generalize G ++ [O.lst [D.int 7, D.int 20]] = G1 at h1
  repeat walk_at "wp1"
  refine r_room h1 hn ?_
  repeat walk_at "wp1"
  refine w_slF h1 ?_
  rw [cut_ints]
  have hcl := cutL_len ns (some 1) (some (1 + most))
  generalize cutL ns (some 1) (some (1 + most)) = cs at hcl
  repeat walk_at "wp1"
  refine r_works_by (get_new _ _) (by omega) fun l ws G2 kp2 hl2 hws hwl => ?_
  have h2 := ((Kp.add _ _).trans kp2).get h1
  repeat walk_at "wp1"
  refine w_lenL ((Kp.add _ _).get hws) ?_
  with_reducible refine M3.w_rngLen (by rw [List.length_map]; omega) ?_
  rw [List.length_map]
  refine w_forR (fun i σ G' => Kp G2 G' ∧ (∃ os : List Int, os.length ≤ i ∧ G'[G2.length]? = some (.lst (os.map D.int))) ∧ ∃ a, σ = [some (.ref 0), some (.int most), some (.ref l), some (.ref G2.length), a, none, none]) ?_ ?_ ⟨Kp.add _ _, ⟨[], Nat.le_refl _, get_new _ _⟩, none, rfl⟩
  · rintro i σ G' hi ⟨kp, ⟨os, hol, hos⟩, _, rfl⟩
    have hwi : ws[i]? = some ws[i] := List.getElem?_eq_getElem hi
    generalize ws[i] = w at hwi
    have add : run (sExpr (eApp (eVar 3) (eVar 4)) [some (.ref 0), some (.int most), some (.ref l), some (.ref G2.length), some (.int (i : Int)), none, none]) G' (fun p G1 => match p.1 with
      | .next => Kp G2 G1 ∧ (∃ os : List Int, os.length ≤ i + 1 ∧ G1[G2.length]? = some (.lst (os.map D.int))) ∧ ∃ a, p.2 = [some (.ref 0), some (.int most), some (.ref l), some (.ref G2.length), a, none, none]
      | _ => False) (fun _ _ => False) := by
      repeat walk_at "wp1"
      refine w_isL hos ?_
      repeat walk_at "wp1"
      refine w_append hos (by rw [List.length_map]; unfold sizeL; omega) ?_
      refine ⟨kp.set (Nat.le_refl _), ⟨os ++ [(i : Int)], by simp; omega, ?_⟩, _, rfl⟩
      rw [set_self hos, List.map_append]
      rfl
    repeat walk_at "wp1"
    refine w_ixL (kp.get hws) (atI_map hwi) ?_
    unfold wD
    repeat walk_at "wp1"
    rw [oD_non]
    cases he : w.en with
    | some t =>
      repeat walk_at "wp1"
      refine w_iteNF ?_
      refine w_ret ?_
      refine w_iteT ?_
      refine run_mono add (fun p G1 q => ?_) fun _ _ z => z
      obtain ⟨f, σ⟩ := p
      cases f with
      | next => exact q
      | cont => exact q.elim
      | brk => exact q.elim
      | ret d => exact q.elim
    | none =>
      repeat walk_at "wp1"
      refine w_iteNT ?_
      repeat walk_at "wp1"
      refine w_ixL (kp.get hws) (atI_map hwi) ?_
      unfold wD
      repeat walk_at "wp1"
      refine w_eq (word_write _) ?_
      refine w_asB ?_
      refine w_ite (fun _ => ?_) fun _ => ?_
      · refine run_mono add (fun p G1 q => ?_) fun _ _ z => z
        obtain ⟨f, σ⟩ := p
        cases f with
        | next => exact q
        | cont => exact q.elim
        | brk => exact q.elim
        | ret d => exact q.elim
      · repeat walk_at "wp1"
        exact ⟨kp, ⟨os, by omega, hos⟩, _, rfl⟩
  · rintro σ G3 ⟨kp, ⟨os, hol, hos⟩, _, rfl⟩
    repeat walk_at "wp1"
    refine r_at (i := 0) (kp.get h2) ?_
    repeat walk_at "wp1"
    refine r_harmed (kp.get hws) hos (by omega) hwl fun l2 os2 G4 kp4 hl4 hos2 hol2 => ?_
    have hws4 := (kp.trans kp4).get hws
    repeat walk_at "wp1"
    refine w_listL hws4 ?_
    repeat walk_at "wp1"
    refine w_listL ((Kp.add _ _).get hos2) ?_
    repeat walk_at "wp1"
    have ka := (Kp.add G4 (O.lst (ws.map wD))).trans (Kp.add _ (O.lst (os2.map D.int)))
    have a1 : ((G4 ++ [O.lst (ws.map wD)]) ++ [O.lst (os2.map D.int)])[G4.length]? = some (.lst (ws.map wD)) := (Kp.add _ _).get (get_new _ _)
    have a2 : ((G4 ++ [O.lst (ws.map wD)]) ++ [O.lst (os2.map D.int)])[(G4 ++ [O.lst (ws.map wD)]).length]? = some (.lst (os2.map D.int)) := get_new _ _
    have b1 := ka.get hws4
    have b2 := ka.get hos2
    generalize (G4 ++ [O.lst (ws.map wD)]) ++ [O.lst (os2.map D.int)] = G5 at a1 a2 b1 b2
    generalize (G4 ++ [O.lst (ws.map wD)]).length = m2 at a2
    refine w_ixL (get_new _ _) (by rfl) ?_
    repeat walk_at "wp1"
    refine w_ixL (get_new _ _) (by rfl) ?_
    repeat walk_at "wp1"
    refine r_explains ((Kp.add _ _).get a1) ((Kp.add _ _).get a2) hol2 fun b G6 x6 hb => ?_
    have c1 := (Kp.add G5 (O.lst [D.ref G4.length, D.ref m2])).trans x6.kp
    have d0 : G6[G5.length]? = some (.lst [D.ref G4.length, D.ref m2]) := x6.kp.get (get_new _ _)
    have d1 := c1.get a1
    have d2 := c1.get a2
    have d3 := c1.get b1
    have d4 := c1.get b2
    repeat walk_at "wp1"
    have k7 := Kp.add G6 (O.lst [D.ref l, D.ref l2])
    refine w_ne (b := true) ?_ ?_
    · show (match M3.listOf _ _, M3.listOf _ _ with
        | some a, some b => if a.length = b.length then eqZ (eqG _ 7) a b else some false
        | _, _ => none) = some true
      unfold M3.listOf
      rw [k7.get d0, get_new]
      dsimp only
      rw [if_pos (show [D.ref (List.length G4), D.ref m2].length = [D.ref l, D.ref l2].length from rfl)]
      unfold eqZ
      rw [eq_lists (k := 6) (k7.get d1) (k7.get d3) (fun x hx => by
        obtain ⟨w, _, rfl⟩ := List.mem_map.mp hx
        exact wD_self (k := 4) w)]
      unfold eqZ
      rw [eq_lists (k := 6) (k7.get d2) (k7.get d4) (fun x hx => by
        obtain ⟨i, _, rfl⟩ := List.mem_map.mp hx
        rw [eq_int, decide_eq_true rfl])]
      rfl
    repeat walk_at "wp1"
    refine r_one_explains (k7.get d3) (k7.get d4) hol2 (by omega) fun b2 G8 x8 hb2 => ?_
    refine w_eq eq_bl ?_
    repeat walk_at "wp1"
    have : b = b2 := by
      have := hb.trans ((one_iff ws os2).trans hb2.symm)
      cases b <;> cases b2 <;> simp_all
    subst this
    simp
end
end KS

namespace LK
open PySem PySem.Spec PyProof.Rows L2 L3 KC
def top (i : Nat) : Stmt := PySem.Challenge.pw_halfask_k08_whole_orders_judged.main.body.getD i (.Pass ⟨0, 0, 0, 0⟩)
abbrev s_are_places : Stmt := top 2
theorem sc_are_places : FnScope ["works", "order", "seen", "place"] ["works", "order"] (defScope s_are_places) := ⟨rfl, rfl, rfl, by decide +kernel, rfl, by decide +kernel, by decide +kernel⟩
abbrev s_has_ended : Stmt := top 7
theorem sc_has_ended : FnScope ["work"] ["work"] (defScope s_has_ended) := ⟨rfl, rfl, rfl, by decide +kernel, rfl, by decide +kernel, by decide +kernel⟩
abbrev s_is_read : Stmt := top 8
theorem sc_is_read : FnScope ["work"] ["work"] (defScope s_is_read) := ⟨rfl, rfl, rfl, by decide +kernel, rfl, by decide +kernel, by decide +kernel⟩
abbrev s_stand_rightly : Stmt := top 3
theorem sc_stand_rightly : FnScope ["works", "order", "place", "work"] ["works", "order"] (defScope s_stand_rightly) := ⟨rfl, rfl, rfl, by decide +kernel, rfl, by decide +kernel, by decide +kernel⟩
abbrev s_ended_before : Stmt := top 6
theorem sc_ended_before : FnScope ["work", "other"] ["work", "other"] (defScope s_ended_before) := ⟨rfl, rfl, rfl, by decide +kernel, rfl, by decide +kernel, by decide +kernel⟩
abbrev s_keeps_time : Stmt := top 4
theorem sc_keeps_time : FnScope ["works", "order", "position", "place", "later"] ["works", "order"] (defScope s_keeps_time) := ⟨rfl, rfl, rfl, by decide +kernel, rfl, by decide +kernel, by decide +kernel⟩
abbrev s_reads_are_right : Stmt := top 5
theorem sc_reads_are_right : FnScope ["works", "order", "value", "place", "work"] ["works", "order"] (defScope s_reads_are_right) := ⟨rfl, rfl, rfl, by decide +kernel, rfl, by decide +kernel, by decide +kernel⟩
abbrev s_explains : Stmt := top 1
theorem sc_explains : FnScope ["works", "order"] ["works", "order"] (defScope s_explains) := ⟨rfl, rfl, rfl, by decide +kernel, rfl, by decide +kernel, by decide +kernel⟩
abbrev s_whole : Stmt := top 10
theorem sc_whole : FnScope ["_law_found"] ["_law_found"] (defScope s_whole) := ⟨rfl, rfl, rfl, by decide +kernel, rfl, by decide +kernel, by decide +kernel⟩
abbrev s_at : Stmt := top 11
theorem sc_at : FnScope ["_law_script", "_law_k"] ["_law_script", "_law_k"] (defScope s_at) := ⟨rfl, rfl, rfl, by decide +kernel, rfl, by decide +kernel, by decide +kernel⟩
abbrev s_one_explains : Stmt := top 12
theorem sc_one_explains : FnScope ["_law_works", "_law_order", "_law_spots", "_law_k", "_law_place", "_law_other", "_law_late", "_law_last"] ["_law_works", "_law_order"] (defScope s_one_explains) := ⟨rfl, rfl, rfl, by decide +kernel, rfl, by decide +kernel, by decide +kernel⟩
abbrev s_works_by : Stmt := top 13
theorem sc_works_by : FnScope ["_law_cells", "_law_works", "_law_time", "_law_value", "_law_k", "_law_cell", "_law_ended", "_law_told"] ["_law_cells"] (defScope s_works_by) := ⟨rfl, rfl, rfl, by decide +kernel, rfl, by decide +kernel, by decide +kernel⟩
abbrev s_harmed : Stmt := top 14
theorem sc_harmed : FnScope ["_law_works", "_law_order", "_law_cell", "_law_made", "_law_spot", "_law_way", "_law_odd"] ["_law_works", "_law_order", "_law_cell"] (defScope s_harmed) := ⟨rfl, rfl, rfl, by decide +kernel, rfl, by decide +kernel, by decide +kernel⟩
abbrev s_room : Stmt := top 15
theorem sc_room : FnScope ["_law_script", "_law_most", "_law_bound"] ["_law_script", "_law_most", "_law_bound"] (defScope s_room) := ⟨rfl, rfl, rfl, by decide +kernel, rfl, by decide +kernel, by decide +kernel⟩
abbrev s_law : Stmt := top 16
theorem sc_law : FnScope ["_law_script", "_law_most", "_law_works", "_law_order", "_law_k", "_law_handed", "_law_told"] ["_law_script"] (defScope s_law) := ⟨rfl, rfl, rfl, by decide +kernel, rfl, by decide +kernel, by decide +kernel⟩
structure Txt (K : PySem.W.Frag) (mg : Str → Option Value) : Prop where
  n_len : mg "len" = none
  n_enumerate : mg "enumerate" = none
  n_int : mg "int" = none
  n_isinstance : mg "isinstance" = none
  n_bool : mg "bool" = none
  n_range : mg "range" = none
  n_list : mg "list" = none
  n_max : mg "max" = none
  n_reversed : mg "reversed" = none
abbrev T0 : Tab := ⟨fun _ => none, fun _ => Str.empty⟩
section
variable {P : Program} {w : World} {K : PySem.W.Frag} {mg : Str → Option Value} {base : Heap}
theorem ok_are_places {fa : Addr} {fd : FuncData} (F : Fun K "are_places" "are_places" s_are_places fa fd) (hm : mg "are_places" = some (.ref fa)) (hb : Binds K fd ["works", "order"] []) (Z : Txt K mg) : Fn3 P w K mg base CX0 T0 1 "are_places" 2 c_are_places :=
  fn3 (k := 0) F sc_are_places hm hb rfl rfl fun cdv A outer s H E hr => have hu := hr.units
    (y_cons (y_set (i := 2) sc_are_places.nd rfl (Or.inl rfl) x_dict0)
    (y_cons (y_for PassesOwn.never rfl (i_of (x_var 1)) (g_nm (i := 3) sc_are_places.nd rfl (Or.inl rfl)) (y_cons (y_if (PW.pt (w_or (t_cmp (q_oLt hu) (x_var 3) x_int (nomark _)) (w_or (t_cmp (q_oGe hu) (x_var 3) (x_bLen Z.n_len (a_cons (x_var 0) a_nil)) (nomark _)) (w_or1 (t_cmp (q_oIn hu) (x_var 3) (x_var 2) rfl))))) (y_one (y_ret x_bl)) y_nil)
    (y_one (y_sub hu (x_var 2) (x_var 3) x_bl))))
    (y_one (y_ret x_bl))))
theorem ok_has_ended {fa : Addr} {fd : FuncData} (F : Fun K "has_ended" "has_ended" s_has_ended fa fd) (hm : mg "has_ended" = some (.ref fa)) (hb : Binds K fd ["work"] []) (Z : Txt K mg) : Fn3 P w K mg base CX0 T0 1 "has_ended" 1 c_has_ended :=
  fn3 (k := 0) F sc_has_ended hm hb rfl rfl fun cdv A outer s H E hr => have hu := hr.units
    (y_one (y_ret (x_notN (q_ix hu (x_var 0) x_int))))
theorem ok_is_read {fa : Addr} {fd : FuncData} (F : Fun K "is_read" "is_read" s_is_read fa fd) (hm : mg "is_read" = some (.ref fa)) (hb : Binds K fd ["work"] []) (Z : Txt K mg) : Fn3 P w K mg base CX0 T0 1 "is_read" 1 c_is_read :=
  fn3 (k := 0) F sc_is_read hm hb rfl rfl fun cdv A outer s H E hr => have hu := hr.units
    (y_one (y_ret (x_cmp (q_oEq hu) (q_ix hu (x_var 0) x_int) x_str (nomark _))))
theorem ok_stand_rightly {fa : Addr} {fd : FuncData} (F : Fun K "stand_rightly" "stand_rightly" s_stand_rightly fa fd) (hm : mg "stand_rightly" = some (.ref fa)) (hb : Binds K fd ["works", "order"] []) (Z : Txt K mg) (F_has_ended : Fn3 P w K mg base CX0 T0 1 "has_ended" 1 c_has_ended) (F_is_read : Fn3 P w K mg base CX0 T0 1 "is_read" 1 c_is_read) : Fn3 P w K mg base CX0 T0 2 "stand_rightly" 2 c_stand_rightly :=
  fn3 (k := 1) F sc_stand_rightly hm hb rfl rfl fun cdv A outer s H E hr => have hu := hr.units
    (y_cons (y_for PassesOwn.never rfl (i_enum Z.n_enumerate (x_var 0)) (g_un rfl (g_cons (i := 2) sc_stand_rightly.nd rfl (Or.inl rfl) (g_cons (i := 3) sc_stand_rightly.nd rfl (Or.inl rfl) g_nil))) (y_cons (y_if (PW.pt (w_and (t_of (x_call F_has_ended (hr.mono (by decide)) passA (a_cons (x_var 3) a_nil))) (w_and1 (t_cmp (q_oNotIn hu) (x_var 2) (x_var 1) rfl)))) (y_one (y_ret x_bl)) y_nil)
    (y_one (y_if (PW.pt (w_and (t_of (x_call F_is_read (hr.mono (by decide)) passA (a_cons (x_var 3) a_nil))) (w_and (t_not (t_of (x_call F_has_ended (hr.mono (by decide)) passA (a_cons (x_var 3) a_nil)))) (w_and1 (t_cmp (q_oIn hu) (x_var 2) (x_var 1) rfl))))) (y_one (y_ret x_bl)) y_nil))))
    (y_one (y_ret x_bl)))
theorem ok_ended_before {fa : Addr} {fd : FuncData} (F : Fun K "ended_before" "ended_before" s_ended_before fa fd) (hm : mg "ended_before" = some (.ref fa)) (hb : Binds K fd ["work", "other"] []) (Z : Txt K mg) (F_has_ended : Fn3 P w K mg base CX0 T0 1 "has_ended" 1 c_has_ended) : Fn3 P w K mg base CX0 T0 2 "ended_before" 2 c_ended_before :=
  fn3 (k := 1) F sc_ended_before hm hb rfl rfl fun cdv A outer s H E hr => have hu := hr.units
    (y_one (y_ret (x_and (x_call F_has_ended (hr.mono (by decide)) passA (a_cons (x_var 0) a_nil)) (x_one (x_cmp (q_oLt hu) (q_ix hu (x_var 0) x_int) (q_ix hu (x_var 1) x_int) (nomark _))))))
theorem ok_keeps_time {fa : Addr} {fd : FuncData} (F : Fun K "keeps_time" "keeps_time" s_keeps_time fa fd) (hm : mg "keeps_time" = some (.ref fa)) (hb : Binds K fd ["works", "order"] []) (Z : Txt K mg) (F_ended_before : Fn3 P w K mg base CX0 T0 2 "ended_before" 2 c_ended_before) : Fn3 P w K mg base CX0 T0 3 "keeps_time" 2 c_keeps_time :=
  fn3 (k := 2) F sc_keeps_time hm hb rfl rfl fun cdv A outer s H E hr => have hu := hr.units
    (y_cons (y_for PassesOwn.never rfl (i_enum Z.n_enumerate (x_var 1)) (g_un rfl (g_cons (i := 2) sc_keeps_time.nd rfl (Or.inl rfl) (g_cons (i := 3) sc_keeps_time.nd rfl (Or.inl rfl) g_nil))) (y_one (y_for PassesOwn.never rfl (i_of (x_slice (x_var 1) (p_some (x_op br_oAdd (x_var 2) x_int)) p_none)) (g_nm (i := 4) sc_keeps_time.nd rfl (Or.inl rfl)) (y_one (y_if (t_of (x_call F_ended_before (hr.mono (by decide)) passA (a_cons (q_ix hu (x_var 0) (x_var 4)) (a_cons (q_ix hu (x_var 0) (x_var 3)) a_nil)))) (y_one (y_ret x_bl)) y_nil)))))
    (y_one (y_ret x_bl)))
theorem ok_reads_are_right {fa : Addr} {fd : FuncData} (F : Fun K "reads_are_right" "reads_are_right" s_reads_are_right fa fd) (hm : mg "reads_are_right" = some (.ref fa)) (hb : Binds K fd ["works", "order"] []) (Z : Txt K mg) (F_is_read : Fn3 P w K mg base CX0 T0 1 "is_read" 1 c_is_read) : Fn3 P w K mg base CX0 T0 2 "reads_are_right" 2 c_reads_are_right :=
  fn3 (k := 1) F sc_reads_are_right hm hb rfl rfl fun cdv A outer s H E hr => have hu := hr.units
    (y_cons (y_set (i := 2) sc_reads_are_right.nd rfl (Or.inl rfl) x_int)
    (y_cons (y_for PassesOwn.never rfl (i_of (x_var 1)) (g_nm (i := 3) sc_reads_are_right.nd rfl (Or.inl rfl)) (y_cons (y_set (i := 4) sc_reads_are_right.nd rfl (Or.inl rfl) (q_ix hu (x_var 0) (x_var 3)))
    (y_one (y_if (t_not (t_of (x_call F_is_read (hr.mono (by decide)) passA (a_cons (x_var 4) a_nil)))) (y_one (y_set (i := 2) sc_reads_are_right.nd rfl (Or.inl rfl) (q_ix hu (x_var 4) x_int))) (y_one (y_if (t_cmp (q_oNe hu) (q_ix hu (x_var 4) x_int) (x_var 2) (nomark _)) (y_one (y_ret x_bl)) y_nil))))))
    (y_one (y_ret x_bl))))
theorem ok_explains {fa : Addr} {fd : FuncData} (F : Fun K "explains" "explains" s_explains fa fd) (hm : mg "explains" = some (.ref fa)) (hb : Binds K fd ["works", "order"] []) (Z : Txt K mg) (F_are_places : Fn3 P w K mg base CX0 T0 1 "are_places" 2 c_are_places) (F_stand_rightly : Fn3 P w K mg base CX0 T0 2 "stand_rightly" 2 c_stand_rightly) (F_keeps_time : Fn3 P w K mg base CX0 T0 3 "keeps_time" 2 c_keeps_time) (F_reads_are_right : Fn3 P w K mg base CX0 T0 2 "reads_are_right" 2 c_reads_are_right) : Fn3 P w K mg base CX0 T0 4 "explains" 2 c_explains :=
  fn3 (k := 3) F sc_explains hm hb rfl rfl fun cdv A outer s H E hr => have hu := hr.units
    (y_one (y_ret (x_and (x_call F_are_places (hr.mono (by decide)) passA (a_cons (x_var 0) (a_cons (x_var 1) a_nil))) (x_and (x_call F_stand_rightly (hr.mono (by decide)) passA (a_cons (x_var 0) (a_cons (x_var 1) a_nil))) (x_and (x_call F_keeps_time (hr.mono (by decide)) passA (a_cons (x_var 0) (a_cons (x_var 1) a_nil))) (x_one (x_call F_reads_are_right (hr.mono (by decide)) passA (a_cons (x_var 0) (a_cons (x_var 1) a_nil)))))))))
theorem ok_whole {fa : Addr} {fd : FuncData} (F : Fun K "_law_whole" "_law_whole" s_whole fa fd) (hm : mg "_law_whole" = some (.ref fa)) (hb : Binds K fd ["_law_found"] []) (Z : Txt K mg) : Fn3 P w K mg base CX0 T0 1 "_law_whole" 1 c_whole :=
  fn3 (k := 0) F sc_whole hm hb rfl rfl fun cdv A outer s H E hr => have hu := hr.units
    (y_one (y_ret (x_and (x_is .int Z.n_isinstance Z.n_int (x_var 0)) (x_one (x_not (x_is .bl Z.n_isinstance Z.n_bool (x_var 0)))))))
theorem ok_at {fa : Addr} {fd : FuncData} (F : Fun K "_law_at" "_law_at" s_at fa fd) (hm : mg "_law_at" = some (.ref fa)) (hb : Binds K fd ["_law_script", "_law_k"] []) (Z : Txt K mg) : Fn3 P w K mg base CX0 T0 1 "_law_at" 2 c_at :=
  fn3 (k := 0) F sc_at hm hb rfl rfl fun cdv A outer s H E hr => have hu := hr.units
    (y_cons (y_if (t_cmp (q_oLt hu) (x_var 1) (x_bLen Z.n_len (a_cons (x_var 0) a_nil)) (nomark _)) (y_one (y_ret (q_ix hu (x_var 0) (x_var 1)))) y_nil)
    (y_one (y_ret x_int)))
theorem ok_one_explains {fa : Addr} {fd : FuncData} (F : Fun K "_law_one_explains" "_law_one_explains" s_one_explains fa fd) (hm : mg "_law_one_explains" = some (.ref fa)) (hb : Binds K fd ["_law_works", "_law_order"] []) (Z : Txt K mg) (F_whole : Fn3 P w K mg base CX0 T0 1 "_law_whole" 1 c_whole) : Fn3 P w K mg base CX0 T0 2 "_law_one_explains" 2 c_one_explains :=
  fn3 (k := 1) F sc_one_explains hm hb rfl rfl fun cdv A outer s H E hr => have hu := hr.units
    (y_cons (y_set (i := 2) sc_one_explains.nd rfl (Or.inl rfl) x_dict0)
    (y_cons (y_for PassesOwn.never rfl (i_rng1 Z.n_range (x_bLen Z.n_len (a_cons (x_var 1) a_nil))) (g_nm (i := 3) sc_one_explains.nd rfl (Or.inl rfl)) (y_cons (y_set (i := 4) sc_one_explains.nd rfl (Or.inl rfl) (q_ix hu (x_var 1) (x_var 3)))
    (y_cons (y_if (PW.pt (w_or (t_not (t_of (x_call F_whole (hr.mono (by decide)) passA (a_cons (x_var 4) a_nil)))) (w_or (t_cmp (q_oLt hu) (x_var 4) x_int (nomark _)) (w_or1 (t_cmp (q_oGe hu) (x_var 4) (x_bLen Z.n_len (a_cons (x_var 0) a_nil)) (nomark _)))))) (y_one (y_ret x_bl)) y_nil)
    (y_cons (y_if (PW.pt (w_and (t_cmp (q_oEq hu) (q_ix hu (q_ix hu (x_var 0) (x_var 4)) x_int) x_str (nomark _)) (w_and1 (t_isN (q_ix hu (q_ix hu (x_var 0) (x_var 4)) x_int))))) (y_one (y_ret x_bl)) y_nil)
    (y_cons (y_if (t_cmp (q_oIn hu) (x_var 4) (x_var 2) rfl) (y_one (y_ret x_bl)) y_nil)
    (y_one (y_sub hu (x_var 2) (x_var 4) (x_var 3))))))))
    (y_cons (y_for PassesOwn.never rfl (i_rng1 Z.n_range (x_bLen Z.n_len (a_cons (x_var 0) a_nil))) (g_nm (i := 4) sc_one_explains.nd rfl (Or.inl rfl)) (y_one (y_if (t_notN (q_ix hu (q_ix hu (x_var 0) (x_var 4)) x_int)) (y_cons (y_if (t_cmp (q_oNotIn hu) (x_var 4) (x_var 2) rfl) (y_one (y_ret x_bl)) y_nil)
    (y_one (y_for PassesOwn.never rfl (i_of (x_var 1)) (g_nm (i := 5) sc_one_explains.nd rfl (Or.inl rfl)) (y_cons (y_set (i := 6) sc_one_explains.nd rfl (Or.inl rfl) (x_cmp (q_oGt hu) (q_ix hu (q_ix hu (x_var 0) (x_var 5)) x_int) (q_ix hu (q_ix hu (x_var 0) (x_var 4)) x_int) (nomark _)))
    (y_one (y_if (PW.pt (w_and (t_of (x_var 6)) (w_and1 (t_cmp (q_oLt hu) (q_ix hu (x_var 2) (x_var 5)) (q_ix hu (x_var 2) (x_var 4)) (nomark _))))) (y_one (y_ret x_bl)) y_nil)))))) y_nil)))
    (y_cons (y_for PassesOwn.never rfl (i_rng1 Z.n_range (x_bLen Z.n_len (a_cons (x_var 1) a_nil))) (g_nm (i := 3) sc_one_explains.nd rfl (Or.inl rfl)) (y_one (y_if (t_cmp (q_oEq hu) (q_ix hu (q_ix hu (x_var 0) (q_ix hu (x_var 1) (x_var 3))) x_int) x_str (nomark _)) (y_cons (y_set (i := 7) sc_one_explains.nd rfl (Or.inl rfl) x_int)
    (y_cons (y_for PassesOwn.never rfl (i_of (x_slice (x_var 1) p_none (p_some (x_var 3)))) (g_nm (i := 4) sc_one_explains.nd rfl (Or.inl rfl)) (y_one (y_if (t_cmp (q_oEq hu) (q_ix hu (q_ix hu (x_var 0) (x_var 4)) x_int) x_str (nomark _)) (y_one (y_set (i := 7) sc_one_explains.nd rfl (Or.inl rfl) (q_ix hu (q_ix hu (x_var 0) (x_var 4)) x_int))) y_nil)))
    (y_one (y_if (t_cmp (q_oNe hu) (q_ix hu (q_ix hu (x_var 0) (q_ix hu (x_var 1) (x_var 3))) x_int) (x_var 7) (nomark _)) (y_one (y_ret x_bl)) y_nil)))) y_nil)))
    (y_one (y_ret x_bl))))))
theorem ok_works_by {fa : Addr} {fd : FuncData} (F : Fun K "_law_works_by" "_law_works_by" s_works_by fa fd) (hm : mg "_law_works_by" = some (.ref fa)) (hb : Binds K fd ["_law_cells"] []) (Z : Txt K mg) : Fn3 P w K mg base CX0 T0 1 "_law_works_by" 1 c_works_by :=
  fn3 (k := 0) F sc_works_by hm hb rfl rfl fun cdv A outer s H E hr => have hu := hr.units
    (y_cons (y_set (i := 1) sc_works_by.nd rfl (Or.inl rfl) (x_lst a_nil))
    (y_cons (y_set (i := 2) sc_works_by.nd rfl (Or.inl rfl) x_int)
    (y_cons (y_set (i := 3) sc_works_by.nd rfl (Or.inl rfl) x_int)
    (y_cons (y_for PassesOwn.never rfl (i_rng1 Z.n_range (x_bLen Z.n_len (a_cons (x_var 0) a_nil))) (g_nm (i := 4) sc_works_by.nd rfl (Or.inl rfl)) (y_cons (y_set (i := 5) sc_works_by.nd rfl (Or.inl rfl) (x_op br_oAdd (q_ix hu (x_var 0) (x_var 4)) (x_op br_oMul x_int (x_var 4))))
    (y_cons (y_set (i := 2) sc_works_by.nd rfl (Or.inl rfl) (x_op br_oAdd (x_op br_oAdd (x_var 2) x_int) (x_op br_oMod (x_op br_oMod (x_op br_oMul (x_var 5) x_int) x_int) x_int)))
    (y_cons (y_set (i := 6) sc_works_by.nd rfl (Or.inl rfl) (x_op br_oAdd (x_op br_oAdd (x_var 2) x_int) (x_op br_oMod (x_op br_oMod (x_op br_oMul (x_var 5) x_int) x_int) x_int)))
    (y_cons (y_if (t_cmp (q_oEq hu) (x_op br_oMod (x_op br_oMod (x_op br_oMul (x_var 5) x_int) x_int) x_int) x_int (nomark _)) (y_one (y_set (i := 6) sc_works_by.nd rfl (Or.inl rfl) x_non)) y_nil)
    (y_one (y_if (t_cmp (q_oEq hu) (x_op br_oMod (x_op br_oMod (x_op br_oMul (x_var 5) x_int) x_int) x_int) x_int (nomark _)) (y_cons (y_set (i := 3) sc_works_by.nd rfl (Or.inl rfl) (q_ix hu (x_lst (a_cons x_int (a_cons x_int (a_cons x_int (a_cons x_int a_nil))))) (x_op br_oMod (x_op br_oMod (x_op br_oMul (x_var 5) x_int) x_int) x_int)))
    (y_one (y_expr (x_append (x_var 1) (x_tup (a_cons (x_op br_oMod (x_var 4) x_int) (a_cons x_str (a_cons (x_var 3) (a_cons (x_var 2) (a_cons (x_var 6) a_nil)))))))))) (y_cons (y_set (i := 7) sc_works_by.nd rfl (Or.inl rfl) (q_ix hu (x_lst (a_cons (x_var 3) (a_cons x_non a_nil))) (x_bInt Z.n_int (a_cons (x_isN (x_var 6)) a_nil))))
    (y_one (y_expr (x_append (x_var 1) (x_tup (a_cons (x_op br_oMod (x_var 4) x_int) (a_cons x_str (a_cons (x_var 7) (a_cons (x_var 2) (a_cons (x_var 6) a_nil)))))))))))))))))
    (y_one (y_ret (x_var 1)))))))
theorem ok_harmed {fa : Addr} {fd : FuncData} (F : Fun K "_law_harmed" "_law_harmed" s_harmed fa fd) (hm : mg "_law_harmed" = some (.ref fa)) (hb : Binds K fd ["_law_works", "_law_order", "_law_cell"] []) (Z : Txt K mg) : Fn3 P w K mg base CX0 T0 1 "_law_harmed" 3 c_harmed :=
  fn3 (k := 0) F sc_harmed hm hb rfl rfl fun cdv A outer s H E hr => have hu := hr.units
    (y_cons (y_set (i := 3) sc_harmed.nd rfl (Or.inl rfl) (x_bList Z.n_list (a_cons (x_var 1) a_nil)))
    (y_cons (y_set (i := 4) sc_harmed.nd rfl (Or.inl rfl) (x_op br_oMod (x_op br_oMod (x_op br_oMul (x_var 2) x_int) x_int) (x_bMax rfl Z.n_max (a_cons x_int (a_cons (x_bLen Z.n_len (a_cons (x_var 3) a_nil)) a_nil)))))
    (y_cons (y_set (i := 5) sc_harmed.nd rfl (Or.inl rfl) (x_op br_oMod (x_op br_oMod (x_op br_oMul (x_var 2) x_int) x_int) x_int))
    (y_cons (y_if (PW.pt (w_and (t_cmp (q_oEq hu) (x_var 5) x_int (nomark _)) (w_and1 (t_cmp (q_oLt hu) (x_op br_oAdd (x_var 4) x_int) (x_bLen Z.n_len (a_cons (x_var 3) a_nil)) (nomark _))))) (y_one (y_asg (x_tup (a_cons (q_ix hu (x_var 3) (x_op br_oAdd (x_var 4) x_int)) (a_cons (q_ix hu (x_var 3) (x_var 4)) a_nil))) (g_tup rfl (ga_cons (g_sub hu (x_var 3) (x_var 4)) (ga_cons (g_sub hu (x_var 3) (x_op br_oAdd (x_var 4) x_int)) ga_nil))))) y_nil)
    (y_cons (y_if (t_cmp (q_oEq hu) (x_var 5) x_int (nomark _)) (y_one (y_set (i := 3) sc_harmed.nd rfl (Or.inl rfl) (x_op br_oAdd (x_slice (x_var 3) p_none (p_some (x_var 4))) (x_slice (x_var 3) (p_some (x_op br_oAdd (x_var 4) x_int)) p_none)))) y_nil)
    (y_cons (y_if (t_cmp (q_oEq hu) (x_var 5) x_int (nomark _)) (y_one (y_set (i := 3) sc_harmed.nd rfl (Or.inl rfl) (x_op br_oAdd (x_slice (x_var 3) p_none (p_some (x_op br_oAdd (x_var 4) x_int))) (x_slice (x_var 3) (p_some (x_var 4)) p_none)))) y_nil)
    (y_cons (y_if (t_cmp (q_oEq hu) (x_var 5) x_int (nomark _)) (y_cons (y_set (i := 6) sc_harmed.nd rfl (Or.inl rfl) (q_ix hu (x_lst (a_cons (x_un br_oNeg x_int) (a_cons (x_bLen Z.n_len (a_cons (x_var 0) a_nil)) a_nil))) (x_op br_oMod (x_op br_oMod (x_op br_oMul (x_var 2) x_int) x_int) x_int)))
    (y_one (y_set (i := 3) sc_harmed.nd rfl (Or.inl rfl) (x_op br_oAdd (x_op br_oAdd (x_slice (x_var 3) p_none (p_some (x_var 4))) (x_lst (a_cons (x_var 6) a_nil))) (x_slice (x_var 3) (p_some (x_var 4)) p_none))))) y_nil)
    (y_cons (y_if (t_cmp (q_oEq hu) (x_var 5) x_int (nomark _)) (y_one (y_set (i := 3) sc_harmed.nd rfl (Or.inl rfl) (x_listRev hr.hd Z.n_list Z.n_reversed (x_var 3)))) y_nil)
    (y_cons (y_if (t_cmp (q_oEq hu) (x_var 5) x_int (nomark _)) (y_one (y_set (i := 3) sc_harmed.nd rfl (Or.inl rfl) (x_op br_oAdd (x_slice (x_var 3) (p_some (x_var 4)) p_none) (x_slice (x_var 3) p_none (p_some (x_var 4)))))) y_nil)
    (y_cons (y_if (t_cmp (q_oEq hu) (x_var 5) x_int (nomark _)) (y_one (y_setComp (i := 3) (Blk.nil rfl rfl (by decide +kernel) rfl) rfl sc_harmed.nd rfl rfl (i_rng1 Z.n_range (x_bLen Z.n_len (a_cons (x_var 0) a_nil))) (fun _ _ _ _ _ => pts_nil) (fun _ _ _ _ _ => (x_var 0)))) y_nil)
    (y_one (y_ret (x_var 3)))))))))))))
theorem ok_room {fa : Addr} {fd : FuncData} (F : Fun K "_law_room" "_law_room" s_room fa fd) (hm : mg "_law_room" = some (.ref fa)) (hb : Binds K fd ["_law_script", "_law_most", "_law_bound"] []) (Z : Txt K mg) : Fn3 P w K mg base CX0 T0 1 "_law_room" 3 c_room :=
  fn3 (k := 0) F sc_room hm hb rfl rfl fun cdv A outer s H E hr => have hu := hr.units
    (y_cons (y_if (t_cmp (q_oGt hu) (x_bLen Z.n_len (a_cons (x_var 0) a_nil)) x_int (nomark _)) (y_one (y_ret (x_var 2))) y_nil)
    (y_one (y_ret (x_var 1))))
theorem ok_law {fa : Addr} {fd : FuncData} (F : Fun K "law" "law" s_law fa fd) (Z : Txt K mg) (F_explains : Fn3 P w K mg base CX0 T0 4 "explains" 2 c_explains) (F_at : Fn3 P w K mg base CX0 T0 1 "_law_at" 2 c_at) (F_one_explains : Fn3 P w K mg base CX0 T0 2 "_law_one_explains" 2 c_one_explains) (F_works_by : Fn3 P w K mg base CX0 T0 1 "_law_works_by" 1 c_works_by) (F_harmed : Fn3 P w K mg base CX0 T0 1 "_law_harmed" 3 c_harmed) (F_room : Fn3 P w K mg base CX0 T0 1 "_law_room" 3 c_room) : FnOk P w K mg base CX0 5 fa fd ["_law_script"] (sp3 T0 K 1 c_law) :=
  fnOk3 (k := 4) F sc_law rfl rfl fun cdv A outer s H E hr => have hu := hr.units
    (y_cons (y_set (i := 1) sc_law.nd rfl (Or.inl rfl) (q_ix hu (x_lst (a_cons x_int (a_cons x_int a_nil))) (x_op br_oMod (x_op br_oMod (x_op br_oMul (x_call F_at (hr.mono (by decide)) passA (a_cons (x_var 0) (a_cons x_int a_nil))) x_int) x_int) x_int)))
    (y_cons (y_set (i := 2) sc_law.nd rfl (Or.inl rfl) (x_call F_works_by (hr.mono (by decide)) passA (a_cons (x_slice (x_var 0) (p_some x_int) (p_some (x_op br_oAdd x_int (x_call F_room (hr.mono (by decide)) passA (a_cons (x_var 0) (a_cons (x_var 1) (a_cons x_int a_nil))))))) a_nil)))
    (y_cons (y_set (i := 3) sc_law.nd rfl (Or.inl rfl) (x_lst a_nil))
    (y_cons (y_for PassesOwn.never rfl (i_rng1 Z.n_range (x_bLen Z.n_len (a_cons (x_var 2) a_nil))) (g_nm (i := 4) sc_law.nd rfl (Or.inl rfl)) (y_one (y_if (PW.pt (w_or (t_notN (q_ix hu (q_ix hu (x_var 2) (x_var 4)) x_int)) (w_or1 (t_cmp (q_oEq hu) (q_ix hu (q_ix hu (x_var 2) (x_var 4)) x_int) x_str (nomark _))))) (y_one (y_expr (x_append (x_var 3) (x_var 4)))) y_nil)))
    (y_cons (y_set (i := 3) sc_law.nd rfl (Or.inl rfl) (x_call F_harmed (hr.mono (by decide)) passA (a_cons (x_var 2) (a_cons (x_var 3) (a_cons (x_call F_at (hr.mono (by decide)) passA (a_cons (x_var 0) (a_cons x_int a_nil))) a_nil)))))
    (y_cons (y_set (i := 5) sc_law.nd rfl (Or.inl rfl) (x_lst (a_cons (x_bList Z.n_list (a_cons (x_var 2) a_nil)) (a_cons (x_bList Z.n_list (a_cons (x_var 3) a_nil)) a_nil))))
    (y_cons (y_set (i := 6) sc_law.nd rfl (Or.inl rfl) (x_call F_explains (hr.mono (by decide)) passA (a_cons (q_ix hu (x_var 5) x_int) (a_cons (q_ix hu (x_var 5) x_int) a_nil))))
    (y_cons (y_if (PW.pt (w_or (t_cmp (q_oNe hu) (x_var 5) (x_lst (a_cons (x_var 2) (a_cons (x_var 3) a_nil))) (nomark _)) (w_or1 (t_not (t_of (x_is .bl Z.n_isinstance Z.n_bool (x_var 6))))))) (y_one (y_ret x_bl)) y_nil)
    (y_one (y_ret (x_cmp (q_oEq hu) (x_var 6) (x_call F_one_explains (hr.mono (by decide)) passA (a_cons (x_var 2) (a_cons (x_var 3) a_nil))) (nomark _))))))))))))
end
theorem all_mk {l : PySem.W.OpenLaw} {w : World} {K : PySem.W.Frag} {h : Heap} {mg : Str → Option Value} {fa : Addr} {f0 : Addr} {od0 an0 : Option Addr} {sl0 : Array (Option Value)} {oc0 kV0 dc0 pm0 cd0 ct0 : Value} {f1 : Addr} {od1 an1 : Option Addr} {sl1 : Array (Option Value)} {oc1 kV1 dc1 pm1 cd1 ct1 : Value} {f2 : Addr} {od2 an2 : Option Addr} {sl2 : Array (Option Value)} {oc2 kV2 dc2 pm2 cd2 ct2 : Value} {f3 : Addr} {od3 an3 : Option Addr} {sl3 : Array (Option Value)} {oc3 kV3 dc3 pm3 cd3 ct3 : Value} {f4 : Addr} {od4 an4 : Option Addr} {sl4 : Array (Option Value)} {oc4 kV4 dc4 pm4 cd4 ct4 : Value} {f5 : Addr} {od5 an5 : Option Addr} {sl5 : Array (Option Value)} {oc5 kV5 dc5 pm5 cd5 ct5 : Value} {f6 : Addr} {od6 an6 : Option Addr} {sl6 : Array (Option Value)} {oc6 kV6 dc6 pm6 cd6 ct6 : Value} {f7 : Addr} {od7 an7 : Option Addr} {sl7 : Array (Option Value)} {oc7 kV7 dc7 pm7 cd7 ct7 : Value} {f8 : Addr} {od8 an8 : Option Addr} {sl8 : Array (Option Value)} {oc8 kV8 dc8 pm8 cd8 ct8 : Value} {f9 : Addr} {od9 an9 : Option Addr} {sl9 : Array (Option Value)} {oc9 kV9 dc9 pm9 cd9 ct9 : Value} {f10 : Addr} {od10 an10 : Option Addr} {sl10 : Array (Option Value)} {oc10 kV10 dc10 pm10 cd10 ct10 : Value} {f11 : Addr} {od11 an11 : Option Addr} {sl11 : Array (Option Value)} {oc11 kV11 dc11 pm11 cd11 ct11 : Value} {f12 : Addr} {od12 an12 : Option Addr} {sl12 : Array (Option Value)} {oc12 kV12 dc12 pm12 cd12 ct12 : Value} {f13 : Addr} {od13 an13 : Option Addr} {sl13 : Array (Option Value)} {oc13 kV13 dc13 pm13 cd13 ct13 : Value} {f14 : Addr} {od14 an14 : Option Addr} {sl14 : Array (Option Value)} {oc14 kV14 dc14 pm14 cd14 ct14 : Value} (X : K.In h) (G : h.Ns mainGlobals mg) (hfa : mg "law" = some (.ref fa))
    (a0 : PySem.W.nsIn K mainGlobals "are_places" = some (some (.ref f0))) (l0 : K.lookup f0 = some ⟨oc0, od0, .func (PySem.W.fnOf "are_places" "are_places" (defArgs s_are_places) (defBody s_are_places) (defScope s_are_places) .none kV0 dc0 pm0 an0 cd0 ct0), sl0⟩) (c0 : PySem.W.codeIn K cd0 "are_places" = true) (k0 : PySem.W.keepIn K (.ref f0) = true)
    (a1 : PySem.W.nsIn K mainGlobals "has_ended" = some (some (.ref f1))) (l1 : K.lookup f1 = some ⟨oc1, od1, .func (PySem.W.fnOf "has_ended" "has_ended" (defArgs s_has_ended) (defBody s_has_ended) (defScope s_has_ended) .none kV1 dc1 pm1 an1 cd1 ct1), sl1⟩) (c1 : PySem.W.codeIn K cd1 "has_ended" = true) (k1 : PySem.W.keepIn K (.ref f1) = true)
    (a2 : PySem.W.nsIn K mainGlobals "is_read" = some (some (.ref f2))) (l2 : K.lookup f2 = some ⟨oc2, od2, .func (PySem.W.fnOf "is_read" "is_read" (defArgs s_is_read) (defBody s_is_read) (defScope s_is_read) .none kV2 dc2 pm2 an2 cd2 ct2), sl2⟩) (c2 : PySem.W.codeIn K cd2 "is_read" = true) (k2 : PySem.W.keepIn K (.ref f2) = true)
    (a3 : PySem.W.nsIn K mainGlobals "stand_rightly" = some (some (.ref f3))) (l3 : K.lookup f3 = some ⟨oc3, od3, .func (PySem.W.fnOf "stand_rightly" "stand_rightly" (defArgs s_stand_rightly) (defBody s_stand_rightly) (defScope s_stand_rightly) .none kV3 dc3 pm3 an3 cd3 ct3), sl3⟩) (c3 : PySem.W.codeIn K cd3 "stand_rightly" = true) (k3 : PySem.W.keepIn K (.ref f3) = true)
    (a4 : PySem.W.nsIn K mainGlobals "ended_before" = some (some (.ref f4))) (l4 : K.lookup f4 = some ⟨oc4, od4, .func (PySem.W.fnOf "ended_before" "ended_before" (defArgs s_ended_before) (defBody s_ended_before) (defScope s_ended_before) .none kV4 dc4 pm4 an4 cd4 ct4), sl4⟩) (c4 : PySem.W.codeIn K cd4 "ended_before" = true) (k4 : PySem.W.keepIn K (.ref f4) = true)
    (a5 : PySem.W.nsIn K mainGlobals "keeps_time" = some (some (.ref f5))) (l5 : K.lookup f5 = some ⟨oc5, od5, .func (PySem.W.fnOf "keeps_time" "keeps_time" (defArgs s_keeps_time) (defBody s_keeps_time) (defScope s_keeps_time) .none kV5 dc5 pm5 an5 cd5 ct5), sl5⟩) (c5 : PySem.W.codeIn K cd5 "keeps_time" = true) (k5 : PySem.W.keepIn K (.ref f5) = true)
    (a6 : PySem.W.nsIn K mainGlobals "reads_are_right" = some (some (.ref f6))) (l6 : K.lookup f6 = some ⟨oc6, od6, .func (PySem.W.fnOf "reads_are_right" "reads_are_right" (defArgs s_reads_are_right) (defBody s_reads_are_right) (defScope s_reads_are_right) .none kV6 dc6 pm6 an6 cd6 ct6), sl6⟩) (c6 : PySem.W.codeIn K cd6 "reads_are_right" = true) (k6 : PySem.W.keepIn K (.ref f6) = true)
    (a7 : PySem.W.nsIn K mainGlobals "explains" = some (some (.ref f7))) (l7 : K.lookup f7 = some ⟨oc7, od7, .func (PySem.W.fnOf "explains" "explains" (defArgs s_explains) (defBody s_explains) (defScope s_explains) .none kV7 dc7 pm7 an7 cd7 ct7), sl7⟩) (c7 : PySem.W.codeIn K cd7 "explains" = true) (k7 : PySem.W.keepIn K (.ref f7) = true)
    (a8 : PySem.W.nsIn K mainGlobals "_law_whole" = some (some (.ref f8))) (l8 : K.lookup f8 = some ⟨oc8, od8, .func (PySem.W.fnOf "_law_whole" "_law_whole" (defArgs s_whole) (defBody s_whole) (defScope s_whole) .none kV8 dc8 pm8 an8 cd8 ct8), sl8⟩) (c8 : PySem.W.codeIn K cd8 "_law_whole" = true) (k8 : PySem.W.keepIn K (.ref f8) = true)
    (a9 : PySem.W.nsIn K mainGlobals "_law_at" = some (some (.ref f9))) (l9 : K.lookup f9 = some ⟨oc9, od9, .func (PySem.W.fnOf "_law_at" "_law_at" (defArgs s_at) (defBody s_at) (defScope s_at) .none kV9 dc9 pm9 an9 cd9 ct9), sl9⟩) (c9 : PySem.W.codeIn K cd9 "_law_at" = true) (k9 : PySem.W.keepIn K (.ref f9) = true)
    (a10 : PySem.W.nsIn K mainGlobals "_law_one_explains" = some (some (.ref f10))) (l10 : K.lookup f10 = some ⟨oc10, od10, .func (PySem.W.fnOf "_law_one_explains" "_law_one_explains" (defArgs s_one_explains) (defBody s_one_explains) (defScope s_one_explains) .none kV10 dc10 pm10 an10 cd10 ct10), sl10⟩) (c10 : PySem.W.codeIn K cd10 "_law_one_explains" = true) (k10 : PySem.W.keepIn K (.ref f10) = true)
    (a11 : PySem.W.nsIn K mainGlobals "_law_works_by" = some (some (.ref f11))) (l11 : K.lookup f11 = some ⟨oc11, od11, .func (PySem.W.fnOf "_law_works_by" "_law_works_by" (defArgs s_works_by) (defBody s_works_by) (defScope s_works_by) .none kV11 dc11 pm11 an11 cd11 ct11), sl11⟩) (c11 : PySem.W.codeIn K cd11 "_law_works_by" = true) (k11 : PySem.W.keepIn K (.ref f11) = true)
    (a12 : PySem.W.nsIn K mainGlobals "_law_harmed" = some (some (.ref f12))) (l12 : K.lookup f12 = some ⟨oc12, od12, .func (PySem.W.fnOf "_law_harmed" "_law_harmed" (defArgs s_harmed) (defBody s_harmed) (defScope s_harmed) .none kV12 dc12 pm12 an12 cd12 ct12), sl12⟩) (c12 : PySem.W.codeIn K cd12 "_law_harmed" = true) (k12 : PySem.W.keepIn K (.ref f12) = true)
    (a13 : PySem.W.nsIn K mainGlobals "_law_room" = some (some (.ref f13))) (l13 : K.lookup f13 = some ⟨oc13, od13, .func (PySem.W.fnOf "_law_room" "_law_room" (defArgs s_room) (defBody s_room) (defScope s_room) .none kV13 dc13 pm13 an13 cd13 ct13), sl13⟩) (c13 : PySem.W.codeIn K cd13 "_law_room" = true) (k13 : PySem.W.keepIn K (.ref f13) = true)
    (a14 : PySem.W.nsIn K mainGlobals "law" = some (some (.ref f14))) (l14 : K.lookup f14 = some ⟨oc14, od14, .func (PySem.W.fnOf "law" "law" (defArgs s_law) (defBody s_law) (defScope s_law) .none kV14 dc14 pm14 an14 cd14 ct14), sl14⟩) (c14 : PySem.W.codeIn K cd14 "law" = true) (k14 : PySem.W.keepIn K (.ref f14) = true)
    (z_len : PySem.W.nsIn K mainGlobals "len" = some none)
    (z_enumerate : PySem.W.nsIn K mainGlobals "enumerate" = some none)
    (z_int : PySem.W.nsIn K mainGlobals "int" = some none)
    (z_isinstance : PySem.W.nsIn K mainGlobals "isinstance" = some none)
    (z_bool : PySem.W.nsIn K mainGlobals "bool" = some none)
    (z_range : PySem.W.nsIn K mainGlobals "range" = some none)
    (z_list : PySem.W.nsIn K mainGlobals "list" = some none)
    (z_max : PySem.W.nsIn K mainGlobals "max" = some none)
    (z_reversed : PySem.W.nsIn K mainGlobals "reversed" = some none) :
    ∃ fd : FuncData, (∀ (s : Shared) (v : Value), BindsTo s fd ⟨[v], []⟩ [("_law_script", v)]) ∧ ∀ base : Heap, K.In base → base.Ns mainGlobals mg → FnOk l.prog w K mg base CX0 5 fa fd ["_law_script"] (sp3 T0 K 1 c_law) := by
  have e := hfa.symm.trans (PySem.W.mg_of X G a14)
  cases e
  have Z : Txt K mg := ⟨PySem.W.mg_none_of X G z_len, PySem.W.mg_none_of X G z_enumerate, PySem.W.mg_none_of X G z_int, PySem.W.mg_none_of X G z_isinstance, PySem.W.mg_none_of X G z_bool, PySem.W.mg_none_of X G z_range, PySem.W.mg_none_of X G z_list, PySem.W.mg_none_of X G z_max, PySem.W.mg_none_of X G z_reversed⟩
  have F0 := fun_mk (st := s_are_places) l0 c0 k0
  have b0 := F0.binds (ps := ["works", "order"]) fun _ _ _ _ _ _ us hl => match us, hl with | [_, _], _ => rfl
  have F1 := fun_mk (st := s_has_ended) l1 c1 k1
  have b1 := F1.binds (ps := ["work"]) fun _ _ _ _ _ _ us hl => match us, hl with | [_], _ => rfl
  have F2 := fun_mk (st := s_is_read) l2 c2 k2
  have b2 := F2.binds (ps := ["work"]) fun _ _ _ _ _ _ us hl => match us, hl with | [_], _ => rfl
  have F3 := fun_mk (st := s_stand_rightly) l3 c3 k3
  have b3 := F3.binds (ps := ["works", "order"]) fun _ _ _ _ _ _ us hl => match us, hl with | [_, _], _ => rfl
  have F4 := fun_mk (st := s_ended_before) l4 c4 k4
  have b4 := F4.binds (ps := ["work", "other"]) fun _ _ _ _ _ _ us hl => match us, hl with | [_, _], _ => rfl
  have F5 := fun_mk (st := s_keeps_time) l5 c5 k5
  have b5 := F5.binds (ps := ["works", "order"]) fun _ _ _ _ _ _ us hl => match us, hl with | [_, _], _ => rfl
  have F6 := fun_mk (st := s_reads_are_right) l6 c6 k6
  have b6 := F6.binds (ps := ["works", "order"]) fun _ _ _ _ _ _ us hl => match us, hl with | [_, _], _ => rfl
  have F7 := fun_mk (st := s_explains) l7 c7 k7
  have b7 := F7.binds (ps := ["works", "order"]) fun _ _ _ _ _ _ us hl => match us, hl with | [_, _], _ => rfl
  have F8 := fun_mk (st := s_whole) l8 c8 k8
  have b8 := F8.binds (ps := ["_law_found"]) fun _ _ _ _ _ _ us hl => match us, hl with | [_], _ => rfl
  have F9 := fun_mk (st := s_at) l9 c9 k9
  have b9 := F9.binds (ps := ["_law_script", "_law_k"]) fun _ _ _ _ _ _ us hl => match us, hl with | [_, _], _ => rfl
  have F10 := fun_mk (st := s_one_explains) l10 c10 k10
  have b10 := F10.binds (ps := ["_law_works", "_law_order"]) fun _ _ _ _ _ _ us hl => match us, hl with | [_, _], _ => rfl
  have F11 := fun_mk (st := s_works_by) l11 c11 k11
  have b11 := F11.binds (ps := ["_law_cells"]) fun _ _ _ _ _ _ us hl => match us, hl with | [_], _ => rfl
  have F12 := fun_mk (st := s_harmed) l12 c12 k12
  have b12 := F12.binds (ps := ["_law_works", "_law_order", "_law_cell"]) fun _ _ _ _ _ _ us hl => match us, hl with | [_, _, _], _ => rfl
  have F13 := fun_mk (st := s_room) l13 c13 k13
  have b13 := F13.binds (ps := ["_law_script", "_law_most", "_law_bound"]) fun _ _ _ _ _ _ us hl => match us, hl with | [_, _, _], _ => rfl
  have F14 := fun_mk (st := s_law) l14 c14 k14
  refine ⟨PySem.W.fnOf "law" "law" (defArgs s_law) (defBody s_law) (defScope s_law) .none kV14 dc14 pm14 an14 cd14 ct14, fun s v => .of_eq rfl, fun base _ _ => ?_⟩
  have G_are_places := ok_are_places (P := l.prog) (w := w) (base := base) F0 (PySem.W.mg_of X G a0) b0 Z
  have G_has_ended := ok_has_ended (P := l.prog) (w := w) (base := base) F1 (PySem.W.mg_of X G a1) b1 Z
  have G_is_read := ok_is_read (P := l.prog) (w := w) (base := base) F2 (PySem.W.mg_of X G a2) b2 Z
  have G_stand_rightly := ok_stand_rightly (P := l.prog) (w := w) (base := base) F3 (PySem.W.mg_of X G a3) b3 Z G_has_ended G_is_read
  have G_ended_before := ok_ended_before (P := l.prog) (w := w) (base := base) F4 (PySem.W.mg_of X G a4) b4 Z G_has_ended
  have G_keeps_time := ok_keeps_time (P := l.prog) (w := w) (base := base) F5 (PySem.W.mg_of X G a5) b5 Z G_ended_before
  have G_reads_are_right := ok_reads_are_right (P := l.prog) (w := w) (base := base) F6 (PySem.W.mg_of X G a6) b6 Z G_is_read
  have G_explains := ok_explains (P := l.prog) (w := w) (base := base) F7 (PySem.W.mg_of X G a7) b7 Z G_are_places G_stand_rightly G_keeps_time G_reads_are_right
  have G_whole := ok_whole (P := l.prog) (w := w) (base := base) F8 (PySem.W.mg_of X G a8) b8 Z
  have G_at := ok_at (P := l.prog) (w := w) (base := base) F9 (PySem.W.mg_of X G a9) b9 Z
  have G_one_explains := ok_one_explains (P := l.prog) (w := w) (base := base) F10 (PySem.W.mg_of X G a10) b10 Z G_whole
  have G_works_by := ok_works_by (P := l.prog) (w := w) (base := base) F11 (PySem.W.mg_of X G a11) b11 Z
  have G_harmed := ok_harmed (P := l.prog) (w := w) (base := base) F12 (PySem.W.mg_of X G a12) b12 Z
  have G_room := ok_room (P := l.prog) (w := w) (base := base) F13 (PySem.W.mg_of X G a13) b13 Z
  exact ok_law F14 Z G_explains G_at G_one_explains G_works_by G_harmed G_room
theorem walk {l : PySem.W.OpenLaw} {q : Program} {loose : List Str} {XP : (Str → Option Value) → Heap → Prop} {YP : World → Heap → Prop} {d : DefRec} {K : Params → PySem.W.Frag} (hn : l.most = some 63) (hdf : d.params.defaults = [])
    (hY : ∀ (w : World) (h : Heap), YP w h → (K w.params).In h) (hl : ∀ ns : List Int, ns.length ≤ 63 → M3.run (c_law [.ref 0]) [.frz (ns.map M3.D.int)] (fun d _ => d = .bl true) fun _ _ => False)
    (F : ∀ (w : World) (mg : Str → Option Value) (fa : Addr) (h : Heap), (K w.params).In h → h.Ns mainGlobals mg → mg d.name = some (.ref fa) →
      ∃ fd : FuncData, (∀ (s : Shared) (u : Value), BindsTo s fd ⟨[u], []⟩ [("_law_script", u)]) ∧ ∀ base : Heap, (K w.params).In base → base.Ns mainGlobals mg → FnOk l.prog w (K w.params) mg base CX0 5 fa fd ["_law_script"] (sp3 T0 (K w.params) 1 c_law)) :
    PySem.W.WalkO q loose XP YP l.row.toRowW d [] (fun f vs => PySem.call f vs) :=
  L2.walk_of (n := 63) (k := 5) (x := "_law_script") (CX := fun _ => CX0) (sp := fun w => sp3 T0 (K w.params) 1 c_law) hn (by decide) hdf ⟨rfl, by decide, by decide⟩ hY F (fun _ _ a ns h1 h2 h3 => law_sp hl h1 h2 h3) fun _ _ _ _ _ z => z
end LK
open PySem PySem.W PyProof.Rows
set_option maxRecDepth 100000 in
set_option maxHeartbeats 0 in
theorem PySem.Challenge.cw_halfask_k08_whole_orders_judged_holds : PySem.Challenge.rw_halfask_k08_whole_orders_judged.Holds := by
  w_on; o_law; k_head; (case hw => w_witness2)
  k_fill
  refine LK.walk (l := PySem.Challenge.rw_halfask_k08_whole_orders_judged) rfl rfl (fun w h Y => PySem.W.kIn_of Y) KS.law_true ?F
  case F =>
    intro w mg fa h KX G hmg
    refine' LK.all_mk KX G hmg ?a0 ?l0 ?c0 ?k0 ?a1 ?l1 ?c1 ?k1 ?a2 ?l2 ?c2 ?k2 ?a3 ?l3 ?c3 ?k3 ?a4 ?l4 ?c4 ?k4 ?a5 ?l5 ?c5 ?k5 ?a6 ?l6 ?c6 ?k6 ?a7 ?l7 ?c7 ?k7 ?a8 ?l8 ?c8 ?k8 ?a9 ?l9 ?c9 ?k9 ?a10 ?l10 ?c10 ?k10 ?a11 ?l11 ?c11 ?k11 ?a12 ?l12 ?c12 ?k12 ?a13 ?l13 ?c13 ?k13 ?a14 ?l14 ?c14 ?k14 ?z_len ?z_enumerate ?z_int ?z_isinstance ?z_bool ?z_range ?z_list ?z_max ?z_reversed
    (case a0 => k_is)
    (case l0 => k_is)
    (case c0 => k_is)
    (case k0 => k_is)
    (case a1 => k_is)
    (case l1 => k_is)
    (case c1 => k_is)
    (case k1 => k_is)
    (case a2 => k_is)
    (case l2 => k_is)
    (case c2 => k_is)
    (case k2 => k_is)
    (case a3 => k_is)
    (case l3 => k_is)
    (case c3 => k_is)
    (case k3 => k_is)
    (case a4 => k_is)
    (case l4 => k_is)
    (case c4 => k_is)
    (case k4 => k_is)
    (case a5 => k_is)
    (case l5 => k_is)
    (case c5 => k_is)
    (case k5 => k_is)
    (case a6 => k_is)
    (case l6 => k_is)
    (case c6 => k_is)
    (case k6 => k_is)
    (case a7 => k_is)
    (case l7 => k_is)
    (case c7 => k_is)
    (case k7 => k_is)
    (case a8 => k_is)
    (case l8 => k_is)
    (case c8 => k_is)
    (case k8 => k_is)
    (case a9 => k_is)
    (case l9 => k_is)
    (case c9 => k_is)
    (case k9 => k_is)
    (case a10 => k_is)
    (case l10 => k_is)
    (case c10 => k_is)
    (case k10 => k_is)
    (case a11 => k_is)
    (case l11 => k_is)
    (case c11 => k_is)
    (case k11 => k_is)
    (case a12 => k_is)
    (case l12 => k_is)
    (case c12 => k_is)
    (case k12 => k_is)
    (case a13 => k_is)
    (case l13 => k_is)
    (case c13 => k_is)
    (case k13 => k_is)
    (case a14 => k_is)
    (case l14 => k_is)
    (case c14 => k_is)
    (case k14 => k_is)
    (case z_len => k_is)
    (case z_enumerate => k_is)
    (case z_int => k_is)
    (case z_isinstance => k_is)
    (case z_bool => k_is)
    (case z_range => k_is)
    (case z_list => k_is)
    (case z_max => k_is)
    (case z_reversed => k_is)
