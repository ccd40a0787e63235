import PyProof.Rows.All
import Wide.All
import OpenK.AllK
import Wide.FinOn
import PyProof.EqAt
import PyProof.EqKinds
import PyProof.TupleCall
import PySem.Challenge.RW_widekind_k01_kinds_of_kinds
-- CHANGE: your row's module here, as the last of these rows
set_option Elab.async false
set_option linter.all false
set_option maxRecDepth 100000
/-! THE HAND LAYER, for ints, bools, texts, own classes, LISTS and tuples (index, slices, in, append, pop ..), calls, loops. Paste it whole ahead of your own text; what your proof does not reach may be deleted. -/
namespace L2
open PySem PySem.Spec PyProof.Rows

/-- a key: an int or a str -/
abbrev Key := Sum Int Str
def keyIs : Key → Value → Bool
  | .inl k, v => Value.isInt k v
  | .inr x, v => Value.isStrOf x v
def keyH (w : World) : Key → Int
  | .inl k => hashInt k
  | .inr x => hashStr w x
theorem keyIs_shape : ∀ {k : Key} {v : Value}, keyIs k v = true → (∃ i t, k = Sum.inl i ∧ v = Value.int i t) ∨ (∃ x t, k = Sum.inr x ∧ v = Value.str x t)
  | .inl i, v, h => by
    obtain ⟨t, e⟩ := Value.isInt_shape (k := i) (v := v) h
    exact .inl ⟨i, t, rfl, e⟩
  | .inr x, v, h => by
    obtain ⟨t, e⟩ := Value.isStrOf_shape (x := x) (v := v) h
    exact .inr ⟨x, t, rfl, e⟩
theorem keyIs_int (i : Int) (t : Tok) : keyIs (.inl i) (.int i t) = true := by simp [keyIs, Value.isInt]
theorem keyIs_str (x : Str) (t : Tok) : keyIs (.inr x) (.str x t) = true := by simp [keyIs, Value.isStrOf]
theorem key_ll (a b : Int) : decide ((Sum.inl a : Key) = Sum.inl b) = (a == b) := by
  by_cases e : a = b
  · subst e; simp
  · have h : ¬ (Sum.inl a : Key) = Sum.inl b := fun q => e (Sum.inl.inj q)
    rw [decide_eq_false h]
    exact (beq_eq_false_iff_ne.mpr e).symm
theorem key_rr (a b : Str) : decide ((Sum.inr a : Key) = Sum.inr b) = decide (a = b) := by
  by_cases e : a = b
  · subst e; simp
  · have h : ¬ (Sum.inr a : Key) = Sum.inr b := fun q => e (Sum.inr.inj q)
    rw [decide_eq_false h, decide_eq_false e]
theorem key_lr (a : Int) (b : Str) : decide ((Sum.inl a : Key) = Sum.inr b) = false := decide_eq_false (fun q => nomatch q)
theorem key_rl (a : Str) (b : Int) : decide ((Sum.inr a : Key) = Sum.inl b) = false := decide_eq_false (fun q => nomatch q)

def mixKind (prog : Program) (w : World) : PySem.KeyKind prog w Key where
  is := keyIs
  hash := keyH w
  inj := fun v a b ha hb => by
    rcases keyIs_shape ha with ⟨i, t, rfl, rfl⟩ | ⟨x, t, rfl, rfl⟩
    · rcases keyIs_shape hb with ⟨j, u, rfl, e⟩ | ⟨y, u, rfl, e⟩
      · injection e with e1 _; rw [e1]
      · exact nomatch e
    · rcases keyIs_shape hb with ⟨j, u, rfl, e⟩ | ⟨y, u, rfl, e⟩
      · exact nomatch e
      · injection e with e1 _; rw [e1]
  byValue := fun k v h => by
    rcases keyIs_shape h with ⟨i, t, rfl, rfl⟩ | ⟨x, t, rfl, rfl⟩ <;> rfl
  pyHash := fun hv h => by
    rcases keyIs_shape hv with ⟨i, t, rfl, rfl⟩ | ⟨x, t, rfl, rfl⟩
    · exact wpAny_pyHash_int h
    · exact wpAny_pyHash_str h
  eqBool := fun hu hv h => by
    rcases keyIs_shape hu with ⟨i, t, rfl, rfl⟩ | ⟨x, t, rfl, rfl⟩
    · rcases keyIs_shape hv with ⟨j, u, rfl, rfl⟩ | ⟨y, u, rfl, rfl⟩
      · rw [key_ll] at h; exact wpAny_eqBool_int h
      · rw [key_lr] at h; exact SeqAt.EqAt.int_str i t y u _ _ _ _ h
    · rcases keyIs_shape hv with ⟨j, u, rfl, rfl⟩ | ⟨y, u, rfl, rfl⟩
      · rw [key_rl] at h; exact SeqAt.EqAt.str_int x t j u _ _ _ _ h
      · rw [key_rr] at h; exact wpAny_eqBool_str h
  «strs» := fun k x t v h => by
    rcases keyIs_shape h with ⟨i, u, rfl, e⟩ | ⟨y, u, rfl, e⟩
    · exact nomatch e
    · injection e with e1 _
      subst e1
      cases v <;> rfl

theorem mixKind_is (prog : Program) (w : World) (k : Key) (v : Value) : (mixKind prog w).is k v = keyIs k v := rfl
theorem mixKind_int (prog : Program) (w : World) (i : Int) (t : Tok) : (mixKind prog w).is (.inl i) (.int i t) = true := keyIs_int i t
theorem mixKind_str (prog : Program) (w : World) (x : Str) (t : Tok) : (mixKind prog w).is (.inr x) (.str x t) = true := keyIs_str x t
end L2

namespace L2
open PySem PySem.Spec PyProof.Rows

/-- a value, without the heap -/
inductive V where
  | non | bl (b : Bool) | int (i : Int) | str (x : Str) | byt (b : Array UInt8) | flt (b : UInt64) | ref (a : Addr) | ty (n : String)
  deriving DecidableEq

def RelV : V → Value → Prop
  | .non, u => u = Value.none
  | .bl b, u => u = Value.bool b
  | .int i, u => ∃ t, u = Value.int i t
  | .str x, u => ∃ t, u = Value.str x t
  | .byt b, u => ∃ t, u = Value.bytes b t
  | .flt b, u => ∃ t, u = Value.float b t
  | .ref a, u => u = Value.ref a
  | .ty n, u => u = Value.type n

abbrev Vals : List V → List Value → Prop := Paired RelV
theorem Vals.length {xs : List V} {us : List Value} (r : Vals xs us) : xs.length = us.length := Paired.length r
theorem Vals.get : ∀ {xs : List V} {us : List Value} {i : Nat} {x : V}, Vals xs us → xs[i]? = some x → ∃ u, us[i]? = some u ∧ RelV x u
  | _, _, _, _, .nil, e => by simp at e
  | _, _, 0, _, .cons r _, e => by simp at e; subst e; exact ⟨_, rfl, r⟩
  | _, _, i + 1, x, .cons _ t, e => by
    obtain ⟨u, h1, h2⟩ := Vals.get (i := i) (x := x) t (by simpa using e)
    exact ⟨u, by simpa using h1, h2⟩
theorem Vals.set {x : V} {u : Value} (r : RelV x u) : ∀ {xs : List V} {us : List Value} (i : Nat), Vals xs us → Vals (xs.set i x) (us.set i u)
  | _, _, _, .nil => .nil
  | _, _, 0, .cons _ t => .cons r t
  | _, _, i + 1, .cons q t => .cons q (Vals.set r i t)
theorem Vals.append : ∀ {xs ys : List V} {us ws : List Value}, Vals xs us → Vals ys ws → Vals (xs ++ ys) (us ++ ws)
  | _, _, _, _, .nil, s => s
  | _, _, _, _, .cons r t, s => .cons r (Vals.append t s)
theorem Vals.take : ∀ {xs : List V} {us : List Value} (n : Nat), Vals xs us → Vals (xs.take n) (us.take n)
  | _, _, 0, _ => .nil
  | _, _, _ + 1, .nil => .nil
  | _, _, n + 1, .cons r t => .cons r (Vals.take n t)
theorem Vals.drop : ∀ {xs : List V} {us : List Value} (n : Nat), Vals xs us → Vals (xs.drop n) (us.drop n)
  | _, _, 0, r => r
  | _, _, _ + 1, .nil => .nil
  | _, _, n + 1, .cons _ t => Vals.drop n t
theorem Vals.none_of : ∀ {xs : List V} {us : List Value} {i : Nat}, Vals xs us → xs[i]? = none → us[i]? = none := fun {xs us i} r e => by
  have h1 := r.length
  have h2 : xs.length ≤ i := List.getElem?_eq_none_iff.mp e
  exact List.getElem?_eq_none_iff.mpr (by omega)

def RelO : Option V → Option Value → Prop
  | some v, some u => RelV v u
  | none, none => True
  | _, _ => False
def KV {κ : Type} : List (κ × V) → List (κ × Value) → Prop := Paired fun (p : κ × V) (q : κ × Value) => p.1 = q.1 ∧ RelV p.2 q.2

/-- a key of a dict (00_mix): an int or a text -/
def kV : Key → V
  | .inl i => .int i
  | .inr x => .str x

/-- what stands at a tracked address -/
inductive HO where
  /-- a list -/
  | lst (xs : List V)
  /-- a tuple (never changes) -/
  | tup (xs : List V)
  /-- a dict whose keys are ints and texts; one whose keys are tuples of ints and texts (the empty one is both) -/
  | dK (kvs : List (Key × V)) | dT (kvs : List (List Key × V))
  /-- a set of ints: its members, its size -/
  | set (S : Int → Bool) (n : Nat)
  /-- an instance of the class at C, its dict at dx, its attributes -/
  | ins (C dx : Addr) (fs : List (Str × V))
  /-- the dict of the instance at x -/
  | own (x : Addr)
  /-- the dict of an exception -/
  | xd (fs : List (Str × V))
  /-- a bound method, f of x -/
  | met (f x : Addr)
  /-- a range object lo, lo + 1, .. below hi -/
  | rng (lo hi : Int)
  /-- a thing that is known to the object (the script; a dict while a loop walks it): read, never written while it is so -/
  | frz (o : Obj) (u : HO)
  /-- a code object's table -/
  | tbl (ps : Array Value)
  /-- any other thing, by what is true of its one object (a def of one's own: SetO a S n := HO.ext fun h => ..) -/
  | ext (φ : Heap → Prop)

abbrev Hp := Addr → Option HO
def upd (H : Hp) (a : Addr) (o : HO) : Hp := fun b => if b = a then some o else H b
theorem upd_same {H : Hp} {a : Addr} {o : HO} : upd H a o a = some o := by unfold upd; rw [if_pos rfl]
theorem upd_ne {H : Hp} {a b : Addr} {o : HO} (h : b ≠ a) : upd H a o b = H b := by unfold upd; rw [if_neg h]
theorem upd_upd {H : Hp} {a : Addr} {o u : HO} : upd (upd H a o) a u = upd H a u := by
  funext b; unfold upd; split <;> rfl
/-- two objects of different content stand apart -/
theorem ne_of {H : Hp} {a b : Addr} {o u : HO} (h : H a = some o) (h' : H b = some u) (d : o ≠ u) : a ≠ b := by
  intro e; subst e; rw [h] at h'; exact d (Option.some.inj h')
theorem ne_of_none {H : Hp} {a b : Addr} {o : HO} (h : H a = some o) (h' : H b = none) : a ≠ b := by
  intro e; subst e; rw [h] at h'; cases h'

section
variable (P : Program) (w : World)
def ObjOk (H : Hp) (h : Heap) (a : Addr) : HO → Prop
  | .lst xs => xs.length ≤ sizeLine ∧ ∃ (its : List Value) (n : Nat), Vals xs its ∧ h.get? a = some { cls := .type "list", data := .seq its.toArray n }
  | .tup xs => xs.length ≤ sizeLine ∧ ∃ its : List Value, Vals xs its ∧ IsTup h a its.toArray
  | .dK kvs => kvs.length ≤ sizeLine ∧ (a == sysModules) = false ∧ ∃ vs, KV kvs vs ∧ h.DictOf (mixKind P w) a vs
  | .dT kvs => kvs.length ≤ sizeLine ∧ (a == sysModules) = false ∧ ∃ xs : List (List Key × Addr × Value),
      Paired (fun (p : List Key × V) (q : List Key × Addr × Value) => p.1 = q.1 ∧ H q.2.1 = some (.tup (p.1.map kV)) ∧ RelV p.2 q.2.2) kvs xs ∧
      ∃ o es ep, h.get? a = some o ∧ o.ExactDict ∧ o.data = .dict es ep ∧ es.toList = xs.map (entryOfKey (tupleKind (mixKind P w))) ∧ (xs.map (·.1)).Nodup
  | .set S n => h.SetOf (intKind P w) a S n
  | .ins C dx fs => H dx = some (.own a) ∧ fs.length ≤ 1000 ∧ dx ≠ a ∧ h.get? a = some (PySem.W.instObj C dx) ∧
      ∃ mA, h.Ns1 dx mA ∧ (∀ f, RelO (fs.lookup f) (mA f)) ∧ PySem.Within mA (fs.map (·.1))
  | .own _ => ∃ o, h.get? a = some o
  | .xd fs => ∃ mA, h.Ns1 a mA ∧ ∀ f, RelO (fs.lookup f) (mA f)
  | .rng lo hi => ∃ t u v, h.get? a = some { cls := .type "range", data := .fields #[.int lo t, .int hi u, .int 1 v] }
  | .frz o u => h.get? a = some o ∧ ObjOk H h a u
  | .tbl ps => h.get? a = some { cls := .none, data := .fields ps }
  | .met f x => h.get? a = some (PySem.W.methodObj (.ref f) (.ref x))
  | .ext φ => φ h ∧ (∃ o, h.get? a = some o) ∧ ∀ h1 h2 : Heap, φ h1 → (∀ o, h1.get? a = some o → h2.get? a = some o) → φ h2
/-- the abstract heap is held -/
def HOk (H : Hp) (h : Heap) : Prop := ∀ a o, H a = some o → ObjOk P w H h a o
end

section
variable {P : Program} {w : World} {H H' : Hp} {h h' : Heap} {a : Addr} {o : HO}
theorem ObjOk.lt (x : ObjOk P w H h a o) : a < h.objs.size := by
  cases o with
  | lst xs => obtain ⟨_, _, _, _, e⟩ := x; exact Heap.lt_size e
  | tup xs => obtain ⟨_, _, _, p⟩ := x; exact p.lt
  | dK kvs => obtain ⟨_, _, _, _, o, _, _, e, _⟩ := x; exact Heap.lt_size e
  | dT kvs => obtain ⟨_, _, _, _, o, _, _, e, _⟩ := x; exact Heap.lt_size e
  | set S n => obtain ⟨o, _, _, _, e, _⟩ := x; exact Heap.lt_size e
  | ins C dx fs => obtain ⟨_, _, _, e, _⟩ := x; exact Heap.lt_size e
  | own y => obtain ⟨_, e⟩ := x; exact Heap.lt_size e
  | xd fs => obtain ⟨_, ⟨_, _, _, e, _⟩, _⟩ := x; exact Heap.lt_size e
  | rng lo hi => obtain ⟨_, _, _, e⟩ := x; exact Heap.lt_size e
  | frz ob u => obtain ⟨e, _⟩ := x; exact Heap.lt_size e
  | tbl ps => exact Heap.lt_size (show h.get? a = some _ from x)
  | met f y => exact Heap.lt_size (show h.get? a = some _ from x)
  | ext φ => obtain ⟨_, ⟨_, e⟩, _⟩ := x; exact Heap.lt_size e
theorem Paired.mapP {α β : Type} {F G : α → β → Prop} : ∀ {l₁ : List α} {l₂ : List β}, Paired F l₁ l₂ → (∀ a b, F a b → G a b) → Paired G l₁ l₂
  | _, _, .nil, _ => .nil
  | _, _, .cons r t, f => .cons (f _ _ r) (Paired.mapP t f)
theorem Paired.imp' {α β : Type} {F G : α → β → Prop} (f : ∀ a b, F a b → G a b) {l₁ : List α} {l₂ : List β} (r : Paired F l₁ l₂) : Paired G l₁ l₂ := Paired.mapP r f
/-- what an object's description leans on: its own object, its own dict, the tuples -/
theorem ObjOk.stay (x : ObjOk P w H h a o) (k : ∀ b u, (b = a ∨ H b = some (.own a)) → h.get? b = some u → h'.get? b = some u)
    (ho : ∀ b, H b = some (.own a) → H' b = some (.own a)) (ht : ∀ b xs, H b = some (.tup xs) → H' b = some (.tup xs)) : ObjOk P w H' h' a o := by
  induction o with
  | lst xs => obtain ⟨z, its, n, r, e⟩ := x; exact ⟨z, its, n, r, k _ _ (.inl rfl) e⟩
  | tup xs => obtain ⟨z, its, r, ob, e, c⟩ := x; exact ⟨z, its, r, ob, k _ _ (.inl rfl) e, c⟩
  | dK kvs => obtain ⟨z, y, vs, r, ob, es, ep, e, c⟩ := x; exact ⟨z, y, vs, r, ob, es, ep, k _ _ (.inl rfl) e, c⟩
  | dT kvs =>
    obtain ⟨z, y, xs, r, ob, es, ep, e, c⟩ := x
    exact ⟨z, y, xs, Paired.mapP r fun p q z => ⟨z.1, ht _ _ z.2.1, z.2.2⟩, ob, es, ep, k _ _ (.inl rfl) e, c⟩
  | set S n => obtain ⟨ob, es, ep, t, e, c⟩ := x; exact ⟨ob, es, ep, t, k _ _ (.inl rfl) e, c⟩
  | ins C dx fs =>
    obtain ⟨d, z, ne, e, mA, ⟨od, es, ep, e2, c⟩, r⟩ := x
    exact ⟨ho _ d, z, ne, k _ _ (.inl rfl) e, mA, ⟨od, es, ep, k _ _ (.inr d) e2, c⟩, r⟩
  | own y => obtain ⟨ob, e⟩ := x; exact ⟨ob, k _ _ (.inl rfl) e⟩
  | xd fs => obtain ⟨mA, ⟨od, es, ep, e, c⟩, r⟩ := x; exact ⟨mA, ⟨od, es, ep, k _ _ (.inl rfl) e, c⟩, r⟩
  | rng lo hi => obtain ⟨t, u, v, e⟩ := x; exact ⟨t, u, v, k _ _ (.inl rfl) e⟩
  | frz ob u ih => obtain ⟨e, q⟩ := x; exact ⟨k _ _ (.inl rfl) e, ih q⟩
  | tbl ps =>
    have e : h.get? a = some { cls := .none, data := .fields ps } := x
    show h'.get? a = some { cls := .none, data := .fields ps }
    exact k a _ (.inl rfl) e
  | met f y =>
    have e : h.get? a = some (PySem.W.methodObj (.ref f) (.ref y)) := x
    show h'.get? a = some (PySem.W.methodObj (.ref f) (.ref y))
    exact k a _ (.inl rfl) e
  | ext φ => obtain ⟨p, ⟨o, e⟩, st⟩ := x; exact ⟨st _ _ p fun o q => k _ _ (.inl rfl) q, ⟨o, k _ _ (.inl rfl) e⟩, st⟩
theorem HOk.lt (x : HOk P w H h) (e : H a = some o) : a < h.objs.size := (x a o e).lt
theorem HOk.fresh (x : HOk P w H h) (e : h.objs.size ≤ a) : H a = none := by
  cases q : H a with
  | none => rfl
  | some u => exact absurd (Nat.lt_of_lt_of_le (x.lt q) e) (Nat.lt_irrefl _)
/-- every object of the heap is kept -/
theorem HOk.kept (x : HOk P w H h) (k : ∀ b u, h.get? b = some u → h'.get? b = some u) : HOk P w H h' := fun a o e =>
  (x a o e).stay (fun b u _ q => k b u q) (fun _ q => q) fun _ _ q => q
/-- a new object is laid and tracked -/
theorem HOk.laid (x : HOk P w H h) (k : ∀ b u, h.get? b = some u → h'.get? b = some u) (hp : h.objs.size ≤ a) (new : ObjOk P w (upd H a o) h' a o) : HOk P w (upd H a o) h' := fun b u e => by
  have hn := x.fresh hp
  by_cases hb : b = a
  · subst hb; rw [upd_same] at e; cases e; exact new
  · rw [upd_ne hb] at e
    exact (x b u e).stay (fun c v _ q => k c v q) (fun c q => by rw [upd_ne (ne_of_none q hn)]; exact q) fun c xs q => by rw [upd_ne (ne_of_none q hn)]; exact q
end

/-- what may be read as u: it is u, or a known u -/
def Rd (H : Hp) (a : Addr) (u : HO) : Prop := H a = some u ∨ ∃ o, H a = some (.frz o u)
theorem Rd.of {H : Hp} {a : Addr} {u : HO} (h : H a = some u) : Rd H a u := .inl h
theorem Rd.ok {P : Program} {w : World} {H : Hp} {h : Heap} {a : Addr} {u : HO} (r : Rd H a u) (x : HOk P w H h) : ObjOk P w H h a u := by
  rcases r with r | ⟨o, r⟩
  · exact x a u r
  · obtain ⟨_, q⟩ := x a _ r
    exact q
/-- what may be written -/
def Mut : Option HO → Prop
  | some (.lst _) => True
  | some (.dK _) => True
  | some (.dT _) => True
  | some (.set _ _) => True
  | some (.ins _ _ _) => True
  | some (.ext _) => True
  | _ => False
section
variable {P : Program} {w : World} {H : Hp} {h h' : Heap} {x e : Addr} {o' : HO}
/-- the object at e is changed: x itself, or the dict of the instance x -/
theorem HOk.write (ok : HOk P w H h) (mu : Mut (H x)) (he : e = x ∨ H e = some (.own x)) (k : ∀ b u, b ≠ e → h.get? b = some u → h'.get? b = some u) (heo : ∃ u, h'.get? e = some u)
    (new : ObjOk P w (upd H x o') h' x o') : HOk P w (upd H x o') h' := fun b u q => by
  have nown : ∀ c y, H c = some (.own y) → c ≠ x := fun c y r z => by subst z; rw [r] at mu; exact mu
  have ntup : ∀ c xs, H c = some (.tup xs) → c ≠ x := fun c xs r z => by subst z; rw [r] at mu; exact mu
  by_cases hb : b = x
  · subst hb; rw [upd_same] at q; cases q; exact new
  · rw [upd_ne hb] at q
    by_cases hbe : b = e
    · have q' : H b = some (.own x) := by
        rcases he with z | z
        · exact absurd (hbe.trans z) hb
        · rw [hbe]; exact z
      rw [q] at q'; cases q'
      obtain ⟨v, hv⟩ := heo
      exact ⟨v, by rw [hbe]; exact hv⟩
    · refine (ok b u q).stay (fun c v hc r => k c v ?_ r) (fun c r => by rw [upd_ne (nown c b r)]; exact r) fun c xs r => by rw [upd_ne (ntup c xs r)]; exact r
      rcases hc with rfl | hc
      · exact hbe
      · rintro rfl
        rcases he with z | z
        · exact nown c b hc z
        · rw [hc] at z; cases z; exact hb rfl
end

/-! ### kept unless tracked; of the frames at fs (the callers') the slots may change (an exception that passes writes there); of the records at ex (iterators) nothing is said -/
structure Un (fs ex : List Addr) (H H' : Hp) (h h' : Heap) : Prop where
  keep : ∀ b o, h.get? b = some o → H b = none → b ∉ fs → b ∉ ex → h'.get? b = some o
  slot : ∀ b o, h.get? b = some o → H b = none → b ∈ fs → b ∉ ex → ∃ sl, h'.get? b = some { o with slots := sl }
  free : ∀ b o, h.get? b = some o → H b = none → b ∉ ex → H' b = none
  there : ∀ b o, h.get? b = some o → b ∉ ex → ∃ o', h'.get? b = some o'
  tups : ∀ b xs, H b = some (.tup xs) → H' b = some (.tup xs)
  frzs : ∀ b o u, H b = some (.frz o u) → H' b = some (.frz o u)
  tbls : ∀ b ps, H b = some (.tbl ps) → ∃ more, H' b = some (.tbl (ps ++ more))
section
variable {fs fs' ex ex' : List Addr} {H H1 H2 : Hp} {h h1 h2 h' : Heap} {a x e : Addr} {o : HO}
theorem Un.any (u : Un fs ex H H1 h h1) {b : Addr} {ob : Obj} (q : h.get? b = some ob) (n : H b = none) (hx : b ∉ ex) : ∃ sl, h1.get? b = some { ob with slots := sl } := by
  by_cases hb : b ∈ fs
  · exact u.slot b ob q n hb hx
  · exact ⟨ob.slots, u.keep b ob q n hb hx⟩
theorem Un.trans (a : Un fs ex H H1 h h1) (b : Un fs ex H1 H2 h1 h2) : Un fs ex H H2 h h2 where
  keep := fun c ob q n hc hx => b.keep c ob (a.keep c ob q n hc hx) (a.free c ob q n hx) hc hx
  slot := fun c ob q n hc hx => by
    obtain ⟨sl, e1⟩ := a.slot c ob q n hc hx
    obtain ⟨sl', e2⟩ := b.slot c _ e1 (a.free c ob q n hx) hc hx
    exact ⟨sl', e2⟩
  free := fun c ob q n hx => by
    obtain ⟨o', e1⟩ := a.there c ob q hx
    exact b.free c o' e1 (a.free c ob q n hx) hx
  there := fun c ob q hx => by
    obtain ⟨o', e1⟩ := a.there c ob q hx
    exact b.there c o' e1 hx
  tups := fun c xs q => b.tups c xs (a.tups c xs q)
  frzs := fun c ob xs q => b.frzs c ob xs (a.frzs c ob xs q)
  tbls := fun c ps q => by
    obtain ⟨m1, e1⟩ := a.tbls c ps q
    obtain ⟨m2, e2⟩ := b.tbls c _ e1
    exact ⟨m1 ++ m2, by rw [e2, Array.append_assoc]⟩
theorem Un.kept (k : ∀ b u, h.get? b = some u → h'.get? b = some u) : Un fs ex H H h h' :=
  ⟨fun b ob q _ _ _ => k b ob q, fun b ob q _ _ _ => ⟨ob.slots, k b ob q⟩, fun _ _ _ n _ => n, fun b ob q _ => ⟨ob, k b ob q⟩, fun _ _ q => q, fun _ _ _ q => q, fun _ ps q => ⟨#[], by rw [q]; simp⟩⟩
theorem Un.refl : Un fs ex H H h h := Un.kept fun _ _ q => q
theorem Un.laid (k : ∀ b u, h.get? b = some u → h'.get? b = some u) (hp : h.objs.size ≤ a) (hn : H a = none) : Un fs ex H (upd H a o) h h' where
  keep := fun b u q _ _ _ => k b u q
  slot := fun b u q _ _ _ => ⟨u.slots, k b u q⟩
  free := fun b u q n _ => by rw [upd_ne (Nat.ne_of_lt (Nat.lt_of_lt_of_le (Heap.lt_size q) hp))]; exact n
  there := fun b u q _ => ⟨u, k b u q⟩
  tups := fun b xs q => by rw [upd_ne (ne_of_none q hn)]; exact q
  frzs := fun b u xs q => by rw [upd_ne (ne_of_none q hn)]; exact q
  tbls := fun b ps q => ⟨#[], by rw [upd_ne (ne_of_none q hn), q]; simp⟩
theorem Un.write (mu : Mut (H x)) (he : e = x ∨ H e = some (.own x)) (k : ∀ b u, b ≠ e → h.get? b = some u → h'.get? b = some u) (heo : ∃ u, h'.get? e = some u) : Un fs ex H (upd H x o) h h' := by
  have hx : ∀ b, H b = none → b ≠ x := fun b n z => by subst z; rw [n] at mu; exact mu
  have hb : ∀ b, H b = none → b ≠ e := fun b n z => by
    subst z
    rcases he with r | r
    · exact hx b n r
    · rw [n] at r; cases r
  have hm : ∀ b u, H b = some u → ¬ Mut (some u) → b ≠ x := fun b u q nm z => by subst z; rw [q] at mu; exact nm mu
  refine ⟨fun b u q n _ _ => k b u (hb b n) q, fun b u q n _ _ => ⟨u.slots, k b u (hb b n) q⟩, fun b u q n _ => by rw [upd_ne (hx b n)]; exact n, fun b u q _ => ?_,
    fun b xs q => by rw [upd_ne (hm b _ q fun z => z)]; exact q, fun b u xs q => by rw [upd_ne (hm b _ q fun z => z)]; exact q, fun b ps q => ⟨#[], by rw [upd_ne (hm b _ q fun z => z), q]; simp⟩⟩
  by_cases hbe : b = e
  · subst hbe; exact heo
  · exact ⟨u, k b u hbe q⟩
theorem Un.mono (u : Un fs ex H H1 h h1) (hs : ∀ b ∈ fs, b ∈ fs') (hx : ∀ b ∈ ex, b ∈ ex') : Un fs' ex' H H1 h h1 :=
  ⟨fun b ob q n hb he => u.keep b ob q n (fun z => hb (hs b z)) fun z => he (hx b z), fun _ _ q n _ he => u.any q n fun z => he (hx _ z), fun b ob q n he => u.free b ob q n fun z => he (hx b z), fun b ob q he => u.there b ob q fun z => he (hx b z), u.tups, u.frzs, u.tbls⟩
end

/-! ### the heap without what is tracked -/
def trk (h : Heap) (H : Hp) : List Addr := (List.range h.objs.size).filter fun a => (H a).isSome
def hidT (h : Heap) (H : Hp) : Heap := PySem.W.hideAll h (trk h H)
theorem hidT_size (h : Heap) (H : Hp) : (hidT h H).objs.size = h.objs.size := PySem.W.hideAll_size _ _
theorem hidT_get {h : Heap} {H : Hp} {b : Addr} {o : Obj} (e : h.get? b = some o) (n : H b = none) : (hidT h H).get? b = some o :=
  PySem.W.hideAll_get _ e fun hm => by
    have q : (H b).isSome = true := (List.mem_filter.mp hm).2
    rw [n] at q; simp at q
theorem of_hidT {h : Heap} {H : Hp} {b : Addr} {o : Obj} (e : (hidT h H).get? b = some o) : h.get? b = some o ∧ H b = none := by
  have e' : h.get? b = some o := PySem.W.of_hideAll (trk h H) e
  refine ⟨e', ?_⟩
  cases q : H b with
  | none => rfl
  | some x =>
    have hm : b ∈ trk h H := List.mem_filter.mpr ⟨List.mem_range.mpr (Heap.lt_size e'), by simp [q]⟩
    have z : (hidT h H).get? b = none := PySem.W.hideAll_none (trk h H) hm
    rw [z] at e; cases e

/-! ### OpenK's ledger, filled with every new object but one -/
def allNews (g h : Heap) (L : Addr) : List (Addr × Obj) := (List.range h.objs.size).filterMap fun a => if a = L ∨ (g.get? a).isSome = true then none else (h.get? a).map fun o => (a, o)
theorem mem_allNews {g h : Heap} {L a : Addr} {o : Obj} (h1 : a ≠ L) (h2 : g.get? a = none) (h3 : h.get? a = some o) : (a, o) ∈ allNews g h L :=
  List.mem_filterMap.mpr ⟨a, List.mem_range.mpr (Heap.lt_size h3), by simp [h1, h2, h3]⟩
theorem of_mem_allNews {g h : Heap} {L : Addr} {p : Addr × Obj} (hp : p ∈ allNews g h L) : p.1 ≠ L ∧ g.get? p.1 = none ∧ h.get? p.1 = some p.2 := by
  obtain ⟨b, _, e⟩ := List.mem_filterMap.mp hp
  split at e
  · cases e
  · rename_i hn
    cases q : h.get? b with
    | none => rw [q] at e; simp at e
    | some u =>
      rw [q] at e
      simp only [Option.map_some, Option.some.injEq] at e
      subst e
      refine ⟨fun z => hn (.inl z), ?_, q⟩
      show g.get? b = none
      cases r : g.get? b with
      | none => rfl
      | some v => exact (hn (.inr (by simp [r]))).elim
def rest (g h : Heap) (L d : Addr) : List (Addr × Obj) := (allNews g h L).filter fun p => decide (p.1 ≠ d)
theorem rest_ne {g h : Heap} {L d : Addr} : ∀ p ∈ rest g h L d, p.1 ≠ d := fun p hp => of_decide_eq_true (List.mem_filter.mp hp).2
theorem mem_rest {g h : Heap} {L d a : Addr} {o : Obj} (h1 : a ≠ L) (h2 : g.get? a = none) (h3 : h.get? a = some o) (h4 : a ≠ d) : (a, o) ∈ rest g h L d :=
  List.mem_filter.mpr ⟨mem_allNews h1 h2 h3, decide_eq_true h4⟩
theorem news_all {g h : Heap} {L : Addr} : News g L h (allNews g h L) := fun p hp => let ⟨a, b, c⟩ := of_mem_allNews hp; ⟨c, a, b⟩
theorem news_at {g h : Heap} {L d : Addr} {o : Obj} (h1 : d ≠ L) (h2 : g.get? d = none) (h3 : h.get? d = some o) : News g L h ((d, o) :: rest g h L d) := fun p hp => by
  rcases List.mem_cons.mp hp with rfl | hp
  · exact ⟨h3, h1, h2⟩
  · exact news_all p (List.mem_filter.mp hp).1
/-- behind a rule that changed d alone: all else but the frame is kept -/
theorem kept_of_news {g h h' : Heap} {L d : Addr} {m : Str → Option Value} (k : ∀ b o, g.get? b = some o → h.get? b = some o) (F : Fr g L h' m) (N : News g L h' (rest g h L d)) :
    ∀ b o, b ≠ L → b ≠ d → h.get? b = some o → h'.get? b = some o := fun b o h1 h2 e => by
  cases q : g.get? b with
  | some u =>
    have := k b u q
    rw [e] at this; cases this
    exact F.keep b _ q
  | none => exact (N (b, o) (mem_rest h1 q e h2)).1
end L2

namespace L2
open PySem PySem.Spec PyProof.Rows

/-- the module's facts, over the base: the heap at the law's entry without what is tracked there -/
structure Mod (K : PySem.W.Frag) (mg : Str → Option Value) (base : Heap) : Prop where
  kin : K.In base
  glob : base.Ns mainGlobals mg
  blt : ∃ mb, base.Ns builtinsNs mb ∧ ∀ x : Str, x ≠ "__name__" → mb x = bootBuiltins x
  nolimit : base.NoLimit

/-- the context: a def's body (or a comprehension's block) running. base: fixed through the whole law; s₀, H₀: the entry; outer: the frames whose slots others may change (a def's callers); stack: all frames that run;
   ex: iterators that were made ahead of the entry and are walked here (a comprehension's); fn: the names whose cells were made at the entry (a def: all; a comprehension's block: its own); calm: not within an except suite; pn: pins that every state bears; xe: what is wanted of an exception that leaves the code -/
structure Cx where
  prog : Program
  w : World
  K : PySem.W.Frag
  mg : Str → Option Value
  base : Heap
  A : Around
  N : List Str
  s₀ : Shared
  H₀ : Hp
  env : Env
  outer : List Env
  stack : List Env
  ex : List Addr
  fn : Str → Bool
  calm : Bool
  pn : List (Addr × Obj)
  xe : Value → Shared → Prop
/-- the callers' frames -/
def frs (l : List Env) : List Addr := l.filterMap (·.frame)
abbrev Cx.fs (X : Cx) : List Addr := frs X.outer

def Vis (sc : Scope) (x : Str) : Prop := sc.names.lookup x = some .local ∨ sc.names.lookup x = some .cell ∨ sc.names.lookup x = some .free
def Loc (sc : Scope) (x : Str) : Prop := sc.names.lookup x = some .local ∨ sc.names.lookup x = some .cell
def Look (env : Env) (h : Heap) (m : Str → Option Value) (x : Str) (u : Value) : Prop :=
  (env.kindOf x = some .local ∧ m x = some u) ∨ ((env.kindOf x = some .cell ∨ env.kindOf x = some .free) ∧ ∃ c, env.cells.lookup x = some c ∧ h.IsCell c (some u))

structure Cx.Ok (X : Cx) : Prop where
  mod : Mod X.K X.mg X.base
  kind : X.env.scope.kind = .function
  glob : X.env.globals = mainGlobals
  blt : X.env.builtins = builtinsNs
  above : X.s₀.heap.objs.size ≤ X.env.locals
  inj : ∀ x y c, X.env.cells.lookup x = some c → X.env.cells.lookup y = some c → x = y
  has : ∀ x, (X.env.kindOf x = some .cell ∨ X.env.kindOf x = some .free) → ∃ c, X.env.cells.lookup x = some c
  cab : ∀ x c, X.fn x = true → X.env.cells.lookup x = some c → X.s₀.heap.objs.size ≤ c
  hd : X.calm = true → X.A.handled = none
  frames : X.A.frames = some X.stack
  stk : X.stack = X.outer ∨ (X.stack = X.env :: X.outer ∧ X.env.frame = some X.env.locals)
  exf : ∀ b ∈ X.ex, b ≠ X.env.locals ∧ ∀ x c, X.env.cells.lookup x = some c → c ≠ b
  bs : ∀ b o, X.base.get? b = some o → X.s₀.heap.get? b = some o ∧ X.H₀ b = none
  bsz : X.base.objs.size ≤ X.s₀.heap.objs.size
  noex : ∀ b o, X.base.get? b = some o → b ∉ X.ex
  exfs : ∀ b ∈ X.ex, b ∉ X.fs
  funs : X.s₀.heap.FunFrames X.base X.outer
  frf : ∀ b ∈ X.fs, X.H₀ b = none

structure Inv (X : Cx) (pins : List (Addr × Obj)) (σ : List (Option V)) (H : Hp) (s : Shared) : Prop where
  ok : X.Ok
  os : s.os = X.s₀.os
  bare : AllBare s.gens
  base : Un X.fs X.ex X.H₀ H X.s₀.heap s.heap
  loc : ∃ m, s.heap.Ns X.env.locals m ∧ ∀ (i : Nat) (x : Str) (v : V), X.N[i]? = some x → σ[i]? = some (some v) → Vis X.env.scope x → ∃ u, RelV v u ∧ Look X.env s.heap m x u
  cell : ∀ x c, X.env.cells.lookup x = some c → ∃ v, s.heap.IsCell c v
  free : H X.env.locals = none
  freeC : ∀ x c, X.env.cells.lookup x = some c → H c = none
  pin : ∀ p ∈ X.pn ++ pins, s.heap.get? p.1 = some p.2 ∧ H p.1 = none ∧ p.1 ≠ X.env.locals ∧ p.1 ∉ X.fs ∧ ∀ v, p.2.data ≠ .cell v
  hok : HOk X.prog X.w H s.heap
  len : σ.length = X.N.length

section
variable {X : Cx} {pins : List (Addr × Obj)} {σ : List (Option V)} {H H' : Hp} {s : Shared} {h' : Heap}

theorem Cx.Ok.nofr (ok : X.Ok) {b : Addr} {o : Obj} (e : X.base.get? b = some o) : b ∉ X.fs := fun hb => by
  have := (ok.funs.mem hb).1
  rw [e] at this; cases this
theorem Inv.bs (I : Inv X pins σ H s) : ∀ b o, X.base.get? b = some o → s.heap.get? b = some o ∧ H b = none := fun b o e =>
  ⟨I.base.keep b o (I.ok.bs b o e).1 (I.ok.bs b o e).2 (I.ok.nofr e) (I.ok.noex b o e), I.base.free b o (I.ok.bs b o e).1 (I.ok.bs b o e).2 (I.ok.noex b o e)⟩
theorem Inv.bk (I : Inv X pins σ H s) : ∀ b o, X.base.get? b = some o → s.heap.get? b = some o := fun b o e => (I.bs b o e).1
theorem Inv.mod (I : Inv X pins σ H s) : Mod X.K X.mg X.base := I.ok.mod
theorem Inv.kIn (I : Inv X pins σ H s) : X.K.In s.heap := I.ok.mod.kin.keeps I.bk
theorem Inv.nolimit (I : Inv X pins σ H s) : s.heap.NoLimit := I.ok.mod.nolimit.keeps I.bk
/-- the frame over the base: for OpenK's rules (K.In X.base is I.mod.kin) -/
theorem Inv.fr (I : Inv X pins σ H s) : ∃ m, Fr X.base X.env.locals s.heap m :=
  let ⟨m, hn, _⟩ := I.loc
  ⟨m, hn, I.bk, Nat.le_trans I.ok.bsz I.ok.above⟩
theorem Inv.lt (I : Inv X pins σ H s) : X.env.locals < s.heap.objs.size := let ⟨_, hn, _⟩ := I.loc; hn.lt
theorem Inv.sz (I : Inv X pins σ H s) : X.s₀.heap.objs.size ≤ s.heap.objs.size := Nat.le_trans I.ok.above (Nat.le_of_lt I.lt)
theorem Inv.nofs (I : Inv X pins σ H s) {a : Addr} (h : s.heap.objs.size ≤ a) : a ∉ X.fs := fun hb => by
  obtain ⟨_, o, ho, _⟩ := I.ok.funs.mem hb
  exact absurd (Nat.lt_of_lt_of_le (Heap.lt_size ho) (Nat.le_trans I.sz h)) (Nat.lt_irrefl _)
theorem Inv.cne (I : Inv X pins σ H s) : ∀ x c, X.env.cells.lookup x = some c → c ≠ X.env.locals := fun x c e z => by
  obtain ⟨v, o, ho, hd⟩ := I.cell x c e
  obtain ⟨m, ⟨o', es, ep, ho', hd', _⟩, _⟩ := I.loc
  rw [z, ho'] at ho; cases ho; rw [hd'] at hd; cases hd
theorem Inv.funs (I : Inv X pins σ H s) : s.heap.FunFrames X.base X.outer := by
  have all : ∀ (l : List Env), (∀ b ∈ frs l, b ∈ X.fs) → X.s₀.heap.FunFrames X.base l → s.heap.FunFrames X.base l := by
    intro l
    induction l with
    | nil => intro _ _; trivial
    | cons env r ih =>
      intro hs hl
      obtain ⟨hk, ⟨L, o, hf, hn, ho, hd⟩, hr⟩ := hl
      have hL : L ∈ X.fs := hs L (by unfold frs; rw [List.filterMap_cons, hf]; exact List.mem_cons_self)
      obtain ⟨sl, e⟩ := I.base.slot L o ho (I.ok.frf L hL) hL fun z => I.ok.exfs L z hL
      exact ⟨hk, ⟨L, _, hf, hn, e, hd⟩, ih (fun b hb => hs b (by unfold frs; rw [List.filterMap_cons, hf]; exact List.mem_cons_of_mem _ hb)) hr⟩
  exact all X.outer (fun _ hb => hb) I.ok.funs

/-- the frames that run, for a call -/
theorem Inv.stack (I : Inv X pins σ H s) : s.heap.FunFrames X.base X.stack := by
  rcases I.ok.stk with e | ⟨e, hf⟩
  · rw [e]; exact I.funs
  · rw [e]
    obtain ⟨m, hn, _⟩ := I.loc
    refine .cons (by rw [I.ok.kind]; decide) hf hn ?_ I.funs
    exact Heap.get?_none_of_le (Nat.le_trans I.ok.bsz I.ok.above)
theorem Inv.stkSub (I : Inv X pins σ H s) : ∀ b ∈ frs X.stack, b ∈ X.env.locals :: X.fs := fun b hb => by
  rcases I.ok.stk with e | ⟨e, hf⟩
  · rw [e] at hb; exact List.mem_cons_of_mem _ hb
  · rw [e] at hb
    unfold frs at hb
    rw [List.filterMap_cons, hf] at hb
    exact hb
theorem Inv.stkFree (I : Inv X pins σ H s) : ∀ b ∈ frs X.stack, H b = none := fun b hb => by
  rcases List.mem_cons.mp (I.stkSub b hb) with e | hb
  · rw [e]; exact I.free
  · obtain ⟨_, o, ho, _⟩ := I.ok.funs.mem hb
    exact I.base.free b o ho (I.ok.frf b hb) fun z => I.ok.exfs b z hb

/-- THE STEP: the untracked objects but the frame and the records at ch are kept (the callers' frames up to slots), the frame's map is kept, the new abstract heap is held -/
theorem Inv.step {g' : Array GenState} {t' : Nat} {d' : Drawn} {ch : List Addr} (I : Inv X pins σ H s)
    (hch : ∀ b ∈ ch, (b ∈ X.ex ∨ X.s₀.heap.objs.size ≤ b) ∧ b ≠ X.env.locals ∧ (∀ x c, X.env.cells.lookup x = some c → c ≠ b) ∧ ∀ p ∈ X.pn ++ pins, p.1 ≠ b)
    (keep : ∀ b o, b ≠ X.env.locals → b ∉ X.fs → b ∉ ch → s.heap.get? b = some o → H b = none → h'.get? b = some o)
    (slot : ∀ b o, b ≠ X.env.locals → b ∈ X.fs → b ∉ ch → s.heap.get? b = some o → H b = none → ∃ sl, h'.get? b = some { o with slots := sl }) (free : ∀ b o, b ∉ ch → s.heap.get? b = some o → H b = none → H' b = none)
    (there : ∀ b o, b ∉ ch → s.heap.get? b = some o → ∃ o', h'.get? b = some o')
    (tups : ∀ b xs, H b = some (.tup xs) → H' b = some (.tup xs)) (frzs : ∀ b o u, H b = some (.frz o u) → H' b = some (.frz o u)) (tbls : ∀ b ps, H b = some (.tbl ps) → ∃ more, H' b = some (.tbl (ps ++ more)))
    (ns : ∀ m, s.heap.Ns X.env.locals m → h'.Ns X.env.locals m) (hok : HOk X.prog X.w H' h') (hg : AllBare g') :
    Inv X pins σ H' { s with heap := h', gens := g', drawn := d', toks := t' } := by
  have neL : ∀ b o, X.s₀.heap.get? b = some o → b ≠ X.env.locals := fun b o e => Nat.ne_of_lt (Nat.lt_of_lt_of_le (Heap.lt_size e) I.ok.above)
  have neC : ∀ b o, X.s₀.heap.get? b = some o → b ∉ X.ex → b ∉ ch := fun b o e hx hb => by
    rcases (hch b hb).1 with z | z
    · exact hx z
    · exact absurd (Nat.lt_of_lt_of_le (Heap.lt_size e) z) (Nat.lt_irrefl _)
  have cellK : ∀ x c, X.env.cells.lookup x = some c → ∀ v, s.heap.IsCell c v → h'.IsCell c v := fun x c e v ⟨o, ho, hd⟩ => by
    have nch : c ∉ ch := fun z => (hch c z).2.2.1 x c e rfl
    by_cases hc : c ∈ X.fs
    · obtain ⟨sl, q⟩ := slot c o (I.cne x c e) hc nch ho (I.freeC x c e)
      exact ⟨_, q, hd⟩
    · exact ⟨o, keep c o (I.cne x c e) hc nch ho (I.freeC x c e), hd⟩
  refine ⟨I.ok, I.os, hg, ⟨fun b o e n hb hx => ?_, fun b o e n hb hx => ?_, fun b o e n hx => ?_, fun b o e hx => ?_, fun b xs e => tups b xs (I.base.tups b xs e), fun b o xs e => frzs b o xs (I.base.frzs b o xs e), fun b ps e => ?_⟩, ?_, fun x c e => ?_, ?_, fun x c e => ?_, fun p hp => ?_, hok, I.len⟩
  · exact keep b o (neL b o e) hb (neC b o e hx) (I.base.keep b o e n hb hx) (I.base.free b o e n hx)
  · obtain ⟨sl, e1⟩ := I.base.slot b o e n hb hx
    obtain ⟨sl', e2⟩ := slot b _ (neL b o e) hb (neC b o e hx) e1 (I.base.free b o e n hx)
    exact ⟨sl', e2⟩
  · obtain ⟨o', e1⟩ := I.base.there b o e hx
    exact free b o' (neC b o e hx) e1 (I.base.free b o e n hx)
  · obtain ⟨o', e1⟩ := I.base.there b o e hx
    exact there b o' (neC b o e hx) e1
  · obtain ⟨m1, e1⟩ := I.base.tbls b ps e
    obtain ⟨m2, e2⟩ := tbls b _ e1
    exact ⟨m1 ++ m2, by rw [e2, Array.append_assoc]⟩
  · obtain ⟨m, hn, hl⟩ := I.loc
    refine ⟨m, ns m hn, fun i x v e1 e2 e3 => ?_⟩
    obtain ⟨u, r, l⟩ := hl i x v e1 e2 e3
    refine ⟨u, r, ?_⟩
    rcases l with l | ⟨k, c, e, z⟩
    · exact .inl l
    · exact .inr ⟨k, c, e, cellK x c e _ z⟩
  · obtain ⟨v, z⟩ := I.cell x c e
    exact ⟨v, cellK x c e v z⟩
  · obtain ⟨m, ⟨o, _, _, ho, _⟩, _⟩ := I.loc
    exact free _ o (fun z => (hch _ z).2.1 rfl) ho I.free
  · obtain ⟨v, o, ho, hd⟩ := I.cell x c e
    exact free c o (fun z => (hch c z).2.2.1 x c e rfl) ho (I.freeC x c e)
  · obtain ⟨e, n, ne, nf, d⟩ := I.pin p hp
    have nch : p.1 ∉ ch := fun z => (hch p.1 z).2.2.2 p hp rfl
    exact ⟨keep p.1 p.2 ne nf nch e n, free p.1 p.2 nch e n, ne, nf, d⟩
/-- .. where the frame's own object is kept too -/
theorem Inv.un {t' : Nat} (I : Inv X pins σ H s) (u : Un X.fs [] H H' s.heap h') (hok : HOk X.prog X.w H' h') : Inv X pins σ H' { s with heap := h', toks := t' } := by
  obtain ⟨m, ⟨o, es, ep, ho, r⟩, _⟩ := id I.loc
  obtain ⟨sl, hL⟩ := u.any ho I.free (by simp)
  exact I.step (g' := s.gens) (d' := s.drawn) (ch := []) (fun _ z => nomatch z) (fun b o _ hb _ e n => u.keep b o e n hb (by simp)) (fun b o _ hb _ e n => u.slot b o e n hb (by simp)) (fun b o _ e n => u.free b o e n (by simp)) (fun b o _ e => u.there b o e (by simp)) u.tups u.frzs u.tbls (fun m' hm => by
    obtain ⟨o', es', ep', ho', r'⟩ := hm
    rw [ho] at ho'; cases ho'
    exact ⟨_, es', ep', hL, r'⟩) hok I.bare
/-- behind a call (or a comprehension's block): the slots of this frame may have changed too, the records at ch may have turned -/
theorem Inv.call {g' : Array GenState} {t' : Nat} {d' : Drawn} {ch : List Addr} (I : Inv X pins σ H s) (u : Un (frs X.stack) ch H H' s.heap h') (hok : HOk X.prog X.w H' h') (hg : AllBare g')
    (hch : ∀ b ∈ ch, (b ∈ X.ex ∨ X.s₀.heap.objs.size ≤ b) ∧ b ≠ X.env.locals ∧ (∀ x c, X.env.cells.lookup x = some c → c ≠ b) ∧ ∀ p ∈ X.pn ++ pins, p.1 ≠ b) :
    Inv X pins σ H' { s with heap := h', gens := g', drawn := d', toks := t' } := by
  obtain ⟨m, ⟨o, es, ep, ho, r⟩, _⟩ := id I.loc
  obtain ⟨sl, hL⟩ := u.any ho I.free fun z => (hch _ z).2.1 rfl
  exact I.step (ch := ch) hch (fun b o hL hb hc e n => u.keep b o e n (fun z => (List.mem_cons.mp (I.stkSub b z)).elim hL hb) hc) (fun b o _ _ hc e n => u.any e n hc) (fun b o hc e n => u.free b o e n hc) (fun b o hc e => u.there b o e hc) u.tups u.frzs u.tbls (fun m' hm => by
    obtain ⟨o', es', ep', ho', r'⟩ := hm
    rw [ho] at ho'; cases ho'
    exact ⟨_, es', ep', hL, r'⟩) hok hg
/-- an untracked record of ours (an iterator) has turned -/
theorem Inv.turned {t' : Nat} {it : Addr} (I : Inv X pins σ H s) (k : ∀ b o, b ≠ it → s.heap.get? b = some o → h'.get? b = some o) (hn : H it = none) (hL : it ≠ X.env.locals)
    (h1 : it ∈ X.ex ∨ X.s₀.heap.objs.size ≤ it) (h2 : ∀ x c, X.env.cells.lookup x = some c → c ≠ it) (h3 : ∀ p ∈ X.pn ++ pins, p.1 ≠ it) : Inv X pins σ H { s with heap := h', toks := t' } := by
  have nit : ∀ b u, H b = some u → b ≠ it := fun b u e z => by rw [z, hn] at e; cases e
  refine I.step (g' := s.gens) (d' := s.drawn) (ch := [it]) (fun b hb => ?_) (fun b o _ _ hc e _ => k b o (fun z => hc (by simp [z])) e) (fun b o _ _ hc e _ => ⟨o.slots, k b o (fun z => hc (by simp [z])) e⟩) (fun _ _ _ _ n => n)
    (fun b o hc e => ⟨o, k b o (fun z => hc (by simp [z])) e⟩) (fun _ _ e => e) (fun _ _ _ e => e) (fun b ps e => ⟨#[], by rw [e]; simp⟩) (fun m hm => ?_) (fun b u e => ?_) I.bare
  · have e : b = it := by simpa using hb
    subst e
    exact ⟨h1, hL, h2, h3⟩
  · obtain ⟨o, es, ep, ho, r⟩ := hm
    exact ⟨o, es, ep, k _ o (Ne.symm hL) ho, r⟩
  · refine (I.hok b u e).stay (fun c v hc q => k c v ?_ q) (fun _ q => q) fun _ _ q => q
    rcases hc with z | z
    · rw [z]; exact nit b u e
    · exact nit c _ z
theorem Inv.tok (I : Inv X pins σ H s) (t : Nat) : Inv X pins σ H { s with toks := t } := I.un (h' := s.heap) (t' := t) Un.refl I.hok
/-- all objects kept -/
theorem Inv.kept {t' : Nat} (I : Inv X pins σ H s) (k : ∀ b u, s.heap.get? b = some u → h'.get? b = some u) : Inv X pins σ H { s with heap := h', toks := t' } := I.un (Un.kept k) (I.hok.kept k)
/-- a new object laid and tracked -/
theorem Inv.laid {a : Addr} {o : HO} {t' : Nat} (I : Inv X pins σ H s) (k : ∀ b u, s.heap.get? b = some u → h'.get? b = some u) (hp : s.heap.objs.size ≤ a) (new : ObjOk X.prog X.w (upd H a o) h' a o) :
    Inv X pins σ (upd H a o) { s with heap := h', toks := t' } := I.un (Un.laid k hp (I.hok.fresh hp)) (I.hok.laid k hp new)
/-- an object written -/
theorem Inv.write {x e : Addr} {o : HO} {t' : Nat} (I : Inv X pins σ H s) (mu : Mut (H x)) (he : e = x ∨ H e = some (.own x)) (k : ∀ b u, b ≠ e → s.heap.get? b = some u → h'.get? b = some u) (heo : ∃ u, h'.get? e = some u)
    (new : ObjOk X.prog X.w (upd H x o) h' x o) : Inv X pins σ (upd H x o) { s with heap := h', toks := t' } := I.un (Un.write mu he k heo) (I.hok.write mu he k heo new)
/-- forgetting slots, pins -/
theorem Inv.weak {σ' : List (Option V)} (I : Inv X pins σ H s) (hl : σ'.length = σ.length) (w : ∀ (i : Nat) v, σ'[i]? = some (some v) → σ[i]? = some (some v)) : Inv X pins σ' H s :=
  ⟨I.ok, I.os, I.bare, I.base, let ⟨m, hn, hl'⟩ := I.loc; ⟨m, hn, fun i x v e1 e2 e3 => hl' i x v e1 (w i v e2) e3⟩, I.cell, I.free, I.freeC, I.pin, I.hok, hl.trans I.len⟩
theorem Inv.pins_of {pins' : List (Addr × Obj)} (I : Inv X pins σ H s) (h : ∀ p ∈ pins', s.heap.get? p.1 = some p.2 ∧ H p.1 = none ∧ p.1 ≠ X.env.locals ∧ p.1 ∉ X.fs ∧ ∀ v, p.2.data ≠ .cell v) : Inv X pins' σ H s :=
  ⟨I.ok, I.os, I.bare, I.base, I.loc, I.cell, I.free, I.freeC, fun p hp => (List.mem_append.mp hp).elim (fun z => I.pin p (List.mem_append_left _ z)) (h p), I.hok, I.len⟩

theorem nodup_ix {N : List Str} (hN : N.Nodup) {i j : Nat} {x : Str} (a : N[i]? = some x) (b : N[j]? = some x) : i = j := by
  obtain ⟨h1, e1⟩ := List.getElem?_eq_some_iff.mp a
  obtain ⟨h2, e2⟩ := List.getElem?_eq_some_iff.mp b
  exact (List.getElem_inj hN).mp (e1.trans e2.symm)

/-- a name is stored; what changed -/
theorem store_ok2 {M : Model} {A : Around} {E : Value → Shared → Prop} {i : Nat} {x : Str} {v : V} {u : Value} {Q : Unit → Shared → Prop} (I : Inv X pins σ H s) (hN : X.N.Nodup) (hi : X.N[i]? = some x) (hx : Loc X.env.scope x) (r : RelV v u)
    (h : ∀ s', Inv X pins (σ.set i (some v)) H s' → (∃ a, Heap.SameBut a s.heap s'.heap ∧ (a = X.env.locals ∨ X.env.cells.lookup x = some a)) → Q () s') (hf : X.fn x = true ∨ X.env.scope.names.lookup x = some .local := by first | exact .inl rfl | exact .inr rfl | assumption) : wpAny M A (storeName X.env x u) Q E s := by
  obtain ⟨m, hn, hl⟩ := id I.loc
  have hcls : (X.env.scope.kind == .class || (X.env.scope.kind == .module && X.env.locals != X.env.globals)) = false := by rw [I.ok.kind]; rfl
  have hiσ : i < σ.length := by rw [I.len]; exact (List.getElem?_eq_some_iff.mp hi).1
  have cne := I.cne
  have tracked : ∀ {a : Addr} {h' : Heap}, (∃ o, s.heap.get? a = some o ∧ H a = none) → Heap.SameBut a s.heap h' → HOk X.prog X.w H h' := fun {a h'} ha hs b ob e => by
    obtain ⟨_, _, hfree⟩ := ha
    refine (I.hok b ob e).stay (fun c w' hc q => (hs.2 c ?_).trans q) (fun _ q => q) fun _ _ q => q
    rintro rfl
    rcases hc with rfl | hc
    · rw [hfree] at e; cases e
    · rw [hfree] at hc; cases hc
  rcases hx with hk | hk
  · refine wpAny_storeName_local hk hn (fun h' hn' hs => ?_) hcls
    obtain ⟨oL, _, _, hoL, _⟩ := id hn
    refine h _ ⟨I.ok, I.os, I.bare, ⟨fun b o e n hb hx => ?_, fun b o e n hb hx => ?_, I.base.free, fun b o e hx => ?_, I.base.tups, I.base.frzs, I.base.tbls⟩, ⟨_, hn', fun j y v' e1 e2 e3 => ?_⟩, fun y c e => ?_, I.free, I.freeC, fun p hp => ?_, tracked ⟨oL, hoL, I.free⟩ hs, by simpa using I.len⟩ ⟨_, hs, .inl rfl⟩
    · exact (hs.2 b (Nat.ne_of_lt (Nat.lt_of_lt_of_le (Heap.lt_size e) I.ok.above))).trans (I.base.keep b o e n hb hx)
    · obtain ⟨sl, e1⟩ := I.base.slot b o e n hb hx
      exact ⟨sl, (hs.2 b (Nat.ne_of_lt (Nat.lt_of_lt_of_le (Heap.lt_size e) I.ok.above))).trans e1⟩
    · obtain ⟨o', e1⟩ := I.base.there b o e hx
      exact ⟨o', (hs.2 b (Nat.ne_of_lt (Nat.lt_of_lt_of_le (Heap.lt_size e) I.ok.above))).trans e1⟩
    · by_cases hj : j = i
      · subst hj
        rw [hi] at e1; cases e1
        rw [List.getElem?_set_self hiσ] at e2
        cases e2
        exact ⟨u, r, .inl ⟨hk, by simp⟩⟩
      · rw [List.getElem?_set_ne (Ne.symm hj)] at e2
        obtain ⟨u', r', q⟩ := hl j y v' e1 e2 e3
        refine ⟨u', r', ?_⟩
        rcases q with ⟨k, e⟩ | ⟨k, c, e, z⟩
        · refine .inl ⟨k, ?_⟩
          have : y ≠ x := fun e => hj (nodup_ix hN e1 (e ▸ hi))
          simp [this, e]
        · exact .inr ⟨k, c, e, z.sameBut hs (cne y c e)⟩
    · obtain ⟨w', z⟩ := I.cell y c e
      exact ⟨w', z.sameBut hs (cne y c e)⟩
    · obtain ⟨e, n, ne, nf, d⟩ := I.pin p hp
      exact ⟨(hs.2 p.1 ne).trans e, n, ne, nf, d⟩
  · have hfn : X.fn x = true := by
      rcases hf with z | z
      · exact z
      · rw [z] at hk; cases hk
    obtain ⟨c, hc⟩ := I.ok.has x (.inl hk)
    obtain ⟨w', z⟩ := I.cell x c hc
    refine wpAny_storeName_cell I.ok.kind hk hc z (fun h' hc' hs => ?_)
    obtain ⟨oc, hoc, hocd⟩ := id z
    refine h { s with heap := h' } ⟨I.ok, I.os, I.bare, ⟨fun b o e n hb hx => ?_, fun b o e n hb hx => ?_, I.base.free, fun b o e hx => ?_, I.base.tups, I.base.frzs, I.base.tbls⟩, ⟨m, hn.sameBut hs (Ne.symm (cne x c hc)), fun j y v' e1 e2 e3 => ?_⟩, fun y c' e => ?_, I.free, I.freeC, fun p hp => ?_, tracked ⟨oc, hoc, I.freeC x c hc⟩ hs, by simpa using I.len⟩ ⟨c, hs, .inr hc⟩
    · exact (hs.2 b (Nat.ne_of_lt (Nat.lt_of_lt_of_le (Heap.lt_size e) (I.ok.cab x c hfn hc)))).trans (I.base.keep b o e n hb hx)
    · obtain ⟨sl, e1⟩ := I.base.slot b o e n hb hx
      exact ⟨sl, (hs.2 b (Nat.ne_of_lt (Nat.lt_of_lt_of_le (Heap.lt_size e) (I.ok.cab x c hfn hc)))).trans e1⟩
    · obtain ⟨o', e1⟩ := I.base.there b o e hx
      exact ⟨o', (hs.2 b (Nat.ne_of_lt (Nat.lt_of_lt_of_le (Heap.lt_size e) (I.ok.cab x c hfn hc)))).trans e1⟩
    · by_cases hj : j = i
      · subst hj
        rw [hi] at e1; cases e1
        rw [List.getElem?_set_self hiσ] at e2
        cases e2
        exact ⟨u, r, .inr ⟨.inl hk, c, hc, hc'⟩⟩
      · rw [List.getElem?_set_ne (Ne.symm hj)] at e2
        obtain ⟨u', r', q⟩ := hl j y v' e1 e2 e3
        refine ⟨u', r', ?_⟩
        rcases q with q | ⟨k, c', e, z'⟩
        · exact .inl q
        · refine .inr ⟨k, c', e, z'.sameBut hs ?_⟩
          rintro rfl
          exact hj (nodup_ix hN e1 (I.ok.inj _ _ _ e hc ▸ hi))
    · by_cases hcc : c' = c
      · subst hcc; exact ⟨_, hc'⟩
      · obtain ⟨w2, z2⟩ := I.cell y c' e
        exact ⟨w2, z2.sameBut hs hcc⟩
    · obtain ⟨e, n, ne, nf, d⟩ := I.pin p hp
      refine ⟨(hs.2 p.1 ?_).trans e, n, ne, nf, d⟩
      intro q
      rw [q, hoc] at e
      have q' : oc = p.2 := Option.some.inj e
      exact d w' (by rw [← q']; exact hocd)
theorem store_ok {M : Model} {A : Around} {E : Value → Shared → Prop} {i : Nat} {x : Str} {v : V} {u : Value} {Q : Unit → Shared → Prop} (I : Inv X pins σ H s) (hN : X.N.Nodup) (hi : X.N[i]? = some x) (hx : Loc X.env.scope x) (r : RelV v u)
    (h : ∀ s', Inv X pins (σ.set i (some v)) H s' → Q () s') (hf : X.fn x = true ∨ X.env.scope.names.lookup x = some .local := by first | exact .inl rfl | exact .inr rfl | assumption) : wpAny M A (storeName X.env x u) Q E s :=
  store_ok2 I hN hi hx r (fun s' I' _ => h s' I') hf
/-- behind a call or a block, the state as it is -/
theorem Inv.call' {s' : Shared} {ch : List Addr} (I : Inv X pins σ H s) (ho : s'.os = s.os) (u : Un (frs X.stack) ch H H' s.heap s'.heap) (hok : HOk X.prog X.w H' s'.heap) (hg : AllBare s'.gens)
    (hch : ∀ b ∈ ch, (b ∈ X.ex ∨ X.s₀.heap.objs.size ≤ b) ∧ b ≠ X.env.locals ∧ (∀ x c, X.env.cells.lookup x = some c → c ≠ b) ∧ ∀ p ∈ X.pn ++ pins, p.1 ≠ b) : Inv X pins σ H' s' := by
  obtain ⟨h', g', d', t', o'⟩ := s'
  have e : o' = s.os := ho
  subst e
  exact I.call (g' := g') (t' := t') (d' := d') u hok hg hch
end

/-! ### the judgements -/
/-- an exception: its class, its own dict's address (where it has one), the abstract heap behind it -/
abbrev XK := Value → Option Addr → Hp → Prop
abbrev St := List (Option V)
abbrev VK := V → Hp → Prop
/-- an expression's reading; a test's; an argument list's -/
abbrev TE := St → Hp → VK → Prop
abbrev TT := St → Hp → (Bool → Hp → Prop) → Prop
abbrev TA := St → Hp → (List V → Hp → Prop) → Prop
/-- what is wanted behind a statement -/
structure Ends where
  nx : St → Hp → Prop
  rt : VK
  bk : St → Hp → Prop := fun _ _ => False
  ct : St → Hp → Prop := fun _ _ => False
abbrev TS := Ends → St → Hp → Prop

def EP (X : Cx) (pins : List (Addr × Obj)) (σ : St) (Q : VK) (u : Value) (s' : Shared) : Prop := ∃ v H', Inv X pins σ H' s' ∧ RelV v u ∧ Q v H'
def TP (X : Cx) (pins : List (Addr × Obj)) (σ : St) (Q : Bool → Hp → Prop) (b : Bool) (s' : Shared) : Prop := ∃ H', Inv X pins σ H' s' ∧ Q b H'
def AP (X : Cx) (pins : List (Addr × Obj)) (σ : St) (Q : List V → Hp → Prop) (us : List Value) (s' : Shared) : Prop := ∃ vs H', Inv X pins σ H' s' ∧ Vals vs us ∧ Q vs H'
def SP (X : Cx) (pins : List (Addr × Obj)) (D : Ends) (f : Flow) (s' : Shared) : Prop :=
  match f with
  | .next => ∃ σ' H', Inv X pins σ' H' s' ∧ D.nx σ' H'
  | .brk => ∃ σ' H', Inv X pins σ' H' s' ∧ D.bk σ' H'
  | .cont => ∃ σ' H', Inv X pins σ' H' s' ∧ D.ct σ' H'
  | .ret u => ∃ v σ' H', Inv X pins σ' H' s' ∧ RelV v u ∧ D.rt v H'

def PE (X : Cx) (e : Expr) (t : TE) : Prop :=
  ∀ (pins : List (Addr × Obj)) (s : Shared) (σ : St) (H : Hp) (Q : VK), Inv X pins σ H s → t σ H Q → wpAny (model X.prog X.w) X.A (eval e X.env) (EP X pins σ Q) X.xe s
def PT (X : Cx) (e : Expr) (t : TT) : Prop :=
  ∀ (pins : List (Addr × Obj)) (s : Shared) (σ : St) (H : Hp) (Q : Bool → Hp → Prop), Inv X pins σ H s → t σ H Q → wpAny (model X.prog X.w) X.A (isTrue e X.env (eval e X.env)) (TP X pins σ Q) X.xe s
/-- a test whatever its 'whole' is (and, or) -/
def PW (X : Cx) (e : Expr) (t : TT) : Prop :=
  ∀ (whole : Sem Value) (pins : List (Addr × Obj)) (s : Shared) (σ : St) (H : Hp) (Q : Bool → Hp → Prop), Inv X pins σ H s → t σ H Q → wpAny (model X.prog X.w) X.A (isTrue e X.env whole) (TP X pins σ Q) X.xe s
theorem PW.pt {X : Cx} {e : Expr} {t : TT} (h : PW X e t) : PT X e t := h _
/-- an argument list (no star), from the left -/
def PA (X : Cx) (es : List Expr) (t : TA) : Prop :=
  ∀ (pos : Pos) (pins : List (Addr × Obj)) (s : Shared) (σ : St) (H : Hp) (Q : List V → Hp → Prop), Inv X pins σ H s → t σ H Q → wpAny (model X.prog X.w) X.A (spliced (backTo pos (starEach es X.env))) (AP X pins σ Q) X.xe s
def PS (X : Cx) (st : Stmt) (t : TS) : Prop :=
  ∀ (pins : List (Addr × Obj)) (s : Shared) (σ : St) (H : Hp) (D : Ends), Inv X pins σ H s → t D σ H → wpAny (model X.prog X.w) X.A (exec st X.env) (SP X pins D) X.xe s
def PSs (X : Cx) (st : List Stmt) (t : TS) : Prop :=
  ∀ (pins : List (Addr × Obj)) (s : Shared) (σ : St) (H : Hp) (D : Ends), Inv X pins σ H s → t D σ H → wpAny (model X.prog X.w) X.A (execs st X.env) (SP X pins D) X.xe s
/-- weaken the end -/
theorem thn {α : Type} {t : Sem α} {Q Q' : α → Shared → Prop} {M : Model} {A : Around} {E : Value → Shared → Prop} {s : Shared} (h : wpAny M A t Q E s) (hQ : ∀ a s, Q a s → Q' a s) : wpAny M A t Q' E s := wpAny_mono h hQ fun _ _ x => x
end L2

namespace L2
open PySem PySem.Spec PyProof.Rows
section
variable {X : Cx}

/-- two expressions in a row -/
theorem bin {a b : Expr} {ta tb : TE} (ha : PE X a ta) (hb : PE X b tb) {pins : List (Addr × Obj)} {s : Shared} {σ : St} {H : Hp} {R : V → V → Hp → Prop} (I : Inv X pins σ H s) (h : ta σ H fun x H1 => tb σ H1 fun y H2 => R x y H2)
    {α : Type} {Q : α → Shared → Prop} {f : Value → Value → Sem α}
    (hf : ∀ v u s2 x y H2, Inv X pins σ H2 s2 → RelV x v → RelV y u → R x y H2 → wpAny (model X.prog X.w) X.A (f v u) Q X.xe s2) :
    wpAny (model X.prog X.w) X.A (eval a X.env) (fun v s₁ => wpAny (model X.prog X.w) X.A (eval b X.env) (fun u s₂ => wpAny (model X.prog X.w) X.A (f v u) Q X.xe s₂) X.xe s₁) X.xe s := by
  refine thn (ha pins s σ H _ I h) fun v s1 ⟨x, H1, I1, r1, q1⟩ => ?_
  refine thn (hb pins s1 σ H1 _ I1 q1) fun u s2 ⟨y, H2, I2, r2, q2⟩ => ?_
  exact hf v u s2 x y H2 I2 r1 r2 q2

/-! ### names and constants -/
def tVar (i : Nat) : TE := fun σ H Q => ∃ v, σ[i]? = some (some v) ∧ Q v H
def tC (v : V) : TE := fun _ H Q => Q v H
theorem pe_var {i : Nat} {x : Str} {pos : Pos} (hN : X.N[i]? = some x) (hv : Vis X.env.scope x) (hd : (x == ("__debug__" : Str)) = false := by decide) (hcd : (x == ("__classdict__" : Str)) = false := by decide) : PE X (.Name x pos) (tVar i) := by
  intro pins s σ H Q I h
  obtain ⟨v, e, h⟩ := h
  obtain ⟨m, hn, hl⟩ := I.loc
  obtain ⟨u, r, l⟩ := hl i x v hN e hv
  have fin : EP X pins σ Q u s := ⟨v, H, I, r, h⟩
  rcases l with ⟨hk, hm⟩ | ⟨hk, c, hc, hcell⟩
  · exact wpAny_Name (wpAny_loadName_local I.ok.kind hk hn hm fin) hd
  · rcases hk with hk | hk
    · exact wpAny_Name (wpAny_loadName_cell I.ok.kind hk hc hcell fin) hd
    · exact wpAny_Name (wpAny_loadName_free I.ok.kind hk hc hcell fin hcd) hd
theorem pe_int {i j pos} : PE X (.Constant (.int i) j pos) (tC (.int i)) := fun _ _ _ H _ I h => wpAny_Constant_int ⟨.int i, H, I.tok _, ⟨_, rfl⟩, h⟩
theorem pe_bl {b j pos} : PE X (.Constant (.bool b) j pos) (tC (.bl b)) := fun _ _ _ H _ I h => Constant_bool ⟨.bl b, H, I, rfl, h⟩
theorem pe_non {j pos} : PE X (.Constant .none j pos) (tC .non) := fun _ _ _ H _ I h => Constant_none ⟨.non, H, I, rfl, h⟩
theorem pe_str {x j pos} : PE X (.Constant (.str x) j pos) (tC (.str x)) := fun _ _ _ H _ I h => Calls.Constant_str ⟨.str x, H, I.tok _, ⟨_, rfl⟩, h⟩

/-- a global name of the def -/
def Gl (X : Cx) (x : Str) : Prop := X.env.kindOf x = some .globalImplicit
theorem ld_glob {E : Value → Shared → Prop} {pins : List (Addr × Obj)} {s : Shared} {σ : St} {H : Hp} {x : Str} {u : Value} {pos : Pos} {Q : Value → Shared → Prop} (I : Inv X pins σ H s) (hg : Gl X x) (hm : X.mg x = some u) (h : Q u s)
    (hd : (x == ("__debug__" : Str)) = false := by decide) : wpAny (model X.prog X.w) X.A (eval (.Name x pos) X.env) Q E s :=
  Calls.Name_function_global I.ok.kind hg (Calls.loadGlobal_global (by rw [I.ok.glob]; exact I.mod.glob.keeps I.bk) hm h) hd
theorem ld_blt {E : Value → Shared → Prop} {pins : List (Addr × Obj)} {s : Shared} {σ : St} {H : Hp} {x : Str} {u : Value} {pos : Pos} {Q : Value → Shared → Prop} (I : Inv X pins σ H s) (hg : Gl X x) (hm : X.mg x = none) (hv : bootBuiltins x = some u) (h : Q u s)
    (hn : x ≠ "__name__" := by decide) (hd : (x == ("__debug__" : Str)) = false := by decide) : wpAny (model X.prog X.w) X.A (eval (.Name x pos) X.env) Q E s := by
  obtain ⟨mb, h1, h2⟩ := I.mod.blt
  exact Calls.Name_function_global I.ok.kind hg (Calls.loadGlobal_builtin (by rw [I.ok.glob]; exact I.mod.glob.keeps I.bk) hm (by rw [I.ok.blt]; exact h1.keeps I.bk) ((h2 x hn).trans hv) h) hd
/-- a module's constant, a class, a function, as a value -/
theorem pe_glob {x : Str} {v : V} {u : Value} {pos : Pos} (hg : Gl X x) (hm : X.mg x = some u) (r : RelV v u) (hd : (x == ("__debug__" : Str)) = false := by decide) : PE X (.Name x pos) (tC v) :=
  fun _ _ _ H _ I h => ld_glob I hg hm ⟨v, H, I, r, h⟩ hd
theorem pe_bltn {x : Str} {v : V} {u : Value} {pos : Pos} (hg : Gl X x) (hm : X.mg x = none) (hv : bootBuiltins x = some u) (r : RelV v u) (hn : x ≠ "__name__" := by decide) (hd : (x == ("__debug__" : Str)) = false := by decide) : PE X (.Name x pos) (tC v) :=
  fun _ _ _ H _ I h => ld_blt I hg hm hv ⟨v, H, I, r, h⟩ hn hd

/-! ### arithmetic -/
/-- two ints -/
def t2I (ta tb : TE) (k : Int → Int → Hp → Prop) : St → Hp → Prop := fun σ H => ta σ H fun x H1 => tb σ H1 fun y H2 => ∃ i j, x = .int i ∧ y = .int j ∧ k i j H2
def tAdd (ta tb : TE) : TE := fun σ H Q => t2I ta tb (fun i j H2 => Q (.int (i + j)) H2) σ H
def tSub (ta tb : TE) : TE := fun σ H Q => t2I ta tb (fun i j H2 => Q (.int (i - j)) H2) σ H
/-- the left factor below 2^64 -/
def tMul (ta tb : TE) : TE := fun σ H Q => t2I ta tb (fun i j H2 => (-(2 ^ 64) < i ∧ i < 2 ^ 64) ∧ Q (.int (i * j)) H2) σ H
variable {a b : Expr} {ta tb : TE} {pos : Pos}
theorem pe_add (ha : PE X a ta) (hb : PE X b tb) : PE X (.BinOp a .Add b pos) (tAdd ta tb) := by
  intro pins s σ H Q I h
  refine wpAny_BinOp (bin ha hb I h fun v u s2 x y H2 I2 rx ry q => ?_)
  obtain ⟨i, j, rfl, rfl, q⟩ := q
  obtain ⟨t, rfl⟩ := rx
  obtain ⟨t', rfl⟩ := ry
  exact add_int ⟨.int _, H2, I2.tok _, ⟨_, rfl⟩, q⟩
theorem pe_sub (ha : PE X a ta) (hb : PE X b tb) : PE X (.BinOp a .Sub b pos) (tSub ta tb) := by
  intro pins s σ H Q I h
  refine wpAny_BinOp (bin ha hb I h fun v u s2 x y H2 I2 rx ry q => ?_)
  obtain ⟨i, j, rfl, rfl, q⟩ := q
  obtain ⟨t, rfl⟩ := rx
  obtain ⟨t', rfl⟩ := ry
  exact sub_int ⟨.int _, H2, I2.tok _, ⟨_, rfl⟩, q⟩
theorem pe_mul (ha : PE X a ta) (hb : PE X b tb) : PE X (.BinOp a .Mult b pos) (tMul ta tb) := by
  intro pins s σ H Q I h
  refine wpAny_BinOp (bin ha hb I h fun v u s2 x y H2 I2 rx ry q => ?_)
  obtain ⟨i, j, rfl, rfl, ⟨q1, q2⟩, q⟩ := q
  obtain ⟨t, rfl⟩ := rx
  obtain ⟨t', rfl⟩ := ry
  exact mul_int ⟨.int _, H2, I2.tok _, ⟨_, rfl⟩, q⟩ (.of_left (intBits_le_64 q1 q2))

/-! ### comparisons -/
def PC (X : Cx) (op : CmpOp) (a b : Expr) (t : TE) : Prop :=
  ∀ (pins : List (Addr × Obj)) (s : Shared) (σ : St) (H : Hp) (Q : VK), Inv X pins σ H s → t σ H Q →
    wpAny (model X.prog X.w) X.A (eval a X.env) (fun v s₁ => wpAny (model X.prog X.w) X.A (eval b X.env) (fun u s₂ => wpAny (model X.prog X.w) X.A (compareOp op v u) (EP X pins σ Q) X.xe s₂) X.xe s₁) X.xe s
theorem nobehind (b : Expr) {op : CmpOp} (h : op ≠ .In) (h2 : op ≠ .NotIn) : behindInMarks op b = false := by
  have e1 : (op == CmpOp.In) = false := by cases op <;> first | rfl | exact absurd rfl h
  have e2 : (op == CmpOp.NotIn) = false := by cases op <;> first | rfl | exact absurd rfl h2
  cases b <;> simp [behindInMarks, e1, e2]
def tCmp (p : Int → Int → Bool) (ta tb : TE) : TE := fun σ H Q => t2I ta tb (fun i j H2 => Q (.bl (p i j)) H2) σ H
abbrev tLt : TE → TE → TE := tCmp fun i j => decide (i < j)
abbrev tLe : TE → TE → TE := tCmp fun i j => decide (i ≤ j)
abbrev tGt : TE → TE → TE := tCmp fun i j => decide (j < i)
abbrev tGe : TE → TE → TE := tCmp fun i j => decide (j ≤ i)
abbrev tEqI : TE → TE → TE := tCmp fun i j => decide (i = j)
abbrev tNeI : TE → TE → TE := tCmp fun i j => !decide (i = j)
/-- a comparison of two ints, by its rule -/
theorem pc_int {op : CmpOp} {p : Int → Int → Bool} (ha : PE X a ta) (hb : PE X b tb)
    (rule : ∀ (i j : Int) (t u : Tok) (Q : Value → Shared → Prop) (s : Shared), Q (.bool (p i j)) s → wpAny (model X.prog X.w) X.A (compareOp op (.int i t) (.int j u)) Q X.xe s) : PC X op a b (tCmp p ta tb) := by
  intro pins s σ H Q I h
  refine bin ha hb I h fun v u s2 x y H2 I2 rx ry q => ?_
  obtain ⟨i, j, rfl, rfl, q⟩ := q
  obtain ⟨t, rfl⟩ := rx
  obtain ⟨t', rfl⟩ := ry
  exact rule i j t t' _ s2 ⟨.bl _, H2, I2, rfl, q⟩
theorem pc_lt (ha : PE X a ta) (hb : PE X b tb) : PC X .Lt a b (tLt ta tb) := pc_int ha hb fun _ _ _ _ _ _ h => lt_int h
theorem pc_le (ha : PE X a ta) (hb : PE X b tb) : PC X .LtE a b (tLe ta tb) := pc_int ha hb fun _ _ _ _ _ _ h => le_int h
theorem pc_gt (ha : PE X a ta) (hb : PE X b tb) : PC X .Gt a b (tGt ta tb) := pc_int ha hb fun _ _ _ _ _ _ h => gt_int h
theorem pc_ge (ha : PE X a ta) (hb : PE X b tb) : PC X .GtE a b (tGe ta tb) := pc_int ha hb fun _ _ _ _ _ _ h => ge_int h
theorem pc_eqI (ha : PE X a ta) (hb : PE X b tb) : PC X .Eq a b (tEqI ta tb) := pc_int ha hb fun _ _ _ _ _ _ h => eq_int (by rw [Bool.beq_eq_decide_eq]; exact h)
theorem pc_neI (ha : PE X a ta) (hb : PE X b tb) : PC X .NotEq a b (tNeI ta tb) := pc_int ha hb fun _ _ _ _ _ _ h => ne_int (by rw [bne, Bool.beq_eq_decide_eq]; exact h)
/-- is None -/
def tIsN (ta : TE) : TE := fun σ H Q => ta σ H fun x H1 => Q (.bl (decide (x = .non))) H1
def tNotN (ta : TE) : TE := fun σ H Q => ta σ H fun x H1 => Q (.bl (!decide (x = .non))) H1
theorem RelV.none_iff {x : V} {v : Value} (r : RelV x v) : (v == Value.none) = decide (x = .non) := by
  cases x with
  | non => cases r; rfl
  | bl _ => cases r; rfl
  | int _ => obtain ⟨t, rfl⟩ := r; rfl
  | str _ => obtain ⟨t, rfl⟩ := r; rfl
  | byt _ => obtain ⟨t, rfl⟩ := r; rfl
  | flt _ => obtain ⟨t, rfl⟩ := r; rfl
  | ref _ => cases r; rfl
  | ty _ => cases r; rfl
theorem pc_isN {j pos'} (ha : PE X a ta) : PC X .Is a (.Constant .none j pos') (tIsN ta) := by
  intro pins s σ H Q I h
  refine thn (ha pins s σ H _ I h) fun v s1 ⟨x, H1, I1, r1, q1⟩ => ?_
  exact Constant_none (is_none_gen ⟨.bl _, H1, I1, by rw [r1.none_iff]; rfl, q1⟩)
theorem pc_notN {j pos'} (ha : PE X a ta) : PC X .IsNot a (.Constant .none j pos') (tNotN ta) := by
  intro pins s σ H Q I h
  refine thn (ha pins s σ H _ I h) fun v s1 ⟨x, H1, I1, r1, q1⟩ => ?_
  exact Constant_none (isnot_none_gen ⟨.bl _, H1, I1, by rw [r1.none_iff]; rfl, q1⟩)
/-- a comparison as a value, as a test -/
def tB (t : TE) : TT := fun σ H Q => t σ H fun x H1 => ∃ c, x = .bl c ∧ Q c H1
theorem pe_cmp {op : CmpOp} {t : TE} (h : PC X op a b t) (h1 : behindInMarks op b = false := by first | exact nobehind _ (by decide) (by decide) | rfl) : PE X (.Compare a [op] [b] pos) t := fun pins s σ H Q I hw => wpAny_Compare1 (h pins s σ H Q I hw) h1
theorem pt_cmp {op : CmpOp} {t : TE} (h : PC X op a b t) (h1 : behindInMarks op b = false := by first | exact nobehind _ (by decide) (by decide) | rfl) : PT X (.Compare a [op] [b] pos) (tB t) := by
  intro pins s σ H Q I hw
  refine wpAny_isTrue_Compare1 (thn (h pins s σ H _ I hw) fun v s1 h1 => thn h1 fun u s2 h2 => thn h2 fun c s3 ⟨x, H1, I1, r1, q1⟩ => ?_) h1
  obtain ⟨d, rfl, q⟩ := q1
  cases r1
  exact wpAny_truthy_bool ⟨H1, I1, q⟩
/-- an expression whose value is a bool, as a test -/
theorem pt_val {e : Expr} {t : TE} (h : PE X e t) (he : ∀ whole, isTrue e X.env whole = (do let v ← whole; standAt e.pos; holding [v] (truthy v)) := by intro _; rfl) : PT X e (tB t) := by
  intro pins s σ H Q I hw
  refine isTrue_plain (thn (h pins s σ H _ I hw) fun v s1 ⟨x, H1, I1, r1, q1⟩ => ?_) (he _)
  obtain ⟨d, rfl, q⟩ := q1
  cases r1
  exact wpAny_truthy_bool ⟨H1, I1, q⟩

/-! ### and, or, not -/
variable {tA tB' : TT} {rest : List Expr}
def tAnd (t u : TT) : TT := fun σ H Q => t σ H fun c H1 => if c = true then u σ H1 Q else Q false H1
def tOr (t u : TT) : TT := fun σ H Q => t σ H fun c H1 => if c = true then Q true H1 else u σ H1 Q
def tNot (t : TT) : TT := fun σ H Q => t σ H fun c H1 => Q (!c) H1
theorem pw_and1 (ha : PT X a tA) : PW X (.BoolOp .And [a] pos) tA := by
  intro wh pins s σ H Q I h
  refine isTrue_and (thn (ha pins s σ H Q I h) fun c s1 e => ?_)
  cases c with
  | true => exact isTrue_and_nil e
  | false => exact e
theorem pw_or1 (ha : PT X a tA) : PW X (.BoolOp .Or [a] pos) tA := by
  intro wh pins s σ H Q I h
  refine isTrue_or (thn (ha pins s σ H Q I h) fun c s1 e => ?_)
  cases c with
  | false => exact isTrue_or_nil e
  | true => exact e
theorem pw_and (ha : PT X a tA) (hb : PW X (.BoolOp .And (b :: rest) pos) tB') : PW X (.BoolOp .And (a :: b :: rest) pos) (tAnd tA tB') := by
  intro wh pins s σ H Q I h
  refine isTrue_and (thn (ha pins s σ H _ I h) fun c s1 ⟨H1, I1, q1⟩ => ?_)
  cases c with
  | true => exact hb wh pins s1 σ H1 Q I1 q1
  | false => exact ⟨H1, I1, q1⟩
theorem pw_or (ha : PT X a tA) (hb : PW X (.BoolOp .Or (b :: rest) pos) tB') : PW X (.BoolOp .Or (a :: b :: rest) pos) (tOr tA tB') := by
  intro wh pins s σ H Q I h
  refine isTrue_or (thn (ha pins s σ H _ I h) fun c s1 ⟨H1, I1, q1⟩ => ?_)
  cases c with
  | true => exact ⟨H1, I1, q1⟩
  | false => exact hb wh pins s1 σ H1 Q I1 q1
theorem pt_not (ha : PT X a tA) : PT X (.UnaryOp .Not a pos) (tNot tA) := by
  intro pins s σ H Q I h
  exact isTrue_not (ha pins s σ H (fun c H1 => Q (!c) H1) I h)
/-- .. as values (bools) -/
def tAndV (ta tb : TE) : TE := fun σ H Q => ta σ H fun x H1 => ∃ c, x = .bl c ∧ if c = true then tb σ H1 Q else Q (.bl false) H1
def tOrV (ta tb : TE) : TE := fun σ H Q => ta σ H fun x H1 => ∃ c, x = .bl c ∧ if c = true then Q (.bl true) H1 else tb σ H1 Q
def tNotV (ta : TE) : TE := fun σ H Q => ta σ H fun x H1 => ∃ c, x = .bl c ∧ Q (.bl (!c)) H1
theorem pe_one {op} {t : TE} (h : PE X a t) : PE X (.BoolOp op [a] pos) t := fun pins s σ H Q I hw => BoolOp_one (h pins s σ H Q I hw)
theorem pe_and (ha : PE X a ta) (hb : PE X (.BoolOp .And (b :: rest) pos) tb) : PE X (.BoolOp .And (a :: b :: rest) pos) (tAndV ta tb) := by
  intro pins s σ H Q I h
  refine BoolOp_and (thn (ha pins s σ H _ I h) fun v s1 ⟨x, H1, I1, r1, q1⟩ => ?_)
  obtain ⟨c, rfl, q1⟩ := q1
  cases r1
  refine wpAny_truthy_bool ?_
  cases c with
  | true => exact hb pins s1 σ H1 Q I1 q1
  | false => exact ⟨.bl false, H1, I1, rfl, q1⟩
theorem pe_or (ha : PE X a ta) (hb : PE X (.BoolOp .Or (b :: rest) pos) tb) : PE X (.BoolOp .Or (a :: b :: rest) pos) (tOrV ta tb) := by
  intro pins s σ H Q I h
  refine BoolOp_or (thn (ha pins s σ H _ I h) fun v s1 ⟨x, H1, I1, r1, q1⟩ => ?_)
  obtain ⟨c, rfl, q1⟩ := q1
  cases r1
  refine wpAny_truthy_bool ?_
  cases c with
  | false => exact hb pins s1 σ H1 Q I1 q1
  | true => exact ⟨.bl true, H1, I1, rfl, q1⟩
theorem pe_not (ha : PE X a ta) : PE X (.UnaryOp .Not a pos) (tNotV ta) := by
  intro pins s σ H Q I h
  refine UnaryOp_ (thn (ha pins s σ H _ I h) fun v s1 ⟨x, H1, I1, r1, q1⟩ => ?_)
  obtain ⟨c, rfl, q1⟩ := q1
  cases r1
  exact not_of (wpAny_truthy_bool ⟨.bl (!c), H1, I1, rfl, q1⟩)
/-- a if t else b -/
def tIf (t : TT) (ta tb : TE) : TE := fun σ H Q => t σ H fun c H1 => if c = true then ta σ H1 Q else tb σ H1 Q
theorem pe_ifExp {c : Expr} (hc : PT X c tA) (ha : PE X a ta) (hb : PE X b tb) : PE X (.IfExp c a b pos) (tIf tA ta tb) := by
  intro pins s σ H Q I h
  refine wpAny_IfExp (thn (hc pins s σ H _ I h) fun d s1 ⟨H1, I1, q1⟩ => ?_)
  cases d with
  | true => exact ha pins s1 σ H1 Q I1 q1
  | false => exact hb pins s1 σ H1 Q I1 q1
end
end L2

namespace L2
open PySem PySem.Spec PyProof.Rows

/-! ### a list, a tuple that is read: tracked, frozen, or an object of the module -/
def SqL (K : PySem.W.Frag) (H : Hp) (a : Addr) (xs : List V) : Prop :=
  Rd H a (.lst xs) ∨
    ∃ (o : Obj) (its : Array Value) (n : Nat), K.lookup a = some o ∧ o.cls = .type "list" ∧ o.dict = none ∧ o.data = .seq its n ∧ its.size ≤ sizeLine ∧ Vals xs its.toList
def SqT (K : PySem.W.Frag) (H : Hp) (a : Addr) (xs : List V) : Prop :=
  Rd H a (.tup xs) ∨
    ∃ (o : Obj) (its : Array Value) (n : Nat), K.lookup a = some o ∧ o.cls = .type "tuple" ∧ o.data = .seq its n ∧ its.size ≤ sizeLine ∧ Vals xs its.toList
def absV : Value → Option V
  | .none => some .non
  | .bool b => some (.bl b)
  | .int i _ => some (.int i)
  | .str x _ => some (.str x)
  | .bytes b _ => some (.byt b)
  | .float b _ => some (.flt b)
  | .ref a => some (.ref a)
  | .type n => some (.ty n)
  | _ => none
theorem RelV.abs {x : V} {u : Value} (r : RelV x u) : absV u = some x := by
  cases x with
  | non => cases r; rfl
  | bl _ => cases r; rfl
  | int _ => obtain ⟨t, rfl⟩ := r; rfl
  | str _ => obtain ⟨t, rfl⟩ := r; rfl
  | byt _ => obtain ⟨t, rfl⟩ := r; rfl
  | flt _ => obtain ⟨t, rfl⟩ := r; rfl
  | ref _ => cases r; rfl
  | ty _ => cases r; rfl
theorem RelV.inj {x y : V} {u : Value} (r : RelV x u) (q : RelV y u) : x = y := Option.some.inj (r.abs.symm.trans q.abs)
theorem Vals.inj : ∀ {xs ys : List V} {us : List Value}, Vals xs us → Vals ys us → xs = ys
  | _, _, _, .nil, .nil => rfl
  | _, _, _, .cons r t, .cons r' t' => by rw [r.inj r', Vals.inj t t']
section
variable {X : Cx} {pins : List (Addr × Obj)} {σ : St} {H : Hp} {s : Shared} {a : Addr} {xs ys : List V}
theorem SqL.of {K : PySem.W.Frag} (h : H a = some (.lst xs)) : SqL K H a xs := .inl (.inl h)
theorem SqT.of {K : PySem.W.Frag} (h : H a = some (.tup xs)) : SqT K H a xs := .inl (.inl h)
theorem Inv.list (I : Inv X pins σ H s) (h : SqL X.K H a xs) : ∃ its : List Value, Vals xs its ∧ PlainL s.heap a its.toArray ∧ xs.length ≤ sizeLine := by
  rcases h with h | ⟨o, its, n, hk, hc, hd, hs, hz, r⟩
  · obtain ⟨z, its, n, r, e⟩ := h.ok I.hok
    exact ⟨its, r, ⟨_, n, e, rfl, rfl, rfl⟩, z⟩
  · refine ⟨its.toList, r, ⟨o, n, I.kIn a o hk, hc, hd, by simpa using hs⟩, ?_⟩
    have e := r.length
    simp only [Array.length_toList] at e
    omega
theorem Inv.tuple (I : Inv X pins σ H s) (h : SqT X.K H a xs) : ∃ its : List Value, Vals xs its ∧ IsTup s.heap a its.toArray ∧ xs.length ≤ sizeLine := by
  rcases h with h | ⟨o, its, n, hk, hc, hs, hz, r⟩
  · obtain ⟨z, its, r, p⟩ := h.ok I.hok
    exact ⟨its, r, p, z⟩
  · refine ⟨its.toList, r, ⟨o, I.kIn a o hk, hc, n, by simpa using hs⟩, ?_⟩
    have e := r.length
    simp only [Array.length_toList] at e
    omega
theorem Inv.list_inj (I : Inv X pins σ H s) (h : SqL X.K H a xs) (h' : SqL X.K H a ys) : xs = ys := by
  obtain ⟨its, r, ⟨o, n, e, _, _, d⟩, _⟩ := I.list h
  obtain ⟨its', r', ⟨o', n', e', _, _, d'⟩, _⟩ := I.list h'
  rw [e] at e'; cases e'
  rw [d] at d'
  injection d' with d1 _
  have : its = its' := by simpa using congrArg Array.toList d1
  subst this
  exact r.inj r'
theorem Inv.tuple_inj (I : Inv X pins σ H s) (h : SqT X.K H a xs) (h' : SqT X.K H a ys) : xs = ys := by
  obtain ⟨its, r, ⟨o, e, _, n, d⟩, _⟩ := I.tuple h
  obtain ⟨its', r', ⟨o', e', _, n', d'⟩, _⟩ := I.tuple h'
  rw [e] at e'; cases e'
  rw [d] at d'
  injection d' with d1 _
  have : its = its' := by simpa using congrArg Array.toList d1
  subst this
  exact r.inj r'
end

/-! ### another wish about exceptions -/
abbrev Cx.wish (X : Cx) (E : Value → Shared → Prop) : Cx := { X with xe := E }
/-- no exception leaves -/
abbrev Cx.nox (X : Cx) : Cx := X.wish fun _ _ => False
theorem Cx.Ok.wish {X : Cx} (ok : X.Ok) (E : Value → Shared → Prop) : (X.wish E).Ok :=
  ⟨ok.mod, ok.kind, ok.glob, ok.blt, ok.above, ok.inj, ok.has, ok.cab, ok.hd, ok.frames, ok.stk, ok.exf, ok.bs, ok.bsz, ok.noex, ok.exfs, ok.funs, ok.frf⟩
theorem Cx.Ok.unwish {X : Cx} {E : Value → Shared → Prop} (ok : (X.wish E).Ok) : X.Ok :=
  ⟨ok.mod, ok.kind, ok.glob, ok.blt, ok.above, ok.inj, ok.has, ok.cab, ok.hd, ok.frames, ok.stk, ok.exf, ok.bs, ok.bsz, ok.noex, ok.exfs, ok.funs, ok.frf⟩
section
variable {X : Cx} {pins : List (Addr × Obj)} {σ : St} {H : Hp} {s : Shared} {E : Value → Shared → Prop}
theorem Inv.wish (I : Inv X pins σ H s) (E : Value → Shared → Prop) : Inv (X.wish E) pins σ H s := ⟨I.ok.wish E, I.os, I.bare, I.base, I.loc, I.cell, I.free, I.freeC, I.pin, I.hok, I.len⟩
theorem Inv.unwish (I : Inv (X.wish E) pins σ H s) : Inv X pins σ H s := ⟨I.ok.unwish, I.os, I.bare, I.base, I.loc, I.cell, I.free, I.freeC, I.pin, I.hok, I.len⟩
theorem SP.unwish {D : Ends} {f : Flow} {s' : Shared} (h : SP (X.wish E) pins D f s') : SP X pins D f s' := by
  cases f with
  | next => obtain ⟨σ', H', I, q⟩ := h; exact ⟨σ', H', I.unwish, q⟩
  | brk => obtain ⟨σ', H', I, q⟩ := h; exact ⟨σ', H', I.unwish, q⟩
  | cont => obtain ⟨σ', H', I, q⟩ := h; exact ⟨σ', H', I.unwish, q⟩
  | ret u => obtain ⟨v, σ', H', I, r, q⟩ := h; exact ⟨v, σ', H', I.unwish, r, q⟩
theorem PE.nox {e : Expr} {t : TE} (h : PE X.nox e t) : PE X e t := fun pins s σ H Q I hw =>
  wpAny_mono (h pins s σ H Q (I.wish _) hw) (fun _ _ ⟨v, H', I', r, q⟩ => ⟨v, H', I'.unwish, r, q⟩) fun _ _ z => False.elim z
theorem PT.nox {e : Expr} {t : TT} (h : PT X.nox e t) : PT X e t := fun pins s σ H Q I hw =>
  wpAny_mono (h pins s σ H Q (I.wish _) hw) (fun _ _ ⟨H', I', q⟩ => ⟨H', I'.unwish, q⟩) fun _ _ z => False.elim z
theorem PSs.nox {st : List Stmt} {t : TS} (h : PSs X.nox st t) : PSs X st t := fun pins s σ H D I hw =>
  wpAny_mono (h pins s σ H D (I.wish _) hw) (fun _ _ q => q.unwish) fun _ _ z => False.elim z
end

/-! ### blocks and small statements -/
section
variable {X : Cx} {st : Stmt} {rest : List Stmt} {t u : TS} {e : Expr} {te : TE} {pos : Pos}
def tNext : TS := fun D σ H => D.nx σ H
def tSeq (t u : TS) : TS := fun D σ H => t { D with nx := u D } σ H
theorem pss_nil : PSs X [] tNext := fun _ _ σ H _ I h => wpAny_execs_nil ⟨σ, H, I, h⟩
theorem pss_cons (h1 : PS X st t) (h2 : PSs X rest u) : PSs X (st :: rest) (tSeq t u) := by
  intro pins s σ H D I h
  refine wpAny_execs_cons (thn (h1 pins s σ H { D with nx := u D } I h) fun f s1 q => ?_)
  cases f with
  | next =>
    obtain ⟨σ', H', I', q⟩ := q
    exact h2 pins s1 σ' H' D I' q
  | ret v => exact q
  | brk => exact q
  | cont => exact q
theorem pss_one (h1 : PS X st t) : PSs X [st] t := by
  intro pins s σ H D I h
  refine wpAny_execs_cons (thn (h1 pins s σ H D I h) fun f s1 q => ?_)
  cases f with
  | next => exact wpAny_execs_nil q
  | ret v => exact q
  | brk => exact q
  | cont => exact q
def tBreak : TS := fun D σ H => D.bk σ H
def tCont : TS := fun D σ H => D.ct σ H
theorem ps_pass : PS X (.Pass pos) tNext := fun _ _ σ H _ I h => wpAny_Pass ⟨σ, H, I, h⟩
theorem ps_break : PS X (.Break pos) tBreak := fun _ _ σ H _ I h => wpAny_Break ⟨σ, H, I, h⟩
theorem ps_continue : PS X (.Continue pos) tCont := fun _ _ σ H _ I h => wpAny_Continue ⟨σ, H, I, h⟩
/-- in a def's body nothing is shown -/
theorem Inv.quiet {pins : List (Addr × Obj)} {σ : St} {H : Hp} {s : Shared} (I : Inv X pins σ H s) : interactive X.env = false := by simp [interactive, I.ok.kind]
/-- a docstring -/
theorem ps_doc {x j pos pos'} : PS X (.Expr (.Constant (.str x) j pos) pos') tNext := fun _ s σ H _ I h => wpAny_Expr (Calls.Constant_str (show SP X _ _ .next { s with toks := s.toks + 1 } from ⟨σ, H, I.tok _, h⟩)) I.quiet
/-- an expression whose value is dropped -/
def tDrop (te : TE) : TS := fun D σ H => te σ H fun _ H1 => D.nx σ H1
theorem ps_expr (he : PE X e te) (hs : swapsWith e none pos.line X.env = pure false := by rfl) : PS X (.Expr e pos) (tDrop te) := by
  intro pins s σ H D I h
  exact wpAny_Expr_any (thn (he pins s σ H _ I h) fun v s1 ⟨x, H1, I1, r1, q1⟩ => ⟨σ, H1, I1, q1⟩) I.quiet hs
def tRet (te : TE) : TS := fun D σ H => te σ H D.rt
theorem ps_ret (he : PE X e te) : PS X (.Return (some e) pos) (tRet te) := by
  intro pins s σ H D I h
  exact wpAny_Return_some (thn (he pins s σ H _ I h) fun v s1 ⟨x, H1, I1, r1, q1⟩ => ⟨x, σ, H1, I1, r1, q1⟩)
def tRetN : TS := fun D _ H => D.rt .non H
theorem ps_retN : PS X (.Return none pos) tRetN := fun _ _ σ H _ I h => wpAny_Return_none ⟨.non, σ, H, I, rfl, h⟩
def tIfS (c : TT) (t u : TS) : TS := fun D σ H => c σ H fun b H1 => if b = true then t D σ H1 else u D σ H1
theorem ps_if {c : Expr} {a b : List Stmt} {tc : TT} (hc : PT X c tc) (ha : PSs X a t) (hb : PSs X b u) : PS X (.If c a b pos) (tIfS tc t u) := by
  intro pins s σ H D I h
  refine wpAny_If (thn (hc pins s σ H _ I h) fun d s1 ⟨H1, I1, q1⟩ => ?_)
  cases d with
  | true => exact ha pins s1 σ H1 D I1 q1
  | false => exact hb pins s1 σ H1 D I1 q1
/-- code that the proof never comes to -/
def tNever : TS := fun _ _ _ => False
theorem ps_never : PS X st tNever := fun _ _ _ _ _ _ h => h.elim
theorem pss_never {sts : List Stmt} : PSs X sts tNever := fun _ _ _ _ _ _ h => h.elim
end

/-! ### targets -/
abbrev TG := V → St → Hp → (St → Hp → Prop) → Prop
abbrev TGs := List V → St → Hp → (St → Hp → Prop) → Prop
def PG (X : Cx) (target : Expr) (t : TG) : Prop :=
  ∀ (pins : List (Addr × Obj)) (s : Shared) (σ : St) (H : Hp) (v : V) (u : Value) (Q : St → Hp → Prop), Inv X pins σ H s → RelV v u → t v σ H Q →
    wpAny (model X.prog X.w) X.A (assign target X.env u) (fun _ s' => ∃ σ' H', Inv X pins σ' H' s' ∧ Q σ' H') X.xe s
/-- several targets, one after another -/
def PGs (X : Cx) (ts : List Expr) (t : TGs) : Prop :=
  ∀ (pins : List (Addr × Obj)) (s : Shared) (σ : St) (H : Hp) (vs : List V) (us : List Value) (Q : St → Hp → Prop), Inv X pins σ H s → Vals vs us → t vs σ H Q →
    wpAny (model X.prog X.w) X.A (assignInOrder ((assignEach ts X.env).map (·.2)) us) (fun _ s' => ∃ σ' H', Inv X pins σ' H' s' ∧ Q σ' H') X.xe s
/-- o[i] = v, by values -/
abbrev TSet := V → V → V → Hp → (Hp → Prop) → Prop
def PSet (X : Cx) (t : TSet) : Prop :=
  ∀ (pins : List (Addr × Obj)) (s : Shared) (σ : St) (H : Hp) (o i v : V) (ov iv u : Value) (Q : Hp → Prop), Inv X pins σ H s → RelV o ov → RelV i iv → RelV v u → t o i v H Q →
    wpAny (model X.prog X.w) X.A (setItem ov iv u) (fun _ s' => ∃ H', Inv X pins σ H' s' ∧ Q H') X.xe s
/-- a op= b, by values -/
abbrev TIp := V → V → Hp → VK → Prop
def PIp (X : Cx) (op : Operator) (t : TIp) : Prop :=
  ∀ (pins : List (Addr × Obj)) (s : Shared) (σ : St) (H : Hp) (x y : V) (v u : Value) (Q : VK), Inv X pins σ H s → RelV x v → RelV y u → t x y H Q →
    wpAny (model X.prog X.w) X.A (inplaceOp op v u) (EP X pins σ Q) X.xe s
section
variable {X : Cx} {pos : Pos}
def gName (i : Nat) : TG := fun v σ H Q => Q (σ.set i (some v)) H
theorem pg_name {i : Nat} {x : Str} (hN : X.N.Nodup) (hi : X.N[i]? = some x) (hx : Loc X.env.scope x) (hf : X.fn x = true ∨ X.env.scope.names.lookup x = some .local := by first | exact .inl rfl | exact .inr rfl | assumption) : PG X (.Name x pos) (gName i) := by
  intro pins s σ H v u Q I r h
  exact wpAny_assign_Name (store_ok I hN hi hx r (fun s' I' => ⟨_, H, I', h⟩) hf)
def gNil : TGs := fun vs σ H Q => vs = [] ∧ Q σ H
def gCons (t : TG) (u : TGs) : TGs := fun vs σ H Q => ∃ v r, vs = v :: r ∧ t v σ H fun σ' H' => u r σ' H' Q
theorem pgs_nil : PGs X [] gNil := by
  intro pins s σ H vs us Q I r h
  obtain ⟨e, h⟩ := h
  subst e
  cases r
  exact assignInOrder_nil ⟨σ, H, I, h⟩
theorem pgs_cons {e : Expr} {es : List Expr} {t : TG} {u : TGs} (h1 : PG X e t) (h2 : PGs X es u)
    (hs : (assignEach (e :: es) X.env).map (·.2) = assign e X.env :: (assignEach es X.env).map (·.2) := by rfl) : PGs X (e :: es) (gCons t u) := by
  intro pins s σ H vs us Q I r h
  obtain ⟨v, vr, e1, h⟩ := h
  subst e1
  cases r with
  | cons r rr =>
    rw [hs]
    refine assignInOrder_cons (thn (h1 pins s σ H _ _ _ I r h) fun _ s1 ⟨σ1, H1, I1, q1⟩ => ?_)
    exact h2 pins s1 σ1 H1 _ _ Q I1 rr q1
/-- (a, b, ..) = a tuple of that length -/
def gTup (K : PySem.W.Frag) (n : Nat) (t : TGs) : TG := fun v σ H Q => ∃ a xs, v = .ref a ∧ SqT K H a xs ∧ xs.length = n ∧ t xs σ H Q
theorem pg_tup {es : List Expr} {k : Nat} {t : TGs} {n : Nat} (hc : X.calm = true) (h : PGs X es t)
    (hn : (assignEach es X.env).length = n := by rfl) (hst : (assignEach es X.env).findIdx? (·.1) = none := by rfl) : PG X (.Tuple es k pos) (gTup X.K n t) := by
  intro pins s σ H v u Q I r hw
  obtain ⟨a, xs, e1, hq, hl, hw⟩ := hw
  subst e1
  cases r
  obtain ⟨its, rv, ht, hz⟩ := I.tuple hq
  refine assign_Tuple_tuple (I.ok.hd hc) ht (by simp [hn, ← hl, rv.length]) hst fun h' hx => ?_
  have I1 : Inv X pins σ H { s with heap := h' } := I.kept (t' := s.toks) fun b o e => hx b o (Nat.ne_of_lt (Heap.lt_size e)) e
  exact h pins _ σ H xs _ Q I1 (by simpa using rv) hw
/-- o[i] = .. -/
def gSub (to ti : TE) (t : TSet) : TG := fun v σ H Q => to σ H fun o H1 => ti σ H1 fun i H2 => t o i v H2 fun H3 => Q σ H3
theorem pg_sub {o i : Expr} {to ti : TE} {t : TSet} (ho : PE X o to) (hi : PE X i ti) (hs : PSet X t)
    (ha : ∀ v, assign (.Subscript o i pos) X.env v = (do
      let ov ← holding [v] (eval o X.env)
      let iv ← holding [v, ov] (eval i X.env)
      standAt pos
      holding [v, ov, iv] (setItem ov iv v)
      release [v, ov, iv] []) := by intro _; rfl) : PG X (.Subscript o i pos) (gSub to ti t) := by
  intro pins s σ H v u Q I r h
  rw [ha]
  refine wpAny_bind (wpAny_holding (thn (ho pins s σ H _ I h) fun ov s1 ⟨x, H1, I1, r1, q1⟩ => ?_))
  refine wpAny_bind (wpAny_holding (thn (hi pins s1 σ H1 _ I1 q1) fun iv s2 ⟨y, H2, I2, r2, q2⟩ => ?_))
  refine wpAny_bind (wpAny_standAt (wpAny_bind (wpAny_holding (thn (hs pins s2 σ H2 x y v ov iv u _ I2 r1 r2 r q2) fun _ s3 ⟨H3, I3, q3⟩ => ?_))))
  exact wpAny_release ⟨σ, H3, I3, q3⟩
/-- target = value -/
def tAsg (te : TE) (g : TG) : TS := fun D σ H => te σ H fun x H1 => g x σ H1 D.nx
theorem ps_asg {tg e : Expr} {te : TE} {g : TG} (he : PE X e te) (hg : PG X tg g) (hs : swapsWithSole [tg] e pos.line X.env = pure false := by rfl) (hw : swappedStores [tg] e X.env = pure none := by rfl)
    (h1 : (assignEach [tg] X.env).map (·.2) = [assign tg X.env] := by rfl) : PS X (.Assign [tg] e pos) (tAsg te g) := by
  intro pins s σ H D I h
  refine wpAny_Assign_stores (thn (he pins s σ H _ I h) fun v s1 ⟨x, H1, I1, r1, q1⟩ => ?_) hs hw
  rw [h1]
  exact thn (hg pins s1 σ H1 x v _ I1 r1 q1) fun _ s2 q => q
/-- name = value -/
theorem ps_set {i : Nat} {x : Str} {e : Expr} {te : TE} {pos' : Pos} (hN : X.N.Nodup) (hi : X.N[i]? = some x) (hx : Loc X.env.scope x) (he : PE X e te) (hs : swapsWith e (some (.Name x pos')) pos.line X.env = pure false := by rfl) (hf : X.fn x = true ∨ X.env.scope.names.lookup x = some .local := by first | exact .inl rfl | exact .inr rfl | assumption) :
    PS X (.Assign [.Name x pos'] e pos) (tAsg te (gName i)) := by
  intro pins s σ H D I h
  refine wpAny_Assign_Name (thn (he pins s σ H _ I h) fun v s1 ⟨y, H1, I1, r1, q1⟩ => ?_) hs
  exact store_ok I1 hN hi hx r1 (fun s2 I2 => ⟨_, H1, I2, q1⟩) hf
/-- a, b = x, y with plain local names: stored from the right; the pair itself is not tracked (the opening rows as in PyProof/Rows/TupAssign.lean:23) -/
def tPar (i j : Nat) (ta : TA) : TS := fun D σ H => ta σ H fun vs H1 => ∃ v w, vs = [v, w] ∧ D.nx ((σ.set i (some v)).set j (some w)) H1
theorem ps_par {i j : Nat} {x y : Str} {a b : Expr} {ta : TA} {px py pt : Pos} {kt k2 pt2} (hc : X.calm = true) (hN : X.N.Nodup) (hi : X.N[i]? = some x) (hj : X.N[j]? = some y) (hij : i ≠ j)
    (hx : X.env.scope.names.lookup x = some .local) (hy : X.env.scope.names.lookup y = some .local) (ha : PA X [a, b] ta)
    (hw : swappedStores [.Tuple [.Name x px, .Name y py] kt pt] (.Tuple [a, b] k2 pt2) X.env = pure (some [x, y]))
    (hs : swapsWithSole [.Tuple [.Name x px, .Name y py] kt pt] (.Tuple [a, b] k2 pt2) pos.line X.env = pure false := by rfl) :
    PS X (.Assign [.Tuple [.Name x px, .Name y py] kt pt] (.Tuple [a, b] k2 pt2) pos) (tPar i j ta) := by
  intro pins s σ H D I h
  rw [exec_Assign_arm]
  refine wpAny_bind (wpAny_standAt ?_)
  rw [hs]
  refine wpAny_bind (wpAny_pure ?_)
  rw [if_neg (by decide)]
  refine wpAny_bind (Tuple_ (thn (ha _ pins s σ H _ I h) fun us s1 ⟨vs, H1, I1, r1, q1⟩ => ?_))
  obtain ⟨v, w, e1, q1⟩ := q1
  subst e1
  obtain ⟨u1, u2, rfl, rv, rw'⟩ : ∃ u1 u2, us = [u1, u2] ∧ RelV v u1 ∧ RelV w u2 := by
    cases r1 with
    | cons p q =>
      cases q with
      | cons p' q' =>
        cases q'
        exact ⟨_, _, rfl, p, p'⟩
  refine wpAny_newObj_type ?_ (by show 2 ≤ sizeLine; decide)
  have I2 : Inv X pins σ H1 { s1 with heap := s1.heap.push { cls := .type "tuple", data := .seq [u1, u2].toArray } } := I1.kept (t' := s1.toks) fun b o e => Heap.get?_push_of_some _ e
  rw [hw]
  refine wpAny_bind (wpAny_pure ?_)
  show wpAny (model X.prog X.w) X.A (do rule "assign.swapped-stores"; let items ← unpackItems (.ref s1.heap.objs.size) 2 none; assignInOrder [fun v => bindName X.env y v, fun v => bindName X.env x v] items.reverse; pure Flow.next) _ _ _
  refine wpAny_bind (wpAny_rule (wpAny_bind (unpackItems_tuple (items := #[u1, u2]) (I.ok.hd hc) (IsTup.new s1.heap _) fun h' hx' => ?_)))
  have I3 := I2.kept (h' := h') (t' := s1.toks) fun b o e => hx' b o (Nat.ne_of_lt (Heap.lt_size e)) e
  show wpAny _ _ (assignInOrder [fun v => bindName X.env y v, fun v => bindName X.env x v] [u2, u1] >>= fun _ => pure Flow.next) _ _ _
  refine wpAny_bind (assignInOrder_cons (wpAny_bindName (store_ok I3 hN hj (.inl hy) rw' (fun s2 I4 => ?_) (.inr hy))))
  refine assignInOrder_cons (wpAny_bindName (store_ok I4 hN hi (.inl hx) rv (fun s3 I5 => assignInOrder_nil (wpAny_pure ?_)) (.inr hx)))
  rw [List.set_comm _ _ (Ne.symm hij)] at I5
  exact ⟨_, H1, I5, q1⟩
/-- name op= e -/
def tAug (i : Nat) (te : TE) (ti : TIp) : TS := fun D σ H => ∃ x, σ[i]? = some (some x) ∧ te σ H fun y H1 => ti x y H1 fun z H2 => D.nx (σ.set i (some z)) H2
theorem ps_aug {i : Nat} {x : Str} {e : Expr} {te : TE} {op : Operator} {ti : TIp} {pos' : Pos} (hN : X.N.Nodup) (hi : X.N[i]? = some x) (hx : Loc X.env.scope x) (he : PE X e te) (ho : PIp X op ti) (hf : X.fn x = true ∨ X.env.scope.names.lookup x = some .local := by first | exact .inl rfl | exact .inr rfl | assumption) :
    PS X (.AugAssign (.Name x pos') op e pos) (tAug i te ti) := by
  intro pins s σ H D I h
  obtain ⟨v, e1, h⟩ := h
  obtain ⟨m, hn, hl⟩ := I.loc
  have vis : Vis X.env.scope x := by rcases hx with k | k; exact .inl k; exact .inr (.inl k)
  obtain ⟨u, r, l⟩ := hl i x v hi e1 vis
  refine wpAny_AugAssign_Name ?_
  have go : wpAny (model X.prog X.w) X.A (eval e X.env) (fun w s₂ => wpAny (model X.prog X.w) X.A (inplaceOp op u w) (fun r s₃ => wpAny (model X.prog X.w) X.A (storeName X.env x r) (fun _ => SP X pins D .next) X.xe s₃) X.xe s₂) X.xe s := by
    refine thn (he pins s σ H _ I h) fun w s1 ⟨y, H1, I1, r1, q1⟩ => ?_
    refine thn (ho pins s1 σ H1 v y u w _ I1 r r1 q1) fun z s2 ⟨zv, H2, I2, r2, q2⟩ => ?_
    exact store_ok I2 hN hi hx r2 (fun s3 I3 => ⟨_, H2, I3, q2⟩) hf
  rcases l with ⟨hk, hm⟩ | ⟨hk, c, hc, hcell⟩
  · exact wpAny_loadName_local I.ok.kind hk hn hm go
  · rcases hk with hk | hk
    · exact wpAny_loadName_cell I.ok.kind hk hc hcell go
    · rcases hx with k | k
      · have : X.env.scope.names.lookup x = some .free := hk
        rw [k] at this; cases this
      · have : X.env.scope.names.lookup x = some .free := hk
        rw [k] at this; cases this
/-- o[i] op= e -/
def tAugS (to ti te : TE) (tget : V → V → Hp → VK → Prop) (tip : TIp) (tset : TSet) : TS := fun D σ H => to σ H fun o H1 => ti σ H1 fun i H2 => tget o i H2 fun x H3 => te σ H3 fun y H4 => tip x y H4 fun z H5 => tset o i z H5 fun H6 => D.nx σ H6
/-- o[i], by values -/
def PGet (X : Cx) (t : V → V → Hp → VK → Prop) : Prop :=
  ∀ (pins : List (Addr × Obj)) (s : Shared) (σ : St) (H : Hp) (o i : V) (ov iv : Value) (Q : VK), Inv X pins σ H s → RelV o ov → RelV i iv → t o i H Q →
    wpAny (model X.prog X.w) X.A (getItem ov iv) (EP X pins σ Q) X.xe s
theorem ps_augS {o i e : Expr} {to ti te : TE} {tget : V → V → Hp → VK → Prop} {tip : TIp} {tset : TSet} {op : Operator} {tpos : Pos} (ho : PE X o to) (hi : PE X i ti) (hg : PGet X tget) (he : PE X e te) (hp : PIp X op tip) (hs : PSet X tset)
    (ha : ∀ ov iv new, augStore i ov iv new = (do holding [new, ov, iv] (setItem ov iv new); release [new, ov, iv] []; pure .next) := by intros; rfl) : PS X (.AugAssign (.Subscript o i tpos) op e pos) (tAugS to ti te tget tip tset) := by
  intro pins s σ H D I h
  refine wpAny_AugAssign_SubscriptAny (thn (ho pins s σ H _ I h) fun ov s1 ⟨x1, H1, I1, r1, q1⟩ => ?_) ha
  refine thn (hi pins s1 σ H1 _ I1 q1) fun iv s2 ⟨x2, H2, I2, r2, q2⟩ => ?_
  refine thn (hg pins s2 σ H2 x1 x2 ov iv _ I2 r1 r2 q2) fun old s3 ⟨x3, H3, I3, r3, q3⟩ => ?_
  refine thn (he pins s3 σ H3 _ I3 q3) fun v s4 ⟨x4, H4, I4, r4, q4⟩ => ?_
  refine thn (hp pins s4 σ H4 x3 x4 old v _ I4 r3 r4 q4) fun new s5 ⟨x5, H5, I5, r5, q5⟩ => ?_
  exact thn (hs pins s5 σ H5 x1 x2 x5 ov iv new _ I5 r1 r2 r5 q5) fun _ s6 ⟨H6, I6, q6⟩ => ⟨σ, H6, I6, q6⟩
/-- ints -/
def ipI (f : Int → Int → Int) : TIp := fun x y H Q => ∃ i j, x = .int i ∧ y = .int j ∧ Q (.int (f i j)) H
theorem ip_add : PIp X .Add (ipI fun i j => i + j) := by
  intro pins s σ H x y v u Q I r1 r2 h
  obtain ⟨i, j, e1, e2, q⟩ := h
  subst e1; subst e2
  obtain ⟨t, rfl⟩ := r1
  obtain ⟨t', rfl⟩ := r2
  exact iadd_int ⟨.int _, H, I.tok _, ⟨_, rfl⟩, q⟩
theorem ip_sub : PIp X .Sub (ipI fun i j => i - j) := by
  intro pins s σ H x y v u Q I r1 r2 h
  obtain ⟨i, j, e1, e2, q⟩ := h
  subst e1; subst e2
  obtain ⟨t, rfl⟩ := r1
  obtain ⟨t', rfl⟩ := r2
  exact isub_int ⟨.int _, H, I.tok _, ⟨_, rfl⟩, q⟩
end

/-! ### while -/
section
variable {X : Cx} {pos : Pos}
/-- the invariant W with its measure -/
def tWhile (c : TT) (tb : TS) : TS := fun D σ H => ∃ W : Nat → St → Hp → Prop, (∃ m, W m σ H) ∧ ∀ m σ H, W m σ H →
  c σ H fun b H1 => if b = true then ∃ N : St → Hp → Prop, (∀ σ' H', N σ' H' → ∃ m', m' < m ∧ W m' σ' H') ∧ tb { D with nx := N, ct := N, bk := D.nx } σ H1 else D.nx σ H1
theorem ps_while {c : Expr} {body : List Stmt} {tc : TT} {tb : TS} (hp : PassesOwn (model X.prog X.w) X.A X.env X.xe) (hc : PT X c tc) (hb : PSs X body tb) : PS X (.While c body [] pos) (tWhile tc tb) := by
  intro pins s σ H D I h
  obtain ⟨W, ⟨m0, w0⟩, turn⟩ := h
  refine wpAny_While (codeAny_whileLoop (fun n s' => ∃ σ' H', Inv X pins σ' H' s' ∧ W n σ' H') ?_ m0 ⟨σ, H, I, w0⟩)
  rintro n s1 ⟨σ1, H1, I1, w1⟩
  refine wpAny_passesOwn hp (thn (hc pins s1 σ1 H1 _ I1 (turn n σ1 H1 w1)) fun b s2 ⟨H2, I2, q2⟩ => ?_)
  cases b with
  | true =>
    obtain ⟨N, hN, q2⟩ := q2
    rw [if_pos rfl]
    refine wpAny_passesOwn hp (thn (hb pins s2 σ1 H2 _ I2 q2) fun f s3 q3 => ?_)
    cases f with
    | next =>
      obtain ⟨σ3, H3, I3, n3⟩ := q3
      obtain ⟨m', hm, w3⟩ := hN σ3 H3 n3
      exact ⟨m', hm, σ3, H3, I3, w3⟩
    | cont =>
      obtain ⟨σ3, H3, I3, n3⟩ := q3
      obtain ⟨m', hm, w3⟩ := hN σ3 H3 n3
      exact ⟨m', hm, σ3, H3, I3, w3⟩
    | brk => exact q3
    | ret v => exact q3
  | false =>
    rw [if_neg Bool.false_ne_true]
    exact wpAny_execs_nil ⟨σ1, H2, I2, q2⟩
end

/-! ### what a loop or a comprehension walks -/
/-- at turn i: it yields x (the heap may grow), or it stops -/
structure It where
  go : Nat → Hp → Prop
  yld : Nat → Hp → V → Hp → Prop
  stop : Nat → Hp → Prop
/-- the iterator's own objects may turn: they are not the frame's, not pinned, younger than the entry (or a comprehension's own) -/
def FpOk (X : Cx) (pins : List (Addr × Obj)) (H : Hp) (b : Addr) : Prop :=
  H b = none ∧ b ≠ X.env.locals ∧ b ∉ X.fs ∧ (b ∈ X.ex ∨ X.s₀.heap.objs.size ≤ b) ∧ (∀ x c, X.env.cells.lookup x = some c → c ≠ b) ∧ ∀ p ∈ X.pn ++ pins, p.1 ≠ b
theorem Inv.fpOk {X : Cx} {pins : List (Addr × Obj)} {σ : St} {H H' : Hp} {s : Shared} {b : Addr} (I : Inv X pins σ H s) (hb : s.heap.objs.size ≤ b) (hn : H' b = none) : FpOk X pins H' b := by
  refine ⟨hn, Nat.ne_of_gt (Nat.lt_of_lt_of_le I.lt hb), I.nofs hb, .inr (Nat.le_trans I.sz hb), fun x c e z => ?_, fun p hp z => ?_⟩
  · obtain ⟨v, q⟩ := I.cell x c e
    exact absurd (Nat.lt_of_lt_of_le q.lt (by rw [z]; exact hb)) (Nat.lt_irrefl _)
  · exact absurd (Nat.lt_of_lt_of_le (Heap.lt_size (I.pin p hp).1) (by rw [z]; exact hb)) (Nat.lt_irrefl _)
structure Turn (P : Program) (w : World) (K : PySem.W.Frag) (tg : Expr) (J : It) (fp : List Addr) (it : Addr) (tn : Nat → Heap → Prop) : Prop where
  mem : it ∈ fp
  obj : ∀ i h, tn i h → ∀ b ∈ fp, ∃ o, h.get? b = some o ∧ ∀ v, o.data ≠ .cell v
  keep : ∀ i h h', tn i h → (∀ b ∈ fp, ∀ o, h.get? b = some o → h'.get? b = some o) → tn i h'
  item : ∀ (X : Cx), X.prog = P → X.w = w → X.K = K → X.calm = true → ∀ (i : Nat) (pins : List (Addr × Obj)) (s : Shared) (σ : St) (H : Hp) (E : Value → Shared → Prop), Inv X pins σ H s → (∀ b ∈ fp, FpOk X pins H b) → tn i s.heap → J.go i H →
    wpAny (model P w) X.A (pyNext (.ref it)) (fun r s1 => ∃ u, r = some u ∧
      wpAny (model P w) X.A (letOwnedTupleGo tg (.ref it) u) (fun _ s2 => ∃ x H', Inv X pins σ H' s2 ∧ RelV x u ∧ J.yld i H x H' ∧ tn (i + 1) s2.heap ∧ ∀ b ∈ fp, H' b = none) E s1) E s
  done : ∀ (X : Cx), X.prog = P → X.w = w → X.K = K → X.calm = true → ∀ (i : Nat) (pins : List (Addr × Obj)) (s : Shared) (σ : St) (H : Hp) (E : Value → Shared → Prop), Inv X pins σ H s → (∀ b ∈ fp, FpOk X pins H b) → tn i s.heap → J.stop i H →
    wpAny (model P w) X.A (pyNext (.ref it)) (fun r s1 => r = none ∧ Inv X pins σ H s1) E s
  self : ∀ (A : Around) (i : Nat) (s : Shared) (Q : Value → Shared → Prop) (E : Value → Shared → Prop), tn i s.heap → Q (.ref it) s → wpAny (model P w) A (pyIter (.ref it)) Q E s
abbrev TI := St → Hp → (It → Hp → Prop) → Prop
/-- an iterator has come -/
def PIE (X : Cx) (pins : List (Addr × Obj)) (σ : St) (tg : Expr) (R : It → Hp → Prop) (itv : Value) (s2 : Shared) : Prop :=
  ∃ (it : Addr) (fp : List Addr) (tn : Nat → Heap → Prop) (J : It) (H' : Hp), itv = .ref it ∧ Inv X pins σ H' s2 ∧ Turn X.prog X.w X.K tg J fp it tn ∧ tn 0 s2.heap ∧ (∀ b ∈ fp, FpOk X pins H' b) ∧ R J H'
def PI (X : Cx) (tg iter : Expr) (wi : TI) : Prop :=
  ∀ (pins : List (Addr × Obj)) (s : Shared) (σ : St) (H : Hp) (R : It → Hp → Prop), Inv X pins σ H s → wi σ H R →
    wpAny (model X.prog X.w) X.A (eval iter X.env) (fun v s1 => wpAny (model X.prog X.w) X.A (pyIter v) (PIE X pins σ tg R) X.xe s1) X.xe s

/-- the step ahead of the store is nothing for an iterator that keeps no tuple -/
theorem go_of {M : Model} {A : Around} {E : Value → Shared → Prop} {s : Shared} {tg : Expr} {it : Addr} {u : Value} {o : Obj} {n : String} {vs : Array Value} {Q : Unit → Shared → Prop} (ho : s.heap.get? it = some o) (hc : o.cls = .type n) (hd : o.data = .fields vs)
    (hn : ["enumerate", "zip", "dict_itemiterator", "dict_reverseitemiterator", "odict_iterator", "itertools.zip_longest", "itertools.pairwise"].contains n = false) (hQ : Q () s) : wpAny M A (letOwnedTupleGo tg (.ref it) u) Q E s := by
  unfold letOwnedTupleGo
  cases tg <;> first
    | exact wpAny_pure hQ
    | (cases u <;> first
        | exact wpAny_pure hQ
        | (refine wpAny_bind (wpAny_load ho ?_)
           rw [hc, hd]
           show wpAny M A (if (["enumerate", "zip", "dict_itemiterator", "dict_reverseitemiterator", "odict_iterator", "itertools.zip_longest", "itertools.pairwise"].contains n && vs[0]? == some (rawInt _)) = true then _ else _) Q E s
           rw [if_neg (by intro h; rw [hn, Bool.false_and] at h; cases h)]
           exact wpAny_pure hQ))

/-- the list at a, as it stands at each turn (a loop may append to it) -/
def Itl (K : PySem.W.Frag) (a : Addr) : It :=
  ⟨fun i H => ∃ xs x, SqL K H a xs ∧ xs[i]? = some x, fun i H x H' => H' = H ∧ ∀ xs, SqL K H a xs → xs[i]? = some x, fun i H => ∃ xs, SqL K H a xs ∧ xs.length ≤ i⟩
def Itt (K : PySem.W.Frag) (a : Addr) : It :=
  ⟨fun i H => ∃ xs x, SqT K H a xs ∧ xs[i]? = some x, fun i H x H' => H' = H ∧ ∀ xs, SqT K H a xs → xs[i]? = some x, fun i H => ∃ xs, SqT K H a xs ∧ xs.length ≤ i⟩
/-- lo, lo + 1, .. (n of them) -/
def Itr (lo : Int) (n : Nat) : It := ⟨fun i _ => i < n, fun i H x H' => H' = H ∧ x = .int (lo + i), fun i _ => n ≤ i⟩
theorem turn_list {P : Program} {w : World} {K : PySem.W.Frag} {tg : Expr} (a it : Addr) : Turn P w K tg (Itl K a) [it] it (fun i h => h.IsListIter it a i) where
  mem := by simp
  obj := fun i h st b hb => by
    have e : b = it := by simpa using hb
    subst e
    obtain ⟨o, e, c, d⟩ := st
    exact ⟨o, e, fun v z => by rw [d] at z; cases z⟩
  keep := fun i h h' st k => st.at fun o e => k it (by simp) o e
  item := by
    intro X hP hw hK hc i pins s σ H E I hf st hg
    subst hP hw hK
    obtain ⟨xs, x, hq, hx⟩ := hg
    obtain ⟨its, rv, p, hz⟩ := I.list hq
    obtain ⟨u, hu, ru⟩ := rv.get hx
    obtain ⟨f0, f1, f2, f3, f4, f5⟩ := hf it (by simp)
    refine wpAny_pyNext_list_item st p.isList (x := u) (by simpa using hu) fun h' st' sb => ?_
    have I1 : Inv X pins σ H { s with heap := h' } := I.turned (t' := s.toks) (fun b o hb e => (sb.2 b hb).trans e) f0 f1 f3 f4 f5
    obtain ⟨o, e, c, d⟩ := id st'
    exact ⟨u, rfl, go_of (s := { s with heap := h' }) e c d (by decide) ⟨x, H, I1, ru, ⟨rfl, fun ys hy => by rw [I.list_inj hy hq]; exact hx⟩, st', fun b hb => (hf b hb).1⟩⟩
  done := by
    intro X hP hw hK hc i pins s σ H E I hf st hg
    subst hP hw hK
    obtain ⟨xs, hq, hx⟩ := hg
    obtain ⟨its, rv, p, hz⟩ := I.list hq
    obtain ⟨f0, f1, f2, f3, f4, f5⟩ := hf it (by simp)
    have hl := rv.length
    exact wpAny_pyNext_list_end (I.ok.hd hc) st p.isList (by simp; omega) fun h' eb => ⟨rfl, I.turned (t' := s.toks) (fun b o hb e => eb b o hb e) f0 f1 f3 f4 f5⟩
  self := fun _ _ _ _ _ st h => wpAny_pyIter_listiter st h
theorem turn_tuple {P : Program} {w : World} {K : PySem.W.Frag} {tg : Expr} (a it : Addr) : Turn P w K tg (Itt K a) [it] it (fun i h => h.IsTupleIter it a i) where
  mem := by simp
  obj := fun i h st b hb => by
    have e : b = it := by simpa using hb
    subst e
    obtain ⟨o, e, c, d⟩ := st
    exact ⟨o, e, fun v z => by rw [d] at z; cases z⟩
  keep := fun i h h' st k => st.at fun o e => k it (by simp) o e
  item := by
    intro X hP hw hK hc i pins s σ H E I hf st hg
    subst hP hw hK
    obtain ⟨xs, x, hq, hx⟩ := hg
    obtain ⟨its, rv, p, hz⟩ := I.tuple hq
    obtain ⟨u, hu, ru⟩ := rv.get hx
    obtain ⟨f0, f1, f2, f3, f4, f5⟩ := hf it (by simp)
    refine wpAny_pyNext_tuple_item st (show s.heap.IsTuple a its.toArray from p) (x := u) (by simpa using hu) fun h' st' sb => ?_
    have I1 : Inv X pins σ H { s with heap := h' } := I.turned (t' := s.toks) (fun b o hb e => (sb.2 b hb).trans e) f0 f1 f3 f4 f5
    obtain ⟨o, e, c, d⟩ := id st'
    exact ⟨u, rfl, go_of (s := { s with heap := h' }) e c d (by decide) ⟨x, H, I1, ru, ⟨rfl, fun ys hy => by rw [I.tuple_inj hy hq]; exact hx⟩, st', fun b hb => (hf b hb).1⟩⟩
  done := by
    intro X hP hw hK hc i pins s σ H E I hf st hg
    subst hP hw hK
    obtain ⟨xs, hq, hx⟩ := hg
    obtain ⟨its, rv, p, hz⟩ := I.tuple hq
    obtain ⟨f0, f1, f2, f3, f4, f5⟩ := hf it (by simp)
    have hl := rv.length
    exact wpAny_pyNext_tuple_end (I.ok.hd hc) st (show s.heap.IsTuple a its.toArray from p) (by simp; omega) fun h' eb => ⟨rfl, I.turned (t' := s.toks) (fun b o hb e => eb b o hb e) f0 f1 f3 f4 f5⟩
  self := fun _ _ _ _ _ st h => wpAny_pyIter_tupleiter st h
theorem turn_range {P : Program} {w : World} {K : PySem.W.Frag} {tg : Expr} (it : Addr) (lo : Int) (n : Nat) : Turn P w K tg (Itr lo n) [it] it (fun i h => IsRangeIter h it (lo + (i : Nat) * 1) ((n : Int) - (i : Nat)) 1) where
  mem := by simp
  obj := fun i h st b hb => by
    have e : b = it := by simpa using hb
    subst e
    exact ⟨_, st, fun v z => by
      have z' : Data.fields _ = Data.cell v := z
      cases z'⟩
  keep := fun i h h' st k => k it (by simp) _ st
  item := by
    intro X hP hw hK hc i pins s σ H E I hf st hg
    subst hP hw hK
    obtain ⟨f0, f1, f2, f3, f4, f5⟩ := hf it (by simp)
    have W := Walks.range (prog := X.prog) (w := X.w) (I.ok.hd hc) it lo 1 n
    refine W.item i s _ _ hg st fun v h' tk hv st' kk => ?_
    obtain ⟨t, rfl⟩ := hv
    have I1 : Inv X pins σ H { s with heap := h', toks := tk } := I.turned (fun b o hb e => kk b o (by simpa using hb) e) f0 f1 f3 f4 f5
    refine ⟨_, rfl, go_of (s := { s with heap := h', toks := tk }) (n := "range_iterator") st' rfl rfl (by decide) ⟨.int (lo + i), H, I1, ⟨t, ?_⟩, ⟨rfl, rfl⟩, st', fun b hb => (hf b hb).1⟩⟩
    rw [Int.mul_one]
  done := by
    intro X hP hw hK hc i pins s σ H E I hf st hg
    subst hP hw hK
    obtain ⟨f0, f1, f2, f3, f4, f5⟩ := hf it (by simp)
    exact wpAny_pyNext_range_end (I.ok.hd hc) st (by have : n ≤ i := hg; omega) fun h' eb => ⟨rfl, I.turned (t' := s.toks) (fun b o hb e => eb b o hb e) f0 f1 f3 f4 f5⟩
  self := fun _ _ _ _ _ st h => wpAny_pyIter_rangeiter st h
end L2

namespace L2
open PySem PySem.Spec PyProof.Rows
section
variable {X : Cx} {tg : Expr}
def iList (K : PySem.W.Frag) (tl : TE) : TI := fun σ H R => tl σ H fun x H1 => ∃ a, x = .ref a ∧ (∃ xs, SqL K H1 a xs) ∧ R (Itl K a) H1
def iTup (K : PySem.W.Frag) (tl : TE) : TI := fun σ H R => tl σ H fun x H1 => ∃ a, x = .ref a ∧ (∃ xs, SqT K H1 a xs) ∧ R (Itt K a) H1
theorem pi_list {l : Expr} {tl : TE} (hl : PE X l tl) : PI X tg l (iList X.K tl) := by
  intro pins s σ H R I h
  refine thn (hl pins s σ H _ I h) fun v s1 ⟨x, H1, I1, r1, q1⟩ => ?_
  obtain ⟨a, e, ⟨xs, hq⟩, q⟩ := q1
  subst e
  cases r1
  obtain ⟨its, rv, p, hz⟩ := I1.list hq
  refine wpAny_pyIter_list p.isList ?_
  refine ⟨s1.heap.objs.size, [s1.heap.objs.size], _, _, H1, rfl, I1.kept (t' := s1.toks) fun b o e => Heap.get?_push_of_some _ e, turn_list a _, ⟨_, Heap.get?_push_size _ rfl, rfl, rfl⟩, fun b hb => ?_, q⟩
  have e : b = s1.heap.objs.size := by simpa using hb
  subst e
  exact I1.fpOk (Nat.le_refl _) (I1.hok.fresh (Nat.le_refl _))
theorem pi_tup {l : Expr} {tl : TE} (hl : PE X l tl) : PI X tg l (iTup X.K tl) := by
  intro pins s σ H R I h
  refine thn (hl pins s σ H _ I h) fun v s1 ⟨x, H1, I1, r1, q1⟩ => ?_
  obtain ⟨a, e, ⟨xs, hq⟩, q⟩ := q1
  subst e
  cases r1
  obtain ⟨its, rv, p, hz⟩ := I1.tuple hq
  refine wpAny_pyIter_tuple (show s1.heap.IsTuple a its.toArray from p) ?_
  refine ⟨s1.heap.objs.size, [s1.heap.objs.size], _, _, H1, rfl, I1.kept (t' := s1.toks) fun b o e => Heap.get?_push_of_some _ e, turn_tuple a _, ⟨_, Heap.get?_push_size _ rfl, rfl, rfl⟩, fun b hb => ?_, q⟩
  have e : b = s1.heap.objs.size := by simpa using hb
  subst e
  exact I1.fpOk (Nat.le_refl _) (I1.hok.fresh (Nat.le_refl _))
/-- a range object just made, walked -/
theorem range_it {pins : List (Addr × Obj)} {σ : St} {H : Hp} {s : Shared} {R : It → Hp → Prop} {E : Value → Shared → Prop} {lo hi : Int} {t u v : Tok} {tk : Nat} (I : Inv X pins σ H s) (h1 : -(2 ^ 62) ≤ lo) (h2 : lo < 2 ^ 62) (h3 : -(2 ^ 62) ≤ hi) (h4 : hi < 2 ^ 62)
    (q : R (Itr lo (hi - lo).toNat) H) : wpAny (model X.prog X.w) X.A (pyIter (.ref s.heap.objs.size)) (PIE X pins σ tg R) E { s with heap := s.heap.push { cls := .type "range", data := .fields #[.int lo t, .int hi u, .int 1 v] }, toks := tk } := by
  refine wpAny_pyIter_range (IsRange.new ..) (small_one h1 h2 h3 h4) ?_
  have I1 : Inv X pins σ H { s with heap := s.heap.push { cls := .type "range", data := .fields #[.int lo t, .int hi u, .int 1 v] }, toks := tk } := I.kept fun b o e => Heap.get?_push_of_some _ e
  refine ⟨(s.heap.push { cls := .type "range", data := .fields #[.int lo t, .int hi u, .int 1 v] }).objs.size, [(s.heap.push { cls := .type "range", data := .fields #[.int lo t, .int hi u, .int 1 v] }).objs.size], _, _, H, rfl,
    I1.kept (t' := tk) fun b o e => Heap.get?_push_of_some _ e, turn_range _ lo (hi - lo).toNat, ?_, fun b hb => ?_, q⟩
  · have e1 : lo + ((0 : Nat) : Int) * 1 = lo := by simp
    have e2 : (((hi - lo).toNat : Nat) : Int) - ((0 : Nat) : Int) = Builtin.Range.rangeSize lo hi 1 := by rw [rangeSize_one]; split <;> omega
    show IsRangeIter _ _ (lo + ((0 : Nat) : Int) * 1) ((((hi - lo).toNat : Nat) : Int) - ((0 : Nat) : Int)) 1
    rw [e1, e2]
    exact Heap.get?_push_size _ rfl
  · have e : b = (s.heap.push { cls := .type "range", data := .fields #[.int lo t, .int hi u, .int 1 v] }).objs.size := by simpa using hb
    subst e
    exact I1.fpOk (Nat.le_refl _) (I1.hok.fresh (Nat.le_refl _))
def iRng1 (ta : TA) : TI := fun σ H R => ta σ H fun vs H1 => ∃ j : Int, vs = [.int j] ∧ -(2 ^ 62) ≤ j ∧ j < 2 ^ 62 ∧ R (Itr 0 j.toNat) H1
def iRng2 (ta : TA) : TI := fun σ H R => ta σ H fun vs H1 => ∃ i j : Int, vs = [.int i, .int j] ∧ (-(2 ^ 62) ≤ i ∧ i < 2 ^ 62 ∧ -(2 ^ 62) ≤ j ∧ j < 2 ^ 62) ∧ R (Itr i (j - i).toNat) H1
theorem pi_range1 {a : Expr} {ta : TA} {p pos : Pos} (hg : Gl X "range") (hm : X.mg "range" = none) (ha : PA X [a] ta) (hs : starEach [a] X.env = [(false, eval a X.env)] := by rfl) : PI X tg (.Call (.Name "range" p) [a] [] pos) (iRng1 ta) := by
  intro pins s σ H R I h
  refine Call_ (ld_blt I hg hm boot_range (PyProof.Rows.callWith_type1 (thn (ha pos pins s σ H _ I h) fun us s1 ⟨vs, H1, I1, r1, q1⟩ => ?_) hs rfl))
  obtain ⟨j, e, q1, q2, q⟩ := q1
  subst e
  cases r1 with
  | cons r rr =>
    cases rr
    obtain ⟨t, rfl⟩ := r
    exact call_range_1 (range_it I1 (by omega) (by omega) q1 q2 (by simpa using q))
theorem pi_range2 {a b : Expr} {ta : TA} {p pos : Pos} (hg : Gl X "range") (hm : X.mg "range" = none) (ha : PA X [a, b] ta) (hs : starEach [a, b] X.env = [(false, eval a X.env), (false, eval b X.env)] := by rfl) (hs2 : starEach [b] X.env = [(false, eval b X.env)] := by rfl) :
    PI X tg (.Call (.Name "range" p) [a, b] [] pos) (iRng2 ta) := by
  intro pins s σ H R I h
  refine Call_ (ld_blt I hg hm boot_range (PyProof.Rows.callWith_type1 (thn (ha pos pins s σ H _ I h) fun us s1 ⟨vs, H1, I1, r1, q1⟩ => ?_) (by rw [hs, hs2]) (by rw [hs2]; rfl)))
  obtain ⟨i, j, e, ⟨q1, q2, q3, q4⟩, q⟩ := q1
  subst e
  cases r1 with
  | cons r rr =>
    cases rr with
    | cons r' rr =>
      cases rr
      obtain ⟨t, rfl⟩ := r
      obtain ⟨t', rfl⟩ := r'
      exact call_range_2 (range_it I1 q1 q2 q3 q4 q)

/-! ### for -/
/-- W: the invariant by the turn and a measure; N: what the body is to reach -/
def tFor (wi : TI) (g : TG) (tb : TS) : TS := fun D σ H => wi σ H fun J H1 => ∃ W : Nat → Nat → St → Hp → Prop, (∃ m, W 0 m σ H1) ∧ ∀ i m σ H, W i m σ H →
  (J.stop i H ∧ D.nx σ H) ∨ (J.go i H ∧ ∃ N : St → Hp → Prop, (∀ σ' H', N σ' H' → ∃ m', m' < m ∧ W (i + 1) m' σ' H') ∧ ∀ x H', J.yld i H x H' → g x σ H' fun σ2 H2 => tb { D with nx := N, ct := N, bk := D.nx } σ2 H2)
/-- the records at fp as they stand -/
def pinsAt (fp : List Addr) (h : Heap) : List (Addr × Obj) := fp.filterMap fun b => (h.get? b).map fun o => (b, o)
theorem mem_pinsAt {fp : List Addr} {h : Heap} {b : Addr} {o : Obj} (hb : b ∈ fp) (e : h.get? b = some o) : (b, o) ∈ pinsAt fp h := List.mem_filterMap.mpr ⟨b, hb, by rw [e]; rfl⟩
theorem of_pinsAt {fp : List Addr} {h : Heap} {p : Addr × Obj} (hp : p ∈ pinsAt fp h) : p.1 ∈ fp ∧ h.get? p.1 = some p.2 := by
  obtain ⟨b, hb, e⟩ := List.mem_filterMap.mp hp
  cases q : h.get? b with
  | none => rw [q] at e; cases e
  | some o =>
    rw [q] at e
    have e' : (b, o) = p := Option.some.inj e
    subst e'
    exact ⟨hb, q⟩
theorem Inv.pinned {pins : List (Addr × Obj)} {σ : St} {H : Hp} {s : Shared} {fp : List Addr} (I : Inv X pins σ H s) (hf : ∀ b ∈ fp, FpOk X pins H b) (ho : ∀ b ∈ fp, ∃ o, s.heap.get? b = some o ∧ ∀ v, o.data ≠ .cell v) : Inv X (pins ++ pinsAt fp s.heap) σ H s :=
  I.pins_of fun p hp => (List.mem_append.mp hp).elim (fun z => I.pin p (List.mem_append_right _ z)) fun z => by
    obtain ⟨hb, e⟩ := of_pinsAt z
    obtain ⟨f0, f1, f2, _⟩ := hf p.1 hb
    obtain ⟨o, e', d⟩ := ho p.1 hb
    rw [e] at e'; cases e'
    exact ⟨e, f0, f1, f2, d⟩
theorem Inv.unpinned {pins pl : List (Addr × Obj)} {σ : St} {H : Hp} {s : Shared} (I : Inv X (pins ++ pl) σ H s) : Inv X pins σ H s := I.pins_of fun p hp => I.pin p (List.mem_append_right _ (List.mem_append_left _ hp))
theorem ps_for {iter : Expr} {body : List Stmt} {wi : TI} {g : TG} {tb : TS} {pos : Pos} (hp : PassesOwn (model X.prog X.w) X.A X.env X.xe) (hc : X.calm = true) (hi : PI X tg iter wi) (hg : PG X tg g) (hb : PSs X body tb)
    (hs : ∀ x, foldedSetIterable iter X.env x = pure x := by intro _; rfl) : PS X (.For tg iter body [] pos) (tFor wi g tb) := by
  intro pins s σ H D I h
  refine wpAny_For (thn (hi pins s σ H _ I h) fun v s1 h1 => thn h1 fun itv s2 h2 => ?_) hs
  obtain ⟨it, fp, tn, J, H2, e, I2, T, st2, f2, W, ⟨m0, w0⟩, turn⟩ := h2
  subst e
  -- what stays true of the iterator's objects through the loop
  have stat : ∀ {H' : Hp}, (∀ b ∈ fp, H' b = none) → ∀ b ∈ fp, FpOk X pins H' b := fun hn b hb => ⟨hn b hb, (f2 b hb).2⟩
  refine codeAny_forLoop_any (fun n s' => ∃ i σ' H', Inv X pins σ' H' s' ∧ tn i s'.heap ∧ (∀ b ∈ fp, H' b = none) ∧ W i n σ' H') ?_ m0 ⟨0, σ, H2, I2, st2, fun b hb => (f2 b hb).1, w0⟩
  rintro n s3 ⟨i, σ3, H3, I3, st3, fr3, w3⟩
  rcases turn i n σ3 H3 w3 with ⟨stop, qn⟩ | ⟨go, N, hN, step⟩
  · refine wpAny_passesOwn hp (thn (T.done X rfl rfl rfl hc i pins s3 σ3 H3 X.xe I3 (stat fr3) st3 stop) fun r s4 ⟨hr, I4⟩ => ?_)
    subst hr
    exact wpAny_execs_nil ⟨σ3, H3, I4, qn⟩
  · refine wpAny_passesOwn hp (thn (T.item X rfl rfl rfl hc i pins s3 σ3 H3 X.xe I3 (stat fr3) st3 go) fun r s4 ⟨u, hr, h4⟩ => ?_)
    subst hr
    refine wpAny_passesOwn hp (thn h4 fun _ s5 ⟨x, H5, I5, r5, y5, st5, fr5⟩ => ?_)
    have I5' := I5.pinned (stat fr5) (T.obj _ _ st5)
    refine wpAny_passesOwn hp (thn (hg _ s5 σ3 H5 x u _ I5' r5 (step x H5 y5)) fun _ s6 ⟨σ6, H6, I6, q6⟩ => ?_)
    refine wpAny_passesOwn hp (thn (hb _ s6 σ6 H6 _ I6 q6) fun f s7 q7 => ?_)
    have again : ∀ {σ7 : St} {H7 : Hp}, Inv X (pins ++ pinsAt fp s5.heap) σ7 H7 s7 → N σ7 H7 → ∃ m, m < n ∧ ∃ i σ' H', Inv X pins σ' H' s7 ∧ tn i s7.heap ∧ (∀ b ∈ fp, H' b = none) ∧ W i m σ' H' := fun {σ7 H7} I7 n7 => by
      obtain ⟨m', hm, w7⟩ := hN σ7 H7 n7
      refine ⟨m', hm, i + 1, σ7, H7, I7.unpinned, T.keep _ _ _ st5 fun b hb o e => (I7.pin (b, o) (List.mem_append_right _ (List.mem_append_right _ (mem_pinsAt hb e)))).1, fun b hb => ?_, w7⟩
      obtain ⟨o, e, d⟩ := T.obj _ _ st5 b hb
      exact (I7.pin (b, o) (List.mem_append_right _ (List.mem_append_right _ (mem_pinsAt hb e)))).2.1
    cases f with
    | next => obtain ⟨σ7, H7, I7, n7⟩ := q7; exact again I7 n7
    | cont => obtain ⟨σ7, H7, I7, n7⟩ := q7; exact again I7 n7
    | brk => obtain ⟨σ7, H7, I7, q7⟩ := q7; exact ⟨σ7, H7, I7.unpinned, q7⟩
    | ret v => obtain ⟨x7, σ7, H7, I7, r7, q7⟩ := q7; exact ⟨x7, σ7, H7, I7.unpinned, r7, q7⟩
end

/-! ### the forms one uses -/
/-- over a list that the body leaves as it is -/
theorem for_list {K : PySem.W.Frag} {a : Addr} {xs : List V} {g : TG} {tb : TS} {D : Ends} {σ : St} {H : Hp} (Pv : Nat → St → Hp → Prop) (h0 : Pv 0 σ H) (hl : ∀ i σ H, i ≤ xs.length → Pv i σ H → SqL K H a xs)
    (hs : ∀ i x σ H, xs[i]? = some x → Pv i σ H → g x σ H fun σ2 H2 => tb { D with nx := Pv (i + 1), ct := Pv (i + 1), bk := D.nx } σ2 H2) (hd : ∀ σ H, Pv xs.length σ H → D.nx σ H) :
    ∃ W : Nat → Nat → St → Hp → Prop, (∃ m, W 0 m σ H) ∧ ∀ i m σ H, W i m σ H →
      ((Itl K a).stop i H ∧ D.nx σ H) ∨ ((Itl K a).go i H ∧ ∃ N : St → Hp → Prop, (∀ σ' H', N σ' H' → ∃ m', m' < m ∧ W (i + 1) m' σ' H') ∧ ∀ x H', (Itl K a).yld i H x H' → g x σ H' fun σ2 H2 => tb { D with nx := N, ct := N, bk := D.nx } σ2 H2) := by
  refine ⟨fun i m σ H => m = xs.length - i ∧ i ≤ xs.length ∧ Pv i σ H, ⟨xs.length, by simp, Nat.zero_le _, h0⟩, ?_⟩
  rintro i m σ H ⟨rfl, hi, p⟩
  have q := hl i σ H hi p
  by_cases hlt : i < xs.length
  · refine .inr ⟨⟨xs, xs[i], q, by simp [hlt]⟩, Pv (i + 1), fun σ' H' p' => ⟨xs.length - (i + 1), by omega, rfl, hlt, p'⟩, fun x H' y => ?_⟩
    obtain ⟨e, y⟩ := y
    subst e
    exact hs i x σ _ (y xs q) p
  · have e : i = xs.length := by omega
    subst e
    exact .inl ⟨⟨xs, q, Nat.le_refl _⟩, hd σ H p⟩
theorem for_tup {K : PySem.W.Frag} {a : Addr} {xs : List V} {g : TG} {tb : TS} {D : Ends} {σ : St} {H : Hp} (Pv : Nat → St → Hp → Prop) (h0 : Pv 0 σ H) (hl : ∀ i σ H, i ≤ xs.length → Pv i σ H → SqT K H a xs)
    (hs : ∀ i x σ H, xs[i]? = some x → Pv i σ H → g x σ H fun σ2 H2 => tb { D with nx := Pv (i + 1), ct := Pv (i + 1), bk := D.nx } σ2 H2) (hd : ∀ σ H, Pv xs.length σ H → D.nx σ H) :
    ∃ W : Nat → Nat → St → Hp → Prop, (∃ m, W 0 m σ H) ∧ ∀ i m σ H, W i m σ H →
      ((Itt K a).stop i H ∧ D.nx σ H) ∨ ((Itt K a).go i H ∧ ∃ N : St → Hp → Prop, (∀ σ' H', N σ' H' → ∃ m', m' < m ∧ W (i + 1) m' σ' H') ∧ ∀ x H', (Itt K a).yld i H x H' → g x σ H' fun σ2 H2 => tb { D with nx := N, ct := N, bk := D.nx } σ2 H2) := by
  refine ⟨fun i m σ H => m = xs.length - i ∧ i ≤ xs.length ∧ Pv i σ H, ⟨xs.length, by simp, Nat.zero_le _, h0⟩, ?_⟩
  rintro i m σ H ⟨rfl, hi, p⟩
  have q := hl i σ H hi p
  by_cases hlt : i < xs.length
  · refine .inr ⟨⟨xs, xs[i], q, by simp [hlt]⟩, Pv (i + 1), fun σ' H' p' => ⟨xs.length - (i + 1), by omega, rfl, hlt, p'⟩, fun x H' y => ?_⟩
    obtain ⟨e, y⟩ := y
    subst e
    exact hs i x σ _ (y xs q) p
  · have e : i = xs.length := by omega
    subst e
    exact .inl ⟨⟨xs, q, Nat.le_refl _⟩, hd σ H p⟩
theorem for_range {lo : Int} {n : Nat} {g : TG} {tb : TS} {D : Ends} {σ : St} {H : Hp} (Pv : Nat → St → Hp → Prop) (h0 : Pv 0 σ H)
    (hs : ∀ i σ H, i < n → Pv i σ H → g (.int (lo + i)) σ H fun σ2 H2 => tb { D with nx := Pv (i + 1), ct := Pv (i + 1), bk := D.nx } σ2 H2) (hd : ∀ σ H, Pv n σ H → D.nx σ H) :
    ∃ W : Nat → Nat → St → Hp → Prop, (∃ m, W 0 m σ H) ∧ ∀ i m σ H, W i m σ H →
      ((Itr lo n).stop i H ∧ D.nx σ H) ∨ ((Itr lo n).go i H ∧ ∃ N : St → Hp → Prop, (∀ σ' H', N σ' H' → ∃ m', m' < m ∧ W (i + 1) m' σ' H') ∧ ∀ x H', (Itr lo n).yld i H x H' → g x σ H' fun σ2 H2 => tb { D with nx := N, ct := N, bk := D.nx } σ2 H2) := by
  refine ⟨fun i m σ H => m = n - i ∧ i ≤ n ∧ Pv i σ H, ⟨n, by simp, Nat.zero_le _, h0⟩, ?_⟩
  rintro i m σ H ⟨rfl, hi, p⟩
  by_cases hlt : i < n
  · refine .inr ⟨hlt, Pv (i + 1), fun σ' H' p' => ⟨n - (i + 1), by omega, rfl, hlt, p'⟩, fun x H' y => ?_⟩
    obtain ⟨e, y⟩ := y
    subst e y
    exact hs i σ _ hlt p
  · have e : i = n := by omega
    subst e
    exact .inl ⟨Nat.le_refl _, hd σ H p⟩
/-- while, by a word and a measure of the state -/
theorem while_by {c : TT} {tb : TS} {D : Ends} {σ : St} {H : Hp} (Pv : St → Hp → Prop) (μ : St → Hp → Nat) (h0 : Pv σ H)
    (hs : ∀ σ H, Pv σ H → c σ H fun b H1 => if b = true then tb { D with nx := fun σ' H' => Pv σ' H' ∧ μ σ' H' < μ σ H, ct := fun σ' H' => Pv σ' H' ∧ μ σ' H' < μ σ H, bk := D.nx } σ H1 else D.nx σ H1)
    (mono : ∀ σ H Q Q', (∀ b H1, Q b H1 → Q' b H1) → c σ H Q → c σ H Q') : tWhile c tb D σ H := by
  refine ⟨fun m σ H => m = μ σ H ∧ Pv σ H, ⟨_, rfl, h0⟩, ?_⟩
  rintro m σ H ⟨rfl, p⟩
  refine mono σ H _ _ (fun b H1 q => ?_) (hs σ H p)
  cases b with
  | true => exact ⟨_, fun σ' H' ⟨p', l⟩ => ⟨_, l, rfl, p'⟩, q⟩
  | false => exact q
end L2

namespace L2
open PySem PySem.Spec PyProof.Rows

abbrev R2 := V → V → Hp → VK → Prop
/-- a two-place operation on values: f is binaryOp op, inplaceOp op or compareOp op -/
def OpR (X : Cx) (f : Value → Value → Sem Value) (r : R2) : Prop :=
  ∀ (pins : List (Addr × Obj)) (s : Shared) (σ : St) (H : Hp) (x y : V) (v u : Value) (Q : VK), Inv X pins σ H s → RelV x v → RelV y u → r x y H Q →
    wpAny (model X.prog X.w) X.A (f v u) (EP X pins σ Q) X.xe s
/-- a one-place operation -/
def UnR (X : Cx) (f : Value → Sem Value) (r : V → Hp → VK → Prop) : Prop :=
  ∀ (pins : List (Addr × Obj)) (s : Shared) (σ : St) (H : Hp) (x : V) (v : Value) (Q : VK), Inv X pins σ H s → RelV x v → r x H Q →
    wpAny (model X.prog X.w) X.A (f v) (EP X pins σ Q) X.xe s
/-- a call of a value that is known (a builtin, a type) with values -/
def CallR (X : Cx) (f : Value) (r : List V → Hp → VK → Prop) : Prop :=
  ∀ (pins : List (Addr × Obj)) (s : Shared) (σ : St) (H : Hp) (xs : List V) (us : List Value) (Q : VK), Inv X pins σ H s → Vals xs us → r xs H Q →
    wpAny (model X.prog X.w) X.A (call f us) (EP X pins σ Q) X.xe s
/-- a value's truth -/
def TruR (X : Cx) (r : V → Hp → (Bool → Hp → Prop) → Prop) : Prop :=
  ∀ (pins : List (Addr × Obj)) (s : Shared) (σ : St) (H : Hp) (x : V) (v : Value) (Q : Bool → Hp → Prop), Inv X pins σ H s → RelV x v → r x H Q →
    wpAny (model X.prog X.w) X.A (truthy v) (TP X pins σ Q) X.xe s

def tOp (r : R2) (ta tb : TE) : TE := fun σ H Q => ta σ H fun x H1 => tb σ H1 fun y H2 => r x y H2 Q
def tUn (r : V → Hp → VK → Prop) (ta : TE) : TE := fun σ H Q => ta σ H fun x H1 => r x H1 Q
/-- ints in, under C, and a value out -/
def rI (C : Int → Int → Prop) (g : Int → Int → V) : R2 := fun x y H Q => ∃ i j, x = .int i ∧ y = .int j ∧ C i j ∧ Q (g i j) H
def rI0 (g : Int → Int → V) : R2 := fun x y H Q => ∃ i j, x = .int i ∧ y = .int j ∧ Q (g i j) H
def rU (g : Int → V) : V → Hp → VK → Prop := fun x H Q => ∃ i, x = .int i ∧ Q (g i) H

section
variable {X : Cx} {a b c : Expr} {ta tb tc : TE} {pos : Pos}

theorem binT (ha : PE X a ta) (hb : PE X b tb) {pins : List (Addr × Obj)} {s : Shared} {σ : St} {H : Hp} {R : V → V → Hp → Prop} (I : Inv X pins σ H s)
    (h : ta σ H fun x H1 => tb σ H1 fun y H2 => R x y H2) {Q : Value → Shared → Prop} {f : Value → Value → Sem Value}
    (hf : ∀ v u s2 x y H2, Inv X pins σ H2 s2 → RelV x v → RelV y u → R x y H2 → wpAny (model X.prog X.w) X.A (f v u) Q X.xe s2) :
    wpAny (model X.prog X.w) X.A (eval a X.env) (fun v s₁ => wpAny (model X.prog X.w) X.A (eval b X.env) (fun u s₂ => wpAny (model X.prog X.w) X.A (f v u) Q X.xe s₂) X.xe s₁) X.xe s := by
  refine thn (ha pins s σ H _ I h) fun v s1 ⟨x, H1, I1, r1, q1⟩ => ?_
  refine thn (hb pins s1 σ H1 _ I1 q1) fun u s2 ⟨y, H2, I2, r2, q2⟩ => ?_
  exact hf v u s2 x y H2 I2 r1 r2 q2

theorem pe_op {op : Operator} {r : R2} (ho : OpR X (binaryOp op) r) (ha : PE X a ta) (hb : PE X b tb) : PE X (.BinOp a op b pos) (tOp r ta tb) := by
  intro pins s σ H Q I h
  exact wpAny_BinOp (binT ha hb I h fun v u s2 x y H2 I2 rx ry q => ho pins s2 σ H2 x y v u Q I2 rx ry q)
theorem pe_un {op : UnaryOp} {r : V → Hp → VK → Prop} (ho : UnR X (unaryOp op) r) (ha : PE X a ta) : PE X (.UnaryOp op a pos) (tUn r ta) := by
  intro pins s σ H Q I h
  exact UnaryOp_ (thn (ha pins s σ H _ I h) fun v s1 ⟨x, H1, I1, r1, q1⟩ => ho pins s1 σ H1 x v Q I1 r1 q1)
/-- a op= e at a name: the name's slot i -/
theorem augR {op : Operator} {r : R2} (ho : OpR X (inplaceOp op) r) {pins : List (Addr × Obj)} {s : Shared} {σ : St} {H : Hp} {x y : V} {v u : Value} {Q : VK} (I : Inv X pins σ H s)
    (rx : RelV x v) (ry : RelV y u) (q : r x y H Q) : wpAny (model X.prog X.w) X.A (inplaceOp op v u) (EP X pins σ Q) X.xe s := ho pins s σ H x y v u Q I rx ry q

/-! ### ints -/
theorem opI {f : Value → Value → Sem Value} {C : Int → Int → Prop} {g : Int → Int → Int}
    (rule : ∀ (i j : Int) (t u : Tok) (s : Shared) (Q : Value → Shared → Prop) (E : Value → Shared → Prop), C i j → Q (.int (g i j) s.toks) { s with toks := s.toks + 1 } → wpAny (model X.prog X.w) X.A (f (.int i t) (.int j u)) Q E s) :
    OpR X f (rI C fun i j => .int (g i j)) := by
  intro pins s σ H x y v u Q I rx ry h
  obtain ⟨i, j, rfl, rfl, hc, q⟩ := h
  obtain ⟨t, rfl⟩ := rx
  obtain ⟨t', rfl⟩ := ry
  exact rule i j t t' s _ _ hc ⟨.int (g i j), H, I.tok _, ⟨_, rfl⟩, q⟩
theorem opI0 {f : Value → Value → Sem Value} {g : Int → Int → Int}
    (rule : ∀ (i j : Int) (t u : Tok) (s : Shared) (Q : Value → Shared → Prop) (E : Value → Shared → Prop), Q (.int (g i j) s.toks) { s with toks := s.toks + 1 } → wpAny (model X.prog X.w) X.A (f (.int i t) (.int j u)) Q E s) :
    OpR X f (rI0 fun i j => .int (g i j)) := by
  intro pins s σ H x y v u Q I rx ry h
  obtain ⟨i, j, rfl, rfl, q⟩ := h
  obtain ⟨t, rfl⟩ := rx
  obtain ⟨t', rfl⟩ := ry
  exact rule i j t t' s _ _ ⟨.int (g i j), H, I.tok _, ⟨_, rfl⟩, q⟩
theorem opB0 {f : Value → Value → Sem Value} {g : Int → Int → Bool}
    (rule : ∀ (i j : Int) (t u : Tok) (s : Shared) (Q : Value → Shared → Prop) (E : Value → Shared → Prop), Q (.bool (g i j)) s → wpAny (model X.prog X.w) X.A (f (.int i t) (.int j u)) Q E s) :
    OpR X f (rI0 fun i j => .bl (g i j)) := by
  intro pins s σ H x y v u Q I rx ry h
  obtain ⟨i, j, rfl, rfl, q⟩ := h
  obtain ⟨t, rfl⟩ := rx
  obtain ⟨t', rfl⟩ := ry
  exact rule i j t t' s _ _ ⟨.bl (g i j), H, I, rfl, q⟩

def CDiv (i j : Int) : Prop := 0 < j ∧ j < 1073741824
def CDivN (i j : Int) : Prop := j ≠ 0 ∧ j.natAbs < 1073741824
def CPow (i j : Int) : Prop := 0 ≤ j ∧ j ≤ 1000000 ∧ i.natAbs < 2 ^ 64
def CMul (i j : Int) : Prop := (-(2 ^ 64) < i ∧ i < 2 ^ 64) ∨ (-(2 ^ 64) < j ∧ j < 2 ^ 64)
theorem CMul.ok {i j : Int} (h : CMul i j) : IntMulOk i j := by
  rcases h with ⟨h1, h2⟩ | ⟨h1, h2⟩
  · exact .of_left (intBits_le_64 h1 h2)
  · exact .of_right (intBits_le_64 h1 h2)
theorem two_pow_nn (k : Nat) : (0 : Int) ≤ 2 ^ k := by
  rw [two_pow_cast]
  exact Int.natCast_nonneg _

theorem op_add : OpR X (binaryOp .Add) (rI0 fun i j => .int (i + j)) := opI0 fun _ _ _ _ _ _ _ q => add_int q
theorem op_sub : OpR X (binaryOp .Sub) (rI0 fun i j => .int (i - j)) := opI0 fun _ _ _ _ _ _ _ q => sub_int q
theorem op_mul : OpR X (binaryOp .Mult) (rI CMul fun i j => .int (i * j)) := opI fun _ _ _ _ _ _ _ hc q => mul_int q hc.ok
/-- // by a positive divisor -/
theorem op_fdiv : OpR X (binaryOp .FloorDiv) (rI CDiv fun i j => .int (i / j)) := opI fun i j _ _ _ _ _ hc q => by
  have h1 : (0 : Int) < j := hc.1
  have h2 : j < 1073741824 := hc.2
  exact floordiv_int (by omega) (by rw [Int.fdiv_eq_ediv_of_nonneg i (by omega)]; exact q) (.inl (PyProof.noPylong_small (by omega)))
theorem op_fdivN : OpR X (binaryOp .FloorDiv) (rI CDivN fun i j => .int (i.fdiv j)) := opI fun _ _ _ _ _ _ _ hc q => floordiv_int hc.1 q (.inl (PyProof.noPylong_small hc.2))
/-- % by a positive divisor of any size -/
theorem op_mod : OpR X (binaryOp .Mod) (rI (fun _ j => 0 < j) fun i j => .int (i % j)) := opI fun i j _ _ _ _ _ hc q => by
  have h1 : (0 : Int) < j := hc
  exact mod_int' (by omega) (by rw [Int.fmod_eq_emod_of_nonneg i (by omega)]; exact q)
theorem op_modN : OpR X (binaryOp .Mod) (rI (fun _ j => j ≠ 0) fun i j => .int (i.fmod j)) := opI fun _ _ _ _ _ _ _ hc q => mod_int' hc q
theorem op_pow : OpR X (binaryOp .Pow) (rI CPow fun i j => .int (i ^ j.toNat)) := opI fun _ _ _ _ _ _ _ hc q => pow_int_small hc.1 hc.2.1 hc.2.2 q
theorem op_shl : OpR X (binaryOp .LShift) (rI CPow fun i j => .int (i * 2 ^ j.toNat)) := opI fun _ _ _ _ _ _ _ hc q => lshift_int_small hc.1 hc.2.1 hc.2.2 q
theorem op_shr : OpR X (binaryOp .RShift) (rI (fun _ j => 0 ≤ j) fun i j => .int (i / 2 ^ j.toNat)) := opI fun i j _ _ _ _ _ hc q =>
  rshift_int hc (by rw [Int.fdiv_eq_ediv_of_nonneg i (two_pow_nn _)]; exact q)
theorem op_and : OpR X (binaryOp .BitAnd) (rI0 fun i j => .int (Builtin.bitAnd i j)) := opI0 fun _ _ _ _ _ _ _ q => and_int q
theorem op_or : OpR X (binaryOp .BitOr) (rI0 fun i j => .int (Builtin.bitOr i j)) := opI0 fun _ _ _ _ _ _ _ q => or_int q
theorem op_xor : OpR X (binaryOp .BitXor) (rI0 fun i j => .int (Builtin.bitXor i j)) := opI0 fun _ _ _ _ _ _ _ q => xor_int q

theorem iop_add : OpR X (inplaceOp .Add) (rI0 fun i j => .int (i + j)) := opI0 fun _ _ _ _ _ _ _ q => iadd_int q
theorem iop_sub : OpR X (inplaceOp .Sub) (rI0 fun i j => .int (i - j)) := opI0 fun _ _ _ _ _ _ _ q => isub_int q
theorem iop_mul : OpR X (inplaceOp .Mult) (rI CMul fun i j => .int (i * j)) := opI fun _ _ _ _ _ _ _ hc q => imul_int q hc.ok
theorem iop_fdiv : OpR X (inplaceOp .FloorDiv) (rI CDiv fun i j => .int (i / j)) := opI fun i j _ _ _ _ _ hc q => by
  have h1 : (0 : Int) < j := hc.1
  have h2 : j < 1073741824 := hc.2
  exact ifloordiv_int (by omega) (by rw [Int.fdiv_eq_ediv_of_nonneg i (by omega)]; exact q) (.inl (PyProof.noPylong_small (by omega)))
theorem iop_mod : OpR X (inplaceOp .Mod) (rI (fun _ j => 0 < j) fun i j => .int (i % j)) := opI fun i j _ _ _ _ _ hc q => by
  have h1 : (0 : Int) < j := hc
  exact imod_int (by omega) (by rw [Int.fmod_eq_emod_of_nonneg i (by omega)]; exact q)
theorem iop_shl : OpR X (inplaceOp .LShift) (rI CPow fun i j => .int (i * 2 ^ j.toNat)) := opI fun _ _ _ _ _ _ _ hc q => ilshift_int_small hc.1 hc.2.1 hc.2.2 q
theorem iop_shr : OpR X (inplaceOp .RShift) (rI (fun _ j => 0 ≤ j) fun i j => .int (i / 2 ^ j.toNat)) := opI fun i j _ _ _ _ _ hc q =>
  irshift_int hc (by rw [Int.fdiv_eq_ediv_of_nonneg i (two_pow_nn _)]; exact q)
theorem iop_and : OpR X (inplaceOp .BitAnd) (rI0 fun i j => .int (Builtin.bitAnd i j)) := opI0 fun _ _ _ _ _ _ _ q => iand_int q
theorem iop_or : OpR X (inplaceOp .BitOr) (rI0 fun i j => .int (Builtin.bitOr i j)) := opI0 fun _ _ _ _ _ _ _ q => ior_int q
theorem iop_xor : OpR X (inplaceOp .BitXor) (rI0 fun i j => .int (Builtin.bitXor i j)) := opI0 fun _ _ _ _ _ _ _ q => ixor_int q

theorem unI {f : Value → Sem Value} {g : Int → Int}
    (rule : ∀ (i : Int) (t : Tok) (s : Shared) (Q : Value → Shared → Prop) (E : Value → Shared → Prop), Q (.int (g i) s.toks) { s with toks := s.toks + 1 } → wpAny (model X.prog X.w) X.A (f (.int i t)) Q E s) :
    UnR X f (rU fun i => .int (g i)) := by
  intro pins s σ H x v Q I rx h
  obtain ⟨i, rfl, q⟩ := h
  obtain ⟨t, rfl⟩ := rx
  exact rule i t s _ _ ⟨.int (g i), H, I.tok _, ⟨_, rfl⟩, q⟩
theorem un_neg : UnR X (unaryOp .USub) (rU fun i => .int (-i)) := unI fun _ _ _ _ _ q => neg_int q
theorem un_inv : UnR X (unaryOp .Invert) (rU fun i => .int (Builtin.bitNot i)) := unI fun _ _ _ _ _ q => invert_int q

/-! ### bools among ints: n += (a < b) -/
theorem op_add_ib : OpR X (binaryOp .Add) (fun x y H Q => ∃ i k, x = .int i ∧ y = .bl k ∧ Q (.int (i + b2i k)) H) := by
  intro pins s σ H x y v u Q I rx ry h
  obtain ⟨i, k, rfl, rfl, q⟩ := h
  obtain ⟨t, rfl⟩ := rx
  cases ry
  exact add_int_bool ⟨.int (i + b2i k), H, I.tok _, ⟨_, rfl⟩, q⟩
end

/-! ### comparisons -/
/-- the scalars that == tells apart as data does -/
def scal : V → V → Bool
  | .non, .non => true | .non, .int _ => true | .int _, .non => true | .non, .bl _ => true | .bl _, .non => true | .non, .str _ => true | .str _, .non => true
  | .int _, .int _ => true | .bl _, .bl _ => true | .str _, .str _ => true | .byt _, .byt _ => true
  | .int _, .str _ => true | .str _, .int _ => true | .bl _, .str _ => true | .str _, .bl _ => true
  | _, _ => false
def rEq : R2 := fun x y H Q => scal x y = true ∧ Q (.bl (decide (x = y))) H
def rNe : R2 := fun x y H Q => scal x y = true ∧ Q (.bl (!decide (x = y))) H

theorem dec_int {i j : Int} : decide (V.int i = V.int j) = (i == j) := by
  rw [Bool.eq_iff_iff]
  simp
theorem dec_bl {i j : Bool} : decide (V.bl i = V.bl j) = (i == j) := by
  rw [Bool.eq_iff_iff]
  simp
theorem dec_str {i j : Str} : decide (V.str i = V.str j) = (i == j) := by
  rw [Bool.eq_iff_iff]
  simp
theorem dec_byt {i j : Array UInt8} : decide (V.byt i = V.byt j) = (i.toList == j.toList) := by
  rw [Bool.eq_iff_iff]
  cases i
  cases j
  simp

section
variable {X : Cx} {a b c : Expr} {ta tb tc : TE} {pos : Pos}
theorem fin_bl {pins : List (Addr × Obj)} {σ : St} {H : Hp} {s : Shared} {Q : VK} {k k' : Bool} (I : Inv X pins σ H s) (q : Q (.bl k) H) (e : k = k') : EP X pins σ Q (.bool k') s := by
  subst e
  exact ⟨.bl k, H, I, rfl, q⟩
theorem op_eq : OpR X (compareOp .Eq) rEq := by
  intro pins s σ H x y v u Q I rx ry h
  obtain ⟨hs, q⟩ := h
  cases x with
  | non =>
    cases rx
    cases y with
    | non => cases ry; exact PySem.EqNone.eq_none_none (fin_bl I q (by simp))
    | bl j => cases ry; exact PySem.EqNone.eq_none_bool (fin_bl I q (by simp))
    | int j => obtain ⟨t', rfl⟩ := ry; exact PySem.EqNone.eq_none_int (fin_bl I q (by simp))
    | str j => obtain ⟨t', rfl⟩ := ry; exact PySem.EqNone.eq_none_str (fin_bl I q (by simp))
    | _ => exact absurd (show false = true from hs) Bool.false_ne_true
  | bl i =>
    cases rx
    cases y with
    | non => cases ry; exact PySem.EqNone.eq_bool_none (fin_bl I q (by simp))
    | bl j => cases ry; exact eq_bool (fin_bl I q dec_bl)
    | str j => obtain ⟨t', rfl⟩ := ry; exact PySem.EqMixed.eq_bool_str (fin_bl I q (by simp))
    | _ => exact absurd (show false = true from hs) Bool.false_ne_true
  | int i =>
    obtain ⟨t, rfl⟩ := rx
    cases y with
    | non => cases ry; exact PySem.EqNone.eq_int_none (fin_bl I q (by simp))
    | int j => obtain ⟨t', rfl⟩ := ry; exact eq_int (fin_bl I q dec_int)
    | str j => obtain ⟨t', rfl⟩ := ry; exact PySem.EqMixed.eq_int_str (fin_bl I q (by simp))
    | _ => exact absurd (show false = true from hs) Bool.false_ne_true
  | str i =>
    obtain ⟨t, rfl⟩ := rx
    cases y with
    | non => cases ry; exact PySem.EqNone.eq_str_none (fin_bl I q (by simp))
    | bl j => cases ry; exact PySem.EqMixed.eq_str_bool (fin_bl I q (by simp))
    | int j => obtain ⟨t', rfl⟩ := ry; exact PySem.EqMixed.eq_str_int (fin_bl I q (by simp))
    | str j => obtain ⟨t', rfl⟩ := ry; exact eq_str (fin_bl I q dec_str)
    | _ => exact absurd (show false = true from hs) Bool.false_ne_true
  | byt i =>
    obtain ⟨t, rfl⟩ := rx
    cases y with
    | byt j => obtain ⟨t', rfl⟩ := ry; exact PySem.W.eq_bytes (fin_bl I q dec_byt)
    | _ => exact absurd (show false = true from hs) Bool.false_ne_true
  | _ => cases y <;> exact absurd (show false = true from hs) Bool.false_ne_true
theorem op_ne : OpR X (compareOp .NotEq) rNe := by
  intro pins s σ H x y v u Q I rx ry h
  obtain ⟨hs, q⟩ := h
  cases x with
  | non =>
    cases rx
    cases y with
    | non => cases ry; exact PySem.EqNone.ne_none_none (fin_bl I q (by simp))
    | bl j => cases ry; exact PySem.EqNone.ne_none_bool (fin_bl I q (by simp))
    | int j => obtain ⟨t', rfl⟩ := ry; exact PySem.EqNone.ne_none_int (fin_bl I q (by simp))
    | str j => obtain ⟨t', rfl⟩ := ry; exact PySem.EqNone.ne_none_str (fin_bl I q (by simp))
    | _ => exact absurd (show false = true from hs) Bool.false_ne_true
  | bl i =>
    cases rx
    cases y with
    | non => cases ry; exact PySem.EqNone.ne_bool_none (fin_bl I q (by simp))
    | bl j => cases ry; exact ne_bool (fin_bl I q (congrArg not dec_bl))
    | str j => obtain ⟨t', rfl⟩ := ry; exact PySem.EqMixed.ne_bool_str (fin_bl I q (by simp))
    | _ => exact absurd (show false = true from hs) Bool.false_ne_true
  | int i =>
    obtain ⟨t, rfl⟩ := rx
    cases y with
    | non => cases ry; exact PySem.EqNone.ne_int_none (fin_bl I q (by simp))
    | int j => obtain ⟨t', rfl⟩ := ry; exact ne_int (fin_bl I q (congrArg not dec_int))
    | str j => obtain ⟨t', rfl⟩ := ry; exact PySem.EqMixed.ne_int_str (fin_bl I q (by simp))
    | _ => exact absurd (show false = true from hs) Bool.false_ne_true
  | str i =>
    obtain ⟨t, rfl⟩ := rx
    cases y with
    | non => cases ry; exact PySem.EqNone.ne_str_none (fin_bl I q (by simp))
    | bl j => cases ry; exact PySem.EqMixed.ne_str_bool (fin_bl I q (by simp))
    | int j => obtain ⟨t', rfl⟩ := ry; exact PySem.EqMixed.ne_str_int (fin_bl I q (by simp))
    | str j => obtain ⟨t', rfl⟩ := ry; exact ne_str (fin_bl I q (congrArg not dec_str))
    | _ => exact absurd (show false = true from hs) Bool.false_ne_true
  | byt i =>
    obtain ⟨t, rfl⟩ := rx
    cases y with
    | byt j => obtain ⟨t', rfl⟩ := ry; exact PySem.W.ne_bytes (fin_bl I q (congrArg not dec_byt))
    | _ => exact absurd (show false = true from hs) Bool.false_ne_true
  | _ => cases y <;> exact absurd (show false = true from hs) Bool.false_ne_true

theorem op_lt : OpR X (compareOp .Lt) (rI0 fun i j => .bl (decide (i < j))) := opB0 fun _ _ _ _ _ _ _ q => lt_int q
theorem op_le : OpR X (compareOp .LtE) (rI0 fun i j => .bl (decide (i ≤ j))) := opB0 fun _ _ _ _ _ _ _ q => le_int q
theorem op_gt : OpR X (compareOp .Gt) (rI0 fun i j => .bl (decide (j < i))) := opB0 fun _ _ _ _ _ _ _ q => gt_int q
theorem op_ge : OpR X (compareOp .GtE) (rI0 fun i j => .bl (decide (j ≤ i))) := opB0 fun _ _ _ _ _ _ _ q => ge_int q
theorem op_lt_str : OpR X (compareOp .Lt) (fun x y H Q => ∃ i j, x = .str i ∧ y = .str j ∧ Q (.bl (decide (i.cps.toList < j.cps.toList))) H) := by
  intro pins s σ H x y v u Q I rx ry h
  obtain ⟨i, j, rfl, rfl, q⟩ := h
  obtain ⟨t, rfl⟩ := rx
  obtain ⟨t', rfl⟩ := ry
  exact lt_str (fin_bl I q rfl)
/-- the one string within the other -/
theorem op_in_str : OpR X (compareOp .In) (fun x y H Q => ∃ i j, x = .str i ∧ y = .str j ∧ Q (.bl (!(Builtin.Str.occurrences j i 0 j.length 1).isEmpty)) H) := by
  intro pins s σ H x y v u Q I rx ry h
  obtain ⟨i, j, rfl, rfl, q⟩ := h
  obtain ⟨t, rfl⟩ := rx
  obtain ⟨t', rfl⟩ := ry
  exact in_str (fin_bl I q rfl)

/-- is None, is not None: the right side a value none -/
theorem op_isN : OpR X (compareOp .Is) (fun x y H Q => y = .non ∧ Q (.bl (decide (x = .non))) H) := by
  intro pins s σ H x y v u Q I rx ry h
  obtain ⟨rfl, q⟩ := h
  cases ry
  refine is_none_gen (fin_bl I q ?_)
  cases x <;> first
    | (cases rx; rfl)
    | (obtain ⟨t, rfl⟩ := rx; rfl)
theorem op_notN : OpR X (compareOp .IsNot) (fun x y H Q => y = .non ∧ Q (.bl (!decide (x = .non))) H) := by
  intro pins s σ H x y v u Q I rx ry h
  obtain ⟨rfl, q⟩ := h
  cases ry
  refine isnot_none_gen (fin_bl I q ?_)
  cases x <;> first
    | (cases rx; rfl)
    | (obtain ⟨t, rfl⟩ := rx; rfl)

theorem op_notin_str : OpR X (compareOp .NotIn) (fun x y H Q => ∃ i j, x = .str i ∧ y = .str j ∧ Q (.bl (!(!(Builtin.Str.occurrences j i 0 j.length 1).isEmpty))) H) := by
  intro pins s σ H x y v u Q I rx ry h
  obtain ⟨i, j, rfl, rfl, q⟩ := h
  obtain ⟨t, rfl⟩ := rx
  obtain ⟨t', rfl⟩ := ry
  exact notIn_str (fin_bl I q rfl)
/-- is, is not of two objects that are tracked lists or instances -/
def isObj : HO → Bool
  | .lst _ => true
  | .ins _ _ _ => true
  | _ => false
theorem obj_there {pins : List (Addr × Obj)} {s : Shared} {σ : St} {H : Hp} {a : Addr} {o : HO} (I : Inv X pins σ H s) (h : H a = some o) (p : isObj o = true) : ∃ ob, s.heap.get? a = some ob ∧ ob.cls ≠ .type "tuple" := by
  cases o with
  | lst xs =>
    obtain ⟨_, its, n, _, e⟩ : xs.length ≤ sizeLine ∧ ∃ (its : List Value) (n : Nat), Vals xs its ∧ s.heap.get? a = some { cls := .type "list", data := .seq its.toArray n } := I.hok a _ h
    exact ⟨_, e, (by show Value.type "list" ≠ .type "tuple"; decide +kernel)⟩
  | ins C dx fs =>
    have x := I.hok a _ h
    obtain ⟨_, _, _, e, _⟩ := x
    exact ⟨_, e, (by show Value.ref C ≠ .type "tuple"; exact fun z => by cases z)⟩
  | _ => exact absurd (show false = true from p) Bool.false_ne_true
theorem op_is_ref : OpR X (compareOp .Is) (fun x y H Q => ∃ a b oa ob, x = .ref a ∧ y = .ref b ∧ H a = some oa ∧ isObj oa = true ∧ H b = some ob ∧ isObj ob = true ∧ Q (.bl (decide (a = b))) H) := by
  intro pins s σ H x y v u Q I rx ry h
  obtain ⟨a, b, oa, ob, rfl, rfl, ha, pa, hb, pb, q⟩ := h
  cases rx
  cases ry
  obtain ⟨o1, e1, n1⟩ := obj_there I ha pa
  obtain ⟨o2, e2, _⟩ := obj_there I hb pb
  by_cases z : a = b
  · subst z
    exact wpAny_is_ref_self (fin_bl I q (by simp))
  · exact wpAny_is_ref_other z e1 e2 n1 (fin_bl I q (by simp [z]))
theorem op_isnot_ref : OpR X (compareOp .IsNot) (fun x y H Q => ∃ a b oa ob, x = .ref a ∧ y = .ref b ∧ H a = some oa ∧ isObj oa = true ∧ H b = some ob ∧ isObj ob = true ∧ Q (.bl (!decide (a = b))) H) := by
  intro pins s σ H x y v u Q I rx ry h
  obtain ⟨a, b, oa, ob, rfl, rfl, ha, pa, hb, pb, q⟩ := h
  cases rx
  cases ry
  obtain ⟨o1, e1, n1⟩ := obj_there I ha pa
  obtain ⟨o2, e2, _⟩ := obj_there I hb pb
  by_cases z : a = b
  · subst z
    exact wpAny_isNot_ref_self (fin_bl I q (by simp))
  · exact wpAny_isNot_ref_other z e1 e2 n1 (fin_bl I q (by simp [z]))

/-- two rules for one operation: by cases -/
theorem OpR.or {f : Value → Value → Sem Value} {r r' : R2} (h : OpR X f r) (h' : OpR X f r') : OpR X f (fun x y H Q => r x y H Q ∨ r' x y H Q) := by
  intro pins s σ H x y v u Q I rx ry q
  rcases q with q | q
  · exact h pins s σ H x y v u Q I rx ry q
  · exact h' pins s σ H x y v u Q I rx ry q

theorem nomark (b : Expr) {op : CmpOp} (h : op ≠ .In := by decide) (h2 : op ≠ .NotIn := by decide) : behindInMarks op b = false := by
  have e1 : (op == CmpOp.In) = false := by cases op <;> first | rfl | exact absurd rfl h
  have e2 : (op == CmpOp.NotIn) = false := by cases op <;> first | rfl | exact absurd rfl h2
  cases b <;> simp [behindInMarks, e1, e2]
/-- a comparison as a value; hm: nomark b, or (for in, not in) by with_unfolding_all rfl -/
theorem pe_cmpR {op : CmpOp} {r : R2} (ho : OpR X (compareOp op) r) (ha : PE X a ta) (hb : PE X b tb) (hm : behindInMarks op b = false) : PE X (.Compare a [op] [b] pos) (tOp r ta tb) := by
  intro pins s σ H Q I h
  exact wpAny_Compare1 (binT ha hb I h fun v u s2 x y H2 I2 rx ry q => ho pins s2 σ H2 x y v u Q I2 rx ry q) hm
/-- a reading of a value as a test -/
def tTest (t : TE) : TT := fun σ H Q => t σ H fun x H' => ∃ k, x = .bl k ∧ Q k H'
theorem pt_cmpR {op : CmpOp} {r : R2} (ho : OpR X (compareOp op) r) (ha : PE X a ta) (hb : PE X b tb) (hm : behindInMarks op b = false) : PT X (.Compare a [op] [b] pos) (tTest (tOp r ta tb)) := by
  intro pins s σ H Q I h
  refine wpAny_isTrue_Compare1 (thn (ha pins s σ H _ I h) fun v s1 ⟨x, H1, I1, r1, q1⟩ => thn (hb pins s1 σ H1 _ I1 q1) fun u s2 ⟨y, H2, I2, r2, q2⟩ =>
    thn (ho pins s2 σ H2 x y v u _ I2 r1 r2 q2) fun c s3 ⟨z, H3, I3, r3, k, e, q3⟩ => ?_) hm
  subst e
  cases r3
  exact wpAny_truthy_bool ⟨H3, I3, q3⟩
/-- a op1 b op2 c -/
def tChain (r r' : R2) (ta tb tc : TE) : TE := fun σ H Q => ta σ H fun x H1 => tb σ H1 fun y H2 => r x y H2 fun z H3 => ∃ k, z = .bl k ∧
  (if k = true then tc σ H3 fun w' H4 => r' y w' H4 Q else Q (.bl false) H3)
theorem pe_chain {op op' : CmpOp} {r r' : R2} (ho : OpR X (compareOp op) r) (ho' : OpR X (compareOp op') r') (ha : PE X a ta) (hb : PE X b tb) (hc : PE X c tc)
    (hm : lastMarks [op, op'] [b, c] = false := by with_unfolding_all rfl) : PE X (.Compare a [op, op'] [b, c] pos) (tChain r r' ta tb tc) := by
  intro pins s σ H Q I h
  refine Compare_chain (thn (ha pins s σ H _ I h) fun v s1 ⟨x, H1, I1, r1, q1⟩ => chain_link (thn (hb pins s1 σ H1 _ I1 q1) fun u s2 ⟨y, H2, I2, r2, q2⟩ =>
    thn (ho pins s2 σ H2 x y v u _ I2 r1 r2 q2) fun d s3 ⟨z, H3, I3, r3, k, e, q3⟩ => ?_)) hm
  subst e
  cases r3
  refine wpAny_truthy_bool ?_
  cases k with
  | false => exact ite_ff ⟨.bl false, H3, I3, rfl, q3⟩
  | true => exact ite_tt (chain_last (thn (hc pins s3 σ H3 _ I3 q3) fun w' s4 ⟨z', H4, I4, r4, q4⟩ => ho' pins s4 σ H4 y z' u w' Q I4 r2 r4 q4))
theorem pt_chain {op op' : CmpOp} {r r' : R2} (ho : OpR X (compareOp op) r) (ho' : OpR X (compareOp op') r') (ha : PE X a ta) (hb : PE X b tb) (hc : PE X c tc)
    (hm : lastMarks [op, op'] [b, c] = false := by with_unfolding_all rfl) : PT X (.Compare a [op, op'] [b, c] pos) (tTest (tChain r r' ta tb tc)) := by
  intro pins s σ H Q I h
  refine isTrue_chain (thn (ha pins s σ H _ I h) fun v s1 ⟨x, H1, I1, r1, q1⟩ => test_link (thn (hb pins s1 σ H1 _ I1 q1) fun u s2 ⟨y, H2, I2, r2, q2⟩ =>
    thn (ho pins s2 σ H2 x y v u _ I2 r1 r2 q2) fun d s3 ⟨z, H3, I3, r3, k, e, q3⟩ => ?_)) hm
  subst e
  cases r3
  refine wpAny_truthy_bool ?_
  cases k with
  | false =>
    obtain ⟨k', e', q'⟩ := q3
    cases e'
    exact ite_ff ⟨H3, I3, q'⟩
  | true =>
    refine ite_tt (test_last (thn (hc pins s3 σ H3 _ I3 q3) fun w' s4 ⟨z', H4, I4, r4, q4⟩ => thn (ho' pins s4 σ H4 y z' u w' _ I4 r2 r4 q4) fun d' s5 ⟨z2, H5, I5, r5, k2, e2, q5⟩ => ?_))
    subst e2
    cases r5
    exact wpAny_truthy_bool ⟨H5, I5, q5⟩

/-! ### truth -/
/-- a value's truth by the abstract heap -/
def TruV (K : PySem.W.Frag) (x : V) (H : Hp) (k : Bool) : Prop :=
  match x with
  | .non => k = false
  | .bl b => k = b
  | .int i => k = (i != 0)
  | .str y => y.length ≤ sizeLine ∧ k = ((y.length : Int) != 0)
  | .byt y => y.size ≤ sizeLine ∧ k = ((y.size : Int) != 0)
  | .ref p => (∃ xs, SqL K H p xs ∧ k = !xs.isEmpty) ∨ (∃ xs, SqT K H p xs ∧ k = !xs.isEmpty) ∨ ∃ kvs, H p = some (.dK kvs) ∧ k = !kvs.isEmpty
  | _ => False
theorem isEmpty_kv {κ : Type} {kvs : List (κ × V)} {vs : List (κ × Value)} (r : KV kvs vs) : (!vs.isEmpty) = !kvs.isEmpty := by
  cases r <;> rfl
theorem isEmpty_of {xs : List V} {its : List Value} (r : Vals xs its) : (!its.toArray.isEmpty) = !xs.isEmpty := by
  cases r <;> simp
theorem line63 : (sizeLine : Nat) < 2 ^ 63 := by rw [sizeLine_eq]; decide
theorem tru_ok : TruR X (fun x H Q => ∃ k, TruV X.K x H k ∧ Q k H) := by
  intro pins s σ H x v Q I rx h
  obtain ⟨k, e, q⟩ := h
  have hl := line63
  have hs : sizeLine = 16777216 := sizeLine_eq
  cases x with
  | non =>
    cases rx
    have e' : k = false := e
    subst e'
    exact truthy_none ⟨H, I, q⟩
  | bl b =>
    cases rx
    have e' : k = b := e
    subst e'
    exact wpAny_truthy_bool ⟨H, I, q⟩
  | int i =>
    obtain ⟨t, rfl⟩ := rx
    have e' : k = (i != 0) := e
    subst e'
    exact PySem.P.truthy_int ⟨H, I, q⟩
  | str y =>
    obtain ⟨t, rfl⟩ := rx
    obtain ⟨hy, e'⟩ : y.length ≤ sizeLine ∧ k = ((y.length : Int) != 0) := e
    subst e'
    exact PySem.P.truthy_str (by omega) ⟨H, I.tok _, q⟩
  | byt y =>
    obtain ⟨t, rfl⟩ := rx
    obtain ⟨hy, e'⟩ : y.size ≤ sizeLine ∧ k = ((y.size : Int) != 0) := e
    subst e'
    exact PySem.W.truthy_bytes (by omega) ⟨H, I.tok _, q⟩
  | ref p =>
    cases rx
    have e' : (∃ xs, SqL X.K H p xs ∧ k = !xs.isEmpty) ∨ (∃ xs, SqT X.K H p xs ∧ k = !xs.isEmpty) ∨ ∃ kvs, H p = some (.dK kvs) ∧ k = !kvs.isEmpty := e
    rcases e' with ⟨xs, hx, e'⟩ | ⟨xs, hx, e'⟩ | ⟨kvs, hx, e'⟩
    · subst e'
      obtain ⟨its, r, pl, hz⟩ := I.list hx
      have hlen := r.length
      exact wpAny_truthy_list pl.isList (by simp only [List.size_toArray]; omega) ⟨H, I.tok _, by rw [isEmpty_of r]; exact q⟩
    · subst e'
      obtain ⟨its, r, pl, hz⟩ := I.tuple hx
      have hlen := r.length
      exact truthy_tuple pl (by simp only [List.size_toArray]; omega) ⟨H, I.tok _, by rw [isEmpty_of r]; exact q⟩
    · subst e'
      obtain ⟨hz, hS, vs, r, m⟩ : kvs.length ≤ sizeLine ∧ (p == sysModules) = false ∧ ∃ vs, KV kvs vs ∧ s.heap.DictOf (mixKind X.prog X.w) p vs := I.hok p _ hx
      have hlen : kvs.length = vs.length := Paired.length r
      exact wpAny_truthy_dict hS m (by omega) ⟨H, I.tok _, by rw [isEmpty_kv r]; exact q⟩
  | _ => exact (show False from e).elim
/-- any expression whose test is its value's truth (a name, a call, a subscript, a field ..: he by fun _ => rfl) -/
theorem pt_truth (ha : PE X a ta) (he : ∀ whole, isTrue a X.env whole = (do let v ← whole; standAt a.pos; holding [v] (truthy v))) :
    PT X a (fun σ H Q => ta σ H fun x H' => ∃ k, TruV X.K x H' k ∧ Q k H') := by
  intro pins s σ H Q I h
  exact isTrue_plain (thn (ha pins s σ H _ I h) fun v s1 ⟨x, H1, I1, r1, q1⟩ => tru_ok pins s1 σ H1 x v Q I1 r1 q1) (he _)

/-! ### strs and bytes -/
theorem pe_byt {x : List UInt8} {k : Nat} : PE X (.Constant (.bytes x) k pos) (fun _ H Q => Q (.byt x.toArray) H) := fun _ _ _ H _ I h => PySem.W.Constant_bytes ⟨.byt x.toArray, H, I.tok _, ⟨_, rfl⟩, h⟩
theorem op_add_str : OpR X (binaryOp .Add) (fun x y H Q => ∃ i j, x = .str i ∧ y = .str j ∧ i.length + j.length ≤ sizeLine ∧ Q (.str (i ++ j)) H) := by
  intro pins s σ H x y v u Q I rx ry h
  obtain ⟨i, j, rfl, rfl, hz, q⟩ := h
  obtain ⟨t, rfl⟩ := rx
  obtain ⟨t', rfl⟩ := ry
  exact add_str (fun t' tk => ⟨.str (i ++ j), H, I.tok _, ⟨_, rfl⟩, q⟩) hz
theorem iop_add_str : OpR X (inplaceOp .Add) (fun x y H Q => ∃ i j, x = .str i ∧ y = .str j ∧ i.length + j.length ≤ sizeLine ∧ Q (.str (i ++ j)) H) := by
  intro pins s σ H x y v u Q I rx ry h
  obtain ⟨i, j, rfl, rfl, hz, q⟩ := h
  obtain ⟨t, rfl⟩ := rx
  obtain ⟨t', rfl⟩ := ry
  exact iadd_str (fun t' tk => ⟨.str (i ++ j), H, I.tok _, ⟨_, rfl⟩, q⟩) hz
theorem op_add_byt : OpR X (binaryOp .Add) (fun x y H Q => ∃ i j, x = .byt i ∧ y = .byt j ∧ i.size + j.size ≤ 16777216 ∧ Q (.byt (i ++ j)) H) := by
  intro pins s σ H x y v u Q I rx ry h
  obtain ⟨i, j, rfl, rfl, hz, q⟩ := h
  obtain ⟨t, rfl⟩ := rx
  obtain ⟨t', rfl⟩ := ry
  exact PySem.W.KBy.add_bytes hz (fun t' tk => ⟨.byt (i ++ j), H, I.tok _, ⟨_, rfl⟩, q⟩)

def PlainIxT (b : Expr) : Prop := ∀ o i, subscripted b false o i = operate [o, i] (getItem o i)
/-- s[i], 0 ≤ i < len -/
theorem pe_item_str (ha : PE X a ta) (hb : PE X b tb) (hs : PlainIxT b) :
    PE X (.Subscript a b pos) (tOp (fun x y H Q => ∃ z i c, x = .str z ∧ y = .int i ∧ 0 ≤ i ∧ i < 2 ^ 63 ∧ i < z.length ∧ z.cps[i.toNat]? = some c ∧ Q (.str ⟨#[c]⟩) H) ta tb) := by
  intro pins s σ H Q I h
  refine Subscript_ (binT ha hb I h fun v u s2 x y H2 I2 rx ry q => ?_)
  obtain ⟨z, i, c, rfl, rfl, h0, h63, h1, hc, q⟩ := q
  obtain ⟨t, rfl⟩ := rx
  obtain ⟨t', rfl⟩ := ry
  have e : seqIndex? i z.length = some i.toNat := PySem.StrLaws.seqIndex_nonneg h0 h1
  exact tail_any (typeIs_str s2 z t) slot_str_getitem.lookup (getItem_str (c := c) (by
    have e1 : decide (i < -(2 ^ 63 : Int)) = false := decide_eq_false (by omega)
    have e2 : decide (i ≥ 2 ^ 63) = false := decide_eq_false (by omega)
    rw [e1, e2] <;> rfl) (by rw [e]; exact hc) ⟨.str ⟨#[c]⟩, H2, I2.tok _, ⟨_, rfl⟩, q⟩) (hs _ _)
/-- b[i], 0 ≤ i < len -/
theorem pe_item_byt (ha : PE X a ta) (hb : PE X b tb) (hs : PlainIxT b) :
    PE X (.Subscript a b pos) (tOp (fun x y H Q => ∃ (z : List UInt8) (i : Int), x = .byt z.toArray ∧ y = .int i ∧ z.length ≤ sizeLine ∧ 0 ≤ i ∧ i < z.length ∧ Q (.int ((z.getD i.toNat 0).toNat : Nat)) H) ta tb) := by
  intro pins s σ H Q I h
  refine Subscript_ (binT ha hb I h fun v u s2 x y H2 I2 rx ry q => ?_)
  obtain ⟨z, i, rfl, rfl, hz, h0, h1, q⟩ := q
  obtain ⟨t, rfl⟩ := rx
  obtain ⟨t', rfl⟩ := ry
  have hl : sizeLine = 16777216 := sizeLine_eq
  exact tail_any (PySem.W.typeIs_bytes s2 z.toArray t) PySem.W.FB.slot_bytes_getitem.lookup (PySem.W.getItem_bytes (by omega) h0 h1 ⟨.int ((z.getD i.toNat 0).toNat : Nat), H2, I2.tok _, ⟨_, rfl⟩, q⟩) (hs _ _)

/-! ### scalar builtins, by CallR -/
theorem vals1 {x : V} {us : List Value} (r : Vals [x] us) : ∃ u, us = [u] ∧ RelV x u := by
  cases r with
  | cons r1 r2 => cases r2; exact ⟨_, rfl, r1⟩
theorem vals2 {x y : V} {us : List Value} (r : Vals [x, y] us) : ∃ u w', us = [u, w'] ∧ RelV x u ∧ RelV y w' := by
  cases r with
  | cons r1 r2 =>
    cases r2 with
    | cons r3 r4 => cases r4; exact ⟨_, _, rfl, r1, r3⟩
theorem call_abs : CallR X (.builtin "abs") (fun xs H Q => ∃ i, xs = [.int i] ∧ Q (.int (if i < 0 then -i else i)) H) := by
  intro pins s σ H xs us Q I r h
  obtain ⟨i, rfl, q⟩ := h
  obtain ⟨u, rfl, t, rfl⟩ := vals1 r
  exact call_abs_int fun u tk => ⟨.int (if i < 0 then -i else i), H, I.tok _, ⟨_, rfl⟩, q⟩
theorem call_max2 (hc : X.calm = true) : CallR X (.builtin "max") (fun xs H Q => ∃ i j, xs = [.int i, .int j] ∧ Q (.int (if j > i then j else i)) H) := by
  intro pins s σ H xs us Q I r h
  obtain ⟨i, j, rfl, q⟩ := h
  obtain ⟨u, w', rfl, ⟨t, rfl⟩, ⟨t', rfl⟩⟩ := vals2 r
  refine max_two_ints (I.ok.hd hc) fun h' tk k => ⟨_, H, I.kept k, ?_, q⟩
  by_cases hj : j > i
  · rw [if_pos hj, if_pos hj]; exact ⟨_, rfl⟩
  · rw [if_neg hj, if_neg hj]; exact ⟨_, rfl⟩
theorem call_min2 (hc : X.calm = true) : CallR X (.builtin "min") (fun xs H Q => ∃ i j, xs = [.int i, .int j] ∧ Q (.int (if j < i then j else i)) H) := by
  intro pins s σ H xs us Q I r h
  obtain ⟨i, j, rfl, q⟩ := h
  obtain ⟨u, w', rfl, ⟨t, rfl⟩, ⟨t', rfl⟩⟩ := vals2 r
  refine min_two_ints (I.ok.hd hc) fun h' tk k => ⟨_, H, I.kept k, ?_, q⟩
  by_cases hj : j < i
  · rw [if_pos hj, if_pos hj]; exact ⟨_, rfl⟩
  · rw [if_neg hj, if_neg hj]; exact ⟨_, rfl⟩
theorem call_int1 : CallR X (.type "int") (fun xs H Q => (∃ i, xs = [.int i] ∧ Q (.int i) H) ∨ ∃ k, xs = [.bl k] ∧ Q (.int (if k then 1 else 0)) H) := by
  intro pins s σ H xs us Q I r h
  rcases h with ⟨i, rfl, q⟩ | ⟨k, rfl, q⟩
  · obtain ⟨u, rfl, t, rfl⟩ := vals1 r
    exact call_int_int ⟨.int i, H, I, ⟨_, rfl⟩, q⟩
  · obtain ⟨u, rfl, r1⟩ := vals1 r
    cases r1
    exact call_int_bool ⟨.int (if k then 1 else 0), H, I.tok _, ⟨_, rfl⟩, q⟩
theorem call_bool1 : CallR X (.type "bool") (fun xs H Q => (∃ i, xs = [.int i] ∧ Q (.bl (i != 0)) H) ∨ ∃ k, xs = [.bl k] ∧ Q (.bl k) H) := by
  intro pins s σ H xs us Q I r h
  rcases h with ⟨i, rfl, q⟩ | ⟨k, rfl, q⟩
  · obtain ⟨u, rfl, t, rfl⟩ := vals1 r
    exact call_bool_int ⟨.bl (i != 0), H, I, rfl, q⟩
  · obtain ⟨u, rfl, r1⟩ := vals1 r
    cases r1
    exact call_bool_bool ⟨.bl k, H, I, rfl, q⟩
theorem call_str_int : CallR X (.type "str") (fun xs H Q => ∃ i, xs = [.int i] ∧ i.natAbs.log2 < 1920 ∧ Q (.str (toString i)) H) := by
  intro pins s σ H xs us Q I r h
  obtain ⟨i, rfl, hz, q⟩ := h
  obtain ⟨u, rfl, t, rfl⟩ := vals1 r
  exact PySem.P.str_of_int hz ⟨.str _, H, I.tok _, ⟨_, rfl⟩, q⟩
theorem call_ord : CallR X (.builtin "ord") (fun xs H Q => ∃ x, xs = [.str x] ∧ x.length = 1 ∧ Q (.int (x.cps.getD 0 0 : Nat)) H) := by
  intro pins s σ H xs us Q I r h
  obtain ⟨x, rfl, hz, q⟩ := h
  obtain ⟨u, rfl, t, rfl⟩ := vals1 r
  exact ord_of_one hz ⟨.int _, H, I.tok _, ⟨_, rfl⟩, q⟩
theorem call_chr : CallR X (.builtin "chr") (fun xs H Q => ∃ i, xs = [.int i] ∧ 0 ≤ i ∧ i ≤ 1114111 ∧ Q (.str ⟨#[i.toNat]⟩) H) := by
  intro pins s σ H xs us Q I r h
  obtain ⟨i, rfl, h0, h1, q⟩ := h
  obtain ⟨u, rfl, t, rfl⟩ := vals1 r
  exact chr_of_range h0 h1 ⟨.str _, H, I.tok _, ⟨_, rfl⟩, q⟩
/-- len of a str, a bytes, a list, a tuple -/
def LenV (K : PySem.W.Frag) (x : V) (H : Hp) (n : Nat) : Prop :=
  match x with
  | .str y => y.length ≤ sizeLine ∧ n = y.length
  | .byt y => y.size ≤ sizeLine ∧ n = y.size
  | .ref p => (∃ xs, SqL K H p xs ∧ n = xs.length) ∨ ∃ xs, SqT K H p xs ∧ n = xs.length
  | _ => False
theorem call_len : CallR X (.builtin "len") (fun xs H Q => ∃ x n, xs = [x] ∧ LenV X.K x H n ∧ Q (.int n) H) := by
  intro pins s σ H xs us Q I r h
  obtain ⟨x, n, rfl, e, q⟩ := h
  obtain ⟨u, rfl, rx⟩ := vals1 r
  have hl := line63
  have hs : sizeLine = 16777216 := sizeLine_eq
  cases x with
  | str y =>
    obtain ⟨t, rfl⟩ := rx
    obtain ⟨hy, e'⟩ : y.length ≤ sizeLine ∧ n = y.length := e
    subst e'
    exact len_str (by omega) ⟨.int _, H, I.tok _, ⟨_, rfl⟩, q⟩
  | byt y =>
    obtain ⟨t, rfl⟩ := rx
    obtain ⟨hy, e'⟩ : y.size ≤ sizeLine ∧ n = y.size := e
    subst e'
    exact PySem.W.len_bytes (by omega) ⟨.int _, H, I.tok _, ⟨_, rfl⟩, q⟩
  | ref p =>
    cases rx
    have e' : (∃ xs, SqL X.K H p xs ∧ n = xs.length) ∨ ∃ xs, SqT X.K H p xs ∧ n = xs.length := e
    rcases e' with ⟨xs, hx, e'⟩ | ⟨xs, hx, e'⟩
    · subst e'
      obtain ⟨its, r', pl, hz⟩ := I.list hx
      have hlen := r'.length
      exact Calls.call_len_list pl.isList (by simp only [List.size_toArray]; omega) ⟨.int xs.length, H, I.tok _, ⟨_, by simp only [List.size_toArray]; rw [hlen]⟩, q⟩
    · subst e'
      obtain ⟨its, r', pl, hz⟩ := I.tuple hx
      have hlen := r'.length
      exact len_tuple pl (by simp only [List.size_toArray]; omega) ⟨.int xs.length, H, I.tok _, ⟨_, by simp only [List.size_toArray]; rw [hlen]⟩, q⟩
  | _ => exact (show False from e).elim
/-- divmod: a new tuple -/
theorem call_divmod : CallR X (.builtin "divmod") (fun xs H Q => ∃ i j, xs = [.int i, .int j] ∧ CDiv i j ∧ ∀ p, H p = none → Q (.ref p) (upd H p (.tup [.int (i / j), .int (i % j)]))) := by
  intro pins s σ H xs us Q I r h
  obtain ⟨i, j, rfl, ⟨h1, h2⟩, q⟩ := h
  obtain ⟨u, w', rfl, ⟨t, rfl⟩, ⟨t', rfl⟩⟩ := vals2 r
  refine divmod_int (by omega) ?_ (.inl (PyProof.noPylong_small (by omega)))
  rw [Int.fdiv_eq_ediv_of_nonneg i (by omega), Int.fmod_eq_emod_of_nonneg i (by omega)]
  have hn : H s.heap.objs.size = none := I.hok.fresh (Nat.le_refl _)
  refine ⟨.ref s.heap.objs.size, _, ?_, rfl, q _ hn⟩
  refine I.laid (fun b o e => Heap.get?_push_of_some _ e) (Nat.le_refl _) ⟨by simp only [List.length_cons, List.length_nil]; rw [sizeLine_eq]; decide, [.int (i / j) s.toks, .int (i % j) (s.toks + 1)], .cons ⟨_, rfl⟩ (.cons ⟨_, rfl⟩ .nil), ?_⟩
  exact ⟨_, Heap.get?_push_size s.heap rfl, rfl, 0, rfl⟩
end
end L2

namespace L2
open PySem PySem.Spec PyProof.Rows

/-! ### an instance, its attributes a map -/
structure ObjM (h : Heap) (x dx C : Addr) (mA : Str → Option Value) : Prop where
  obj : h.get? x = some (PySem.W.instObj C dx)
  ns : h.Ns1 dx mA
  ne : dx ≠ x

theorem lookIn_ns {h : Heap} {dx : Addr} {mA : Str → Option Value} (n : h.Ns1 dx mA) : ∃ od, h.get? dx = some od ∧ ∀ name, PySem.W.lookIn name od = some (mA name) := by
  obtain ⟨o, es, ep, ho, hd, hk, _, hm⟩ := n
  refine ⟨o, ho, fun name => ?_⟩
  have e := hm name
  unfold nsFind findBy at e
  rw [← Array.find?_toList] at e
  unfold PySem.W.lookIn
  rw [hd]
  dsimp only
  split
  · rename_i y q
    rw [q] at e
    exact congrArg some e
  · rename_i q
    rw [q] at e
    have a : es.toList.any (·.refKey) = false := by
      rw [List.any_eq_false]
      intro y hy
      obtain ⟨z, t, hkey⟩ := hk y (Array.mem_toList_iff.mp hy)
      simp [DictEntry.refKey, hkey]
    have a' : ¬ es.toList.any (·.refKey) = true := by rw [a]; exact Bool.false_ne_true
    rw [if_neg a']
    exact congrArg some e

theorem ObjM.look {h : Heap} {x dx C : Addr} {mA : Str → Option Value} (I : ObjM h x dx C mA) : ∃ od, PySem.W.InstAt h x (PySem.W.instObj C dx) C (some od) ∧ ∀ name, PySem.W.lookIn name od = some (mA name) :=
  let ⟨od, ho, hl⟩ := lookIn_ns I.ns
  ⟨od, ⟨I.obj, rfl, rfl, ho⟩, hl⟩

section
variable {prog : Program} {w : World} {A : Around} {E : Value → Shared → Prop} {s : Shared} {K : PySem.W.Frag} {x dx C f : Addr} {mA : Str → Option Value} {name : Str} {v : Value}

theorem get_map {expr : Bool} {Q : Value → Shared → Prop} (X : K.In s.heap) (I : ObjM s.heap x dx C mA) (hg : PySem.W.plainGet K C name = true) (hh : PySem.W.hasDictIn K C = true)
    (ha : PySem.W.findIn K (.ref C) name = some none) (hv : mA name = some v) (hv' : PySem.W.handedIn v = true) (h : Q v { s with toks := s.toks + 1 }) :
    wpAny (model prog w) A (getAttr (.ref x) name expr) Q E s := by
  obtain ⟨od, J, hl⟩ := I.look
  exact PySem.W.get_value X J (PySem.W.plainGet_of hg).1 (PySem.W.findObj_own hh ha rfl (by rw [hl, hv])) hv' h

theorem get_const {expr : Bool} {a : Value} {Q : Value → Shared → Prop} (X : K.In s.heap) (I : ObjM s.heap x dx C mA) (hg : PySem.W.plainGet K C name = true) (hh : PySem.W.hasDictIn K C = true)
    (ha : PySem.W.findIn K (.ref C) name = some (some a)) (hn : PySem.W.specialIn K a "__get__" = some none) (hc : PySem.W.copiedNames.contains name = false) (hv : mA name = none) (hv' : PySem.W.handedIn a = true)
    (h : Q a { s with toks := s.toks + 1 }) : wpAny (model prog w) A (getAttr (.ref x) name expr) Q E s := by
  obtain ⟨od, J, hl⟩ := I.look
  exact PySem.W.get_value X J (PySem.W.plainGet_of hg).1 (PySem.W.findObj_cls hh ha hn hv' hc (by rw [hl, hv])) hv' h

theorem get_meth {pl : Sem Bool} {Q : Value × List Value → Shared → Prop} (X : K.In s.heap) (I : ObjM s.heap x dx C mA) (hg : PySem.W.plainGet K C name = true)
    (hf : PySem.W.findIn K (.ref C) name = some (some (.ref f))) (ht : PySem.W.isFn K (.ref f) = true) (hv : mA name = none) (h : Q (.ref f, [.ref x]) s) :
    wpAny (model prog w) A (getMethod (.ref x) name pl) Q E s := by
  obtain ⟨od, J, hl⟩ := I.look
  exact PySem.W.method_fn X J (PySem.W.plainGet_of hg).1 (PySem.W.plainGet_of hg).2 hf (beq_iff_eq.mp ht) (by show (PySem.W.lookIn name od).map (·.isSome) = some false; rw [hl, hv]; rfl) h

theorem set_map {ns : List Str} {Q : Unit → Shared → Prop} (X : K.In s.heap) (I : ObjM s.heap x dx C mA)
    (hs : PySem.W.findIn K (.ref C) "__setattr__" = some (some (.builtin "object.__setattr__"))) (hp : PySem.W.plainOver K C = true) (ht : PySem.W.takerIn K C name = some none) (hh : PySem.W.hasDictIn K C = true)
    (hw : PySem.Within mA ns) (hsz : ns.length ≤ sizeLine)
    (h : ∀ h', ObjM h' x dx C (fun y => if y = name then some v else mA y) → Heap.SameBut dx s.heap h' → Q () { s with heap := h', toks := s.toks + 2 }) :
    wpAny (model prog w) A (setAttr (.ref x) name v) Q E s := by
  obtain ⟨od, J, hl⟩ := I.look
  refine PySem.W.set_plain X J hs (PySem.W.osa_open (s := { s with toks := s.toks + 1 }) (r := none) X J hp ht fun b => ?_)
  obtain ⟨cd, hc, hd'⟩ := PySem.W.any_some hh
  have hx : s.heap.get? x = some ⟨.ref C, some dx, .plain, #[]⟩ := I.obj
  refine wpAny_bind (wpAny_pure (wpAny_bind (wpAny_bind (wpAny_loadPart hx (wpAny_bind (PySem.W.Looks.here (s := { s with toks := s.toks + 1 }) (PySem.W.looks_clsIn X hc) ?_))))))
  rw [hd']
  refine wpAny_pure (a := some dx) (wpAny_bind (wpAny_pure (wpAny_bind ?_)))
  refine wpAny_nsSet1 (s := { s with toks := s.toks + 1 }) I.ns fun h' hn2 hs2 => ?_
  obtain ⟨oD, esD, epD, hoD, hdD, hcD⟩ := hn2.count (PySem.Within.cons name v hw)
  refine wpAny_bind (wpAny_lookBehind hoD (by rw [hdD]; exact pastItsLine_dict (Nat.le_trans hcD (by rw [List.length_cons]; omega))) ?_)
  exact wpAny_pure (h _ ⟨(hs2.2 _ (Ne.symm I.ne)).trans I.obj, hn2, I.ne⟩ hs2)

/-- C(..): the dict at the heap's end, the instance behind it; then its __init__ -/
theorem make_map {R : Result → Shared → Prop} {vs : List Value} {kw : List (Str × Value)} (X : K.In s.heap) (hm : PySem.W.makesIn K C = true)
    (hi : PySem.W.findIn K (.ref C) "__init__" = some (some (.ref f))) (hf : PySem.W.typeIn K (.ref f) = some (.type "function"))
    (h : codeAny (model prog w) (A.under (.builtin "type.__call__" ⟨.ref C :: vs, kw⟩)) (.call (.ref f) ⟨.ref (s.heap.objs.size + 1) :: vs, kw⟩) (PySem.W.InitBack (s.heap.objs.size + 1) R)
      { s with heap := (s.heap.push PySem.W.emptyDict).push (PySem.W.instObj C s.heap.objs.size) }) :
    codeAny (model prog w) A (.call (.ref C) ⟨vs, kw⟩) R s := by
  obtain ⟨hh, g, d, t, os⟩ := s
  exact PySem.W.make_core (PySem.W.makes_of X hm) (PySem.W.looks_findIn X hi) (fun self => PySem.W.bind_fn X self hf) (.inl rfl) h
/-- C() where there is no __init__ but object's -/
theorem make_map0 {R : Result → Shared → Prop} (X : K.In s.heap) (hm : PySem.W.makesIn K C = true)
    (hi : PySem.W.findIn K (.ref C) "__init__" = some (some (.builtin "object.__init__")))
    (hb : ∀ self, PySem.W.Looks (model prog w) s.heap (bindSpecial (.builtin "object.__init__") self) (.builtin "object.__init__", [self]))
    (h : codeAny (model prog w) (A.under (.builtin "type.__call__" ⟨[.ref C], []⟩)) (.call (.builtin "object.__init__") ⟨[.ref (s.heap.objs.size + 1)], []⟩) (PySem.W.InitBack (s.heap.objs.size + 1) R)
      { s with heap := (s.heap.push PySem.W.emptyDict).push (PySem.W.instObj C s.heap.objs.size) }) :
    codeAny (model prog w) A (.call (.ref C) ⟨[], []⟩) R s := by
  obtain ⟨hh, g, d, t, os⟩ := s
  exact PySem.W.make_core (PySem.W.makes_of X hm) (PySem.W.looks_findIn X hi) hb (.inr ⟨rfl, rfl⟩) h
end

/-! ### the attributes as a list of pairs -/
def putF (f : Str) (v : V) : List (Str × V) → List (Str × V)
  | [] => [(f, v)]
  | (g, x) :: r => if g = f then (g, v) :: r else (g, x) :: putF f v r
theorem lookup_putF (f g : Str) (v : V) : ∀ fs : List (Str × V), (putF f v fs).lookup g = if g = f then some v else fs.lookup g
  | [] => by
    show List.lookup g [(f, v)] = _
    by_cases h : g = f
    · have hb : (g == f) = true := beq_iff_eq.mpr h
      simp only [List.lookup, hb, if_pos h]
    · have hb : (g == f) = false := beq_eq_false_iff_ne.mpr h
      simp only [List.lookup, hb, if_neg h]
  | (k, x) :: r => by
    have ih := lookup_putF f g v r
    rw [show putF f v ((k, x) :: r) = (if k = f then (k, v) :: r else (k, x) :: putF f v r) from rfl]
    by_cases hk : k = f
    · rw [if_pos hk]
      by_cases h : g = k
      · have hb : (g == k) = true := beq_iff_eq.mpr h
        simp only [List.lookup, hb, if_pos (h.trans hk)]
      · have hb : (g == k) = false := beq_eq_false_iff_ne.mpr h
        simp only [List.lookup, hb, if_neg (fun e : g = f => h (e.trans hk.symm))]
    · rw [if_neg hk]
      by_cases h : g = k
      · have hb : (g == k) = true := beq_iff_eq.mpr h
        simp only [List.lookup, hb, if_neg (fun e : g = f => hk (h.symm.trans e))]
      · have hb : (g == k) = false := beq_eq_false_iff_ne.mpr h
        simp only [List.lookup, hb]
        exact ih
theorem keys_putF (f : Str) (v : V) : ∀ fs : List (Str × V), f ∈ (putF f v fs).map (·.1) ∧ ∀ g, g ∈ fs.map (·.1) → g ∈ (putF f v fs).map (·.1)
  | [] => ⟨by simp [putF], fun g h => by simp at h⟩
  | (k, x) :: r => by
    obtain ⟨i1, i2⟩ := keys_putF f v r
    rw [show putF f v ((k, x) :: r) = (if k = f then (k, v) :: r else (k, x) :: putF f v r) from rfl]
    by_cases hk : k = f
    · rw [if_pos hk]
      subst hk
      exact ⟨by simp, fun g h => by simpa using h⟩
    · rw [if_neg hk]
      refine ⟨?_, fun g h => ?_⟩
      · rw [List.map_cons]
        exact List.mem_cons_of_mem _ i1
      · rw [List.map_cons] at h ⊢
        rcases List.mem_cons.mp h with e | e
        · exact List.mem_cons.mpr (.inl e)
        · exact List.mem_cons_of_mem _ (i2 g e)
theorem length_putF (f : Str) (v : V) : ∀ fs : List (Str × V), (putF f v fs).length ≤ fs.length + 1
  | [] => by simp [putF]
  | (k, x) :: r => by
    have ih := length_putF f v r
    rw [show putF f v ((k, x) :: r) = (if k = f then (k, v) :: r else (k, x) :: putF f v r) from rfl]
    by_cases hk : k = f
    · rw [if_pos hk, List.length_cons, List.length_cons]; omega
    · rw [if_neg hk, List.length_cons, List.length_cons]; omega

theorem RelO.some_of {v : V} {o : Option Value} (r : RelO (some v) o) : ∃ u, o = some u ∧ RelV v u := by
  cases o with
  | none => exact (show False from r).elim
  | some u => exact ⟨u, rfl, r⟩
theorem RelO.none_of {o : Option Value} (r : RelO none o) : o = none := by
  cases o with
  | none => rfl
  | some u => exact (show False from r).elim
theorem handed_of {v : V} {u : Value} (r : RelV v u) : PySem.W.handedIn u = true := by
  cases v with
  | non => cases (show u = Value.none from r); rfl
  | bl b => cases (show u = Value.bool b from r); rfl
  | int i => obtain ⟨t, e⟩ := (show ∃ t, u = Value.int i t from r); cases e; rfl
  | str x => obtain ⟨t, e⟩ := (show ∃ t, u = Value.str x t from r); cases e; rfl
  | byt b => obtain ⟨t, e⟩ := (show ∃ t, u = Value.bytes b t from r); cases e; rfl
  | flt b => obtain ⟨t, e⟩ := (show ∃ t, u = Value.float b t from r); cases e; rfl
  | ref a => cases (show u = Value.ref a from r); rfl
  | ty n => cases (show u = Value.type n from r); rfl

section
variable {P : Program} {w : World} {H H' : Hp} {h h' : Heap} {a C dx : Addr} {fs fs' : List (Str × V)}
theorem ins_get (hok : HOk P w H h) (e : H a = some (.ins C dx fs)) : ∃ mA, ObjM h a dx C mA ∧ (∀ f, RelO (fs.lookup f) (mA f)) ∧ PySem.Within mA (fs.map (·.1)) ∧ fs.length ≤ 1000 ∧ H dx = some (.own a) := by
  obtain ⟨d, z, ne, ob, mA, n, r, q⟩ := (show ObjOk P w H h a (.ins C dx fs) from hok a _ e)
  exact ⟨mA, ⟨ob, n, ne⟩, r, q, z, d⟩
end

/-! ### what of the text a class must have -/
structure Cls (K : PySem.W.Frag) (C : Addr) : Prop where
  pg : PySem.W.plainGet K C Str.empty = true
  hd : PySem.W.hasDictIn K C = true
  po : PySem.W.plainOver K C = true
  sa : PySem.W.findIn K (.ref C) "__setattr__" = some (some (.builtin "object.__setattr__"))
theorem Cls.get {K : PySem.W.Frag} {C : Addr} (c : Cls K C) (f : Str) : PySem.W.plainGet K C f = true := c.pg
/-- no class of it has the name -/
def NoAttr (K : PySem.W.Frag) (C : Addr) (f : Str) : Prop := PySem.W.findIn K (.ref C) f = some none
theorem NoAttr.taker {K : PySem.W.Frag} {C : Addr} {f : Str} (n : NoAttr K C f) : PySem.W.takerIn K C f = some none := by
  unfold PySem.W.takerIn
  rw [show PySem.W.findIn K (.ref C) f = some none from n]
  rfl
/-- a constant of the class -/
structure Con (K : PySem.W.Frag) (C : Addr) (f : Str) (v : V) (u : Value) : Prop where
  at_ : PySem.W.findIn K (.ref C) f = some (some u)
  rel : RelV v u
  get : PySem.W.specialIn K u "__get__" = some none
  cp : PySem.W.copiedNames.contains f = false
/-- a method: a plain def of the class or of one above it -/
structure Meth (K : PySem.W.Frag) (C : Addr) (m : Str) (f : Addr) : Prop where
  at_ : PySem.W.findIn K (.ref C) m = some (some (.ref f))
  fn : PySem.W.isFn K (.ref f) = true
  kp : PySem.W.keepIn K (.ref f) = true

section
variable {X : Cx} {pins : List (Addr × Obj)} {σ : St} {H : Hp} {s : Shared} {a C dx : Addr} {fs : List (Str × V)} {f : Str} {v : V} {A : Around} {E : Value → Shared → Prop}

theorem getattr_ok {b : Bool} {Q : Value → Shared → Prop} (I : Inv X pins σ H s) (e : H a = some (.ins C dx fs)) (c : Cls X.K C) (n : NoAttr X.K C f) (l : fs.lookup f = some v)
    (h : ∀ u s', Inv X pins σ H s' → RelV v u → Q u s') : wpAny (model X.prog X.w) A (getAttr (.ref a) f b) Q E s := by
  obtain ⟨mA, O, r, _, _, _⟩ := ins_get I.hok e
  obtain ⟨u, hu, ru⟩ := RelO.some_of (v := v) (o := mA f) (by rw [← l]; exact r f)
  exact get_map I.kIn O (c.get f) c.hd n hu (handed_of ru) (h u _ (I.tok _) ru)

theorem getcon_ok {b : Bool} {u : Value} {Q : Value → Shared → Prop} (I : Inv X pins σ H s) (e : H a = some (.ins C dx fs)) (c : Cls X.K C) (k : Con X.K C f v u) (l : fs.lookup f = none)
    (h : ∀ s', Inv X pins σ H s' → Q u s') : wpAny (model X.prog X.w) A (getAttr (.ref a) f b) Q E s := by
  obtain ⟨mA, O, r, _, _, _⟩ := ins_get I.hok e
  have hn : mA f = none := RelO.none_of (by rw [← l]; exact r f)
  exact get_const I.kIn O (c.get f) c.hd k.at_ k.get k.cp hn (handed_of k.rel) (h _ (I.tok _))

theorem getmeth_ok {m : Str} {g : Addr} {pl : Sem Bool} {Q : Value × List Value → Shared → Prop} (I : Inv X pins σ H s) (e : H a = some (.ins C dx fs)) (c : Cls X.K C) (k : Meth X.K C m g) (l : fs.lookup m = none)
    (h : Q (.ref g, [.ref a]) s) : wpAny (model X.prog X.w) A (getMethod (.ref a) m pl) Q E s := by
  obtain ⟨mA, O, r, _, _, _⟩ := ins_get I.hok e
  have hn : mA m = none := RelO.none_of (by rw [← l]; exact r m)
  exact get_meth I.kIn O (c.get m) k.at_ k.fn hn h

theorem setattr_ok {y : V} {u : Value} {Q : Unit → Shared → Prop} (I : Inv X pins σ H s) (e : H a = some (.ins C dx fs)) (c : Cls X.K C) (n : NoAttr X.K C f) (hl : fs.length < 1000) (ry : RelV y u)
    (h : ∀ s', Inv X pins σ (upd H a (.ins C dx (putF f y fs))) s' → Q () s') : wpAny (model X.prog X.w) A (setAttr (.ref a) f u) Q E s := by
  obtain ⟨mA, O, r, wi, _, ho⟩ := ins_get I.hok e
  have hz : (fs.map (·.1)).length ≤ sizeLine := by rw [List.length_map, sizeLine_eq]; omega
  refine set_map I.kIn O c.sa c.po n.taker c.hd wi hz fun h' O' sb => h _ ?_
  have hd : ∃ o, h'.get? dx = some o := let ⟨o, _, _, e', _⟩ := O'.ns; ⟨o, e'⟩
  refine I.write (x := a) (e := dx) (by rw [e]; exact True.intro) (.inr ho) (fun b q hb z => (sb.2 b hb).trans z) hd ?_
  refine ⟨by rw [upd_ne O.ne]; exact ho, ?_, O.ne, O'.obj, _, O'.ns, fun g => ?_, fun g hg => ?_⟩
  · have := length_putF f y fs; omega
  · show RelO ((putF f y fs).lookup g) (if g = f then some u else mA g)
    rw [lookup_putF]
    by_cases q : g = f
    · rw [if_pos q, if_pos q]; exact ry
    · rw [if_neg q, if_neg q]; exact r g
  · by_cases q : g = f
    · rw [q]; exact (keys_putF f y fs).1
    · refine (keys_putF f y fs).2 g (wi g fun z => hg ?_)
      show (if g = f then some u else mA g) = none
      rw [if_neg q]; exact z

/-- a new instance, tracked, without attributes -/
theorem Inv.made (I : Inv X pins σ H s) : Inv X pins σ (upd (upd H s.heap.objs.size (.own (s.heap.objs.size + 1))) (s.heap.objs.size + 1) (.ins C s.heap.objs.size []))
    { s with heap := (s.heap.push PySem.W.emptyDict).push (PySem.W.instObj C s.heap.objs.size) } := by
  have e1 : (s.heap.push PySem.W.emptyDict).get? s.heap.objs.size = some PySem.W.emptyDict := Heap.get?_push_size s.heap rfl
  have e2 : ((s.heap.push PySem.W.emptyDict).push (PySem.W.instObj C s.heap.objs.size)).get? (s.heap.objs.size + 1) = some (PySem.W.instObj C s.heap.objs.size) := by
    have := Heap.get?_push_size (s.heap.push PySem.W.emptyDict) (o := PySem.W.instObj C s.heap.objs.size) rfl
    rwa [Heap.size_push] at this
  have e3 : (s.heap.push PySem.W.emptyDict).Ns s.heap.objs.size (fun _ => none) := ⟨PySem.W.emptyDict, #[], _, e1, rfl, (fun e he => absurd he (by simp)), fun _ => rfl⟩
  have I1 := I.laid (a := s.heap.objs.size) (o := .own (s.heap.objs.size + 1)) (h' := s.heap.push PySem.W.emptyDict) (t' := s.toks) (fun b u q => Heap.get?_push_of_some _ q) (Nat.le_refl _) ⟨_, e1⟩
  refine I1.laid (a := s.heap.objs.size + 1) (o := .ins C s.heap.objs.size []) (t' := s.toks) (fun b u q => Heap.get?_push_of_some _ q) (Nat.le_of_eq (Heap.size_push _ _)) ?_
  have ne : s.heap.objs.size ≠ s.heap.objs.size + 1 := Nat.ne_of_lt (Nat.lt_succ_self _)
  refine ⟨by rw [upd_ne ne, upd_same], Nat.zero_le _, ne, e2, fun _ => none, (Heap.Ns1.of_empty e3).at fun o q => Heap.get?_push_of_some _ q, fun _ => True.intro, fun y hy => absurd rfl hy⟩

/-- e.f where nothing but the object is asked: through attributeBase (super) and the last hold -/
theorem attr_of {prog : Program} {w : World} {env : Env} {e : Expr} {f : Str} {pos : Pos} {s : Shared} {Q : Value → Shared → Prop} (hb : attributeBase e f env (eval e env) = eval e env)
    (h : wpAny (model prog w) A (eval e env) (fun o s₁ => wpAny (model prog w) A (getAttr o f true) Q E s₁) E s) : wpAny (model prog w) A (eval (.Attribute e f pos) env) Q E s :=
  Attribute_any_ h (by rw [arm_eval_Attribute, hb])
end

/-! ### readings and rules -/
/-- e.f, an attribute of the instance -/
def tFld (K : PySem.W.Frag) (ta : TE) (f : Str) : TE := fun σ H Q => ta σ H fun x H1 => ∃ a C dx fs v, x = .ref a ∧ H1 a = some (.ins C dx fs) ∧ Cls K C ∧ NoAttr K C f ∧ fs.lookup f = some v ∧ Q v H1
/-- e.f, a constant of the class -/
def tCon (K : PySem.W.Frag) (ta : TE) (f : Str) : TE := fun σ H Q => ta σ H fun x H1 => ∃ a C dx fs v u, x = .ref a ∧ H1 a = some (.ins C dx fs) ∧ Cls K C ∧ Con K C f v u ∧ fs.lookup f = none ∧ Q v H1
/-- e.f = value -/
def sFld (K : PySem.W.Frag) (ta tv : TE) (f : Str) : TS := fun D σ H => tv σ H fun y H1 => ta σ H1 fun x H2 => ∃ a C dx fs, x = .ref a ∧ H2 a = some (.ins C dx fs) ∧ Cls K C ∧ NoAttr K C f ∧ fs.length < 1000 ∧
  D.nx σ (upd H2 a (.ins C dx (putF f y fs)))
/-- an augmented operator on two values -/
def InOp (X : Cx) (op : Operator) (rd : V → V → Hp → VK → Prop) : Prop :=
  ∀ (pins : List (Addr × Obj)) (s : Shared) (σ : St) (H : Hp) (x y : V) (u v : Value) (Q : VK), Inv X pins σ H s → RelV x u → RelV y v → rd x y H Q → wpAny (model X.prog X.w) X.A (inplaceOp op u v) (EP X pins σ Q) X.xe s
/-- e.f op= value -/
def sFldAug (K : PySem.W.Frag) (ta tv : TE) (rd : V → V → Hp → VK → Prop) (f : Str) : TS := fun D σ H => ta σ H fun x H1 => ∃ a C dx fs v, x = .ref a ∧ H1 a = some (.ins C dx fs) ∧ Cls K C ∧ NoAttr K C f ∧ fs.lookup f = some v ∧
  tv σ H1 fun y H2 => rd v y H2 fun z H3 => ∃ dx' fs', H3 a = some (.ins C dx' fs') ∧ fs'.length < 1000 ∧ D.nx σ (upd H3 a (.ins C dx' (putF f z fs')))

section
variable {X : Cx} {o e value : Expr} {f : Str} {pos pos' tpos : Pos} {ta tv : TE}
theorem pe_fld (he : PE X e ta) (hb : attributeBase e f X.env (eval e X.env) = eval e X.env) : PE X (.Attribute e f pos) (tFld X.K ta f) := by
  intro pins s σ H Q I h
  refine attr_of hb (thn (he pins s σ H _ I h) fun u s1 ⟨x, H1, I1, rx, a, C, dx, fs, v, ex, ea, c, n, l, q⟩ => ?_)
  subst ex
  obtain rfl : u = Value.ref a := rx
  exact getattr_ok I1 ea c n l fun u' s2 I2 ru => ⟨v, H1, I2, ru, q⟩
theorem pe_con (he : PE X e ta) (hb : attributeBase e f X.env (eval e X.env) = eval e X.env) : PE X (.Attribute e f pos) (tCon X.K ta f) := by
  intro pins s σ H Q I h
  refine attr_of hb (thn (he pins s σ H _ I h) fun u s1 ⟨x, H1, I1, rx, a, C, dx, fs, v, u0, ex, ea, c, k, l, q⟩ => ?_)
  subst ex
  obtain rfl : u = Value.ref a := rx
  exact getcon_ok I1 ea c k l fun s2 I2 => ⟨v, H1, I2, k.rel, q⟩
theorem ps_fld (ha : PE X o ta) (hv : PE X value tv) (hs : swapsWith value (some (.Attribute o f pos')) pos.line X.env = pure false) : PS X (.Assign [.Attribute o f pos'] value pos) (sFld X.K ta tv f) := by
  intro pins s σ H D I h
  refine plainObj_wpAny_Assign_Attribute (thn (hv pins s σ H _ I h) fun u s1 ⟨y, H1, I1, ry, q⟩ => thn (ha pins s1 σ H1 _ I1 q) fun ov s2 ⟨x, H2, I2, rx, a, C, dx, fs, ex, ea, c, n, l, q2⟩ => ?_) hs
  subst ex
  obtain rfl : ov = Value.ref a := rx
  exact setattr_ok I2 ea c n l ry fun s3 I3 => ⟨σ, _, I3, q2⟩
theorem ps_fldaug {op : Operator} {rd : V → V → Hp → VK → Prop} (ha : PE X o ta) (hv : PE X value tv) (hop : InOp X op rd) : PS X (.AugAssign (.Attribute o f tpos) op value pos) (sFldAug X.K ta tv rd f) := by
  intro pins s σ H D I h
  refine wpAny_AugAssign_AttributeAny (thn (ha pins s σ H _ I h) fun ov s1 ⟨x, H1, I1, rx, a, C, dx, fs, v, ex, ea, c, n, l, q⟩ => ?_)
  subst ex
  obtain rfl : ov = Value.ref a := rx
  refine getattr_ok I1 ea c n l fun u s2 I2 ru => thn (hv pins s2 σ H1 _ I2 q) fun w3 s3 ⟨y, H2, I3, ry, q3⟩ => thn (hop pins s3 σ H2 v y u w3 _ I3 ru ry q3) fun w4 s4 ⟨z, H3, I4, rz, dx', fs', ea', l', q4⟩ => ?_
  exact setattr_ok I4 ea' c n l' rz fun s5 I5 => ⟨σ, _, I5, q4⟩
def rAdd : V → V → Hp → VK → Prop := fun x y H Q => ∃ i j, x = .int i ∧ y = .int j ∧ Q (.int (i + j)) H
def rSub : V → V → Hp → VK → Prop := fun x y H Q => ∃ i j, x = .int i ∧ y = .int j ∧ Q (.int (i - j)) H
theorem in_add : InOp X .Add rAdd := by
  rintro pins s σ H x y u v Q I rx ry ⟨i, j, rfl, rfl, q⟩
  obtain ⟨t, rfl⟩ := (show ∃ t, u = Value.int i t from rx)
  obtain ⟨t', rfl⟩ := (show ∃ t', v = Value.int j t' from ry)
  exact PyProof.Rows.iadd_int ⟨.int (i + j), H, I.tok _, ⟨_, rfl⟩, q⟩
theorem in_sub : InOp X .Sub rSub := by
  rintro pins s σ H x y u v Q I rx ry ⟨i, j, rfl, rfl, q⟩
  obtain ⟨t, rfl⟩ := (show ∃ t, u = Value.int i t from rx)
  obtain ⟨t', rfl⟩ := (show ∃ t', v = Value.int j t' from ry)
  exact PyProof.Rows.isub_int ⟨.int (i - j), H, I.tok _, ⟨_, rfl⟩, q⟩

/-- what is between an instance and its method: the tree of a method call -/
theorem methcall_of {pl : Sem Bool} {m : Str} {apos : Pos} {args : List Expr} {pins : List (Addr × Obj)} {s : Shared} {σ : St} {H : Hp} {Q : Value → Shared → Prop} {te : TE} (he : PE X e te) (I : Inv X pins σ H s)
    (h : te σ H fun x H1 => ∃ a C dx fs g, x = .ref a ∧ H1 a = some (.ins C dx fs) ∧ Cls X.K C ∧ Meth X.K C m g ∧ fs.lookup m = none ∧
      ∀ s1, Inv X pins σ H1 s1 → wpAny (model X.prog X.w) X.A (callWith pos (.ref g) [.ref a] (backTo pos (starEach args X.env)) (backToKw pos (keywordEach [] X.env))) Q X.xe s1)
    (ht : eval (.Call (.Attribute e m apos) args [] pos) X.env = (do
      let ov ← eval e X.env
      standAt apos.atName
      let (f, first) ← holding [ov] (getMethod ov m pl)
      callWith pos f first (backTo pos (starEach args X.env)) (backToKw pos (keywordEach [] X.env)))) :
    wpAny (model X.prog X.w) X.A (eval (.Call (.Attribute e m apos) args [] pos) X.env) Q X.xe s := by
  refine PySem.W.methodCall_KW (pl := pl) (thn (he pins s σ H _ I h) fun u s1 ⟨x, H1, I1, rx, a, C, dx, fs, g, ex, ea, c, k, l, q⟩ => ?_) ht
  subst ex
  obtain rfl : u = Value.ref a := rx
  exact getmeth_ok I1 ea c k l (q s1 I1)
end

/-! ### isinstance -/
section
variable {X : Cx} {pins : List (Addr × Obj)} {σ : St} {H : Hp} {s : Shared} {A : Around} {E : Value → Shared → Prop} {Q : Value → Shared → Prop} {c : Value} {b : Bool}
/-- the type of a value, as the fragment's deciders take it; for an instance its class -/
inductive TyOf (K : PySem.W.Frag) (H : Hp) : V → Value → Prop where
  | non : TyOf K H .non (.type "NoneType")
  | bl (x : Bool) : TyOf K H (.bl x) (.type "bool")
  | int (i : Int) : TyOf K H (.int i) (.type "int")
  | str (x : Str) : TyOf K H (.str x) (.type "str")
  | flt (x : UInt64) : TyOf K H (.flt x) (.type "float")
  | lst {a : Addr} {xs : List V} (e : H a = some (.lst xs)) : TyOf K H (.ref a) (.type "list")
  | frz {a : Addr} {o : Obj} {xs : List V} (e : H a = some (.frz o (.lst xs))) : TyOf K H (.ref a) (.type "list")
  | tup {a : Addr} {xs : List V} (e : H a = some (.tup xs)) : TyOf K H (.ref a) (.type "tuple")
  | dK {a : Addr} {kvs : List (Key × V)} (e : H a = some (.dK kvs)) : TyOf K H (.ref a) (.type "dict")
  | dT {a : Addr} {kvs : List (List Key × V)} (e : H a = some (.dT kvs)) : TyOf K H (.ref a) (.type "dict")
  | ins {a C dx : Addr} {fs : List (Str × V)} (e : H a = some (.ins C dx fs)) (cl : Cls K C) (ha : PySem.W.findIn K (.ref C) "__class__" = some (some (.builtin "object.__class__")))
      (hn : PySem.W.specialIn K (.builtin "object.__class__") "__get__" = some (some (.builtin "getset_descriptor.__get__"))) (htk : PySem.W.takesIn K (.builtin "object.__class__") = some true)
      (hm : PySem.W.mroIn K C (.type "object") = some true) : TyOf K H (.ref a) (.ref C)
/-- isinstance(x, c) for one class c, a built-in or an own one: kitOne's answer -/
theorem isinst_ok {x : V} {u t : Value} (I : Inv X pins σ H s) (rx : RelV x u) (ty : TyOf X.K H x t) (e : PySem.W.kitOne X.K t c = some b) (h : ∀ tk, Q (.bool b) { s with toks := tk }) :
    wpAny (model X.prog X.w) A (call (.builtin "isinstance") [u, c]) Q E s := by
  cases ty with
  | non => cases (show u = Value.none from rx); exact PySem.W.kia_one PySem.W.kitx_none I.kIn True.intro e (fun z => nomatch z) h
  | bl y => cases (show u = Value.bool y from rx); exact PySem.W.kia_one PySem.W.kitx_bool I.kIn True.intro e (fun z => nomatch z) h
  | int i => obtain ⟨t, q⟩ := (show ∃ t, u = Value.int i t from rx); cases q; exact PySem.W.kia_one PySem.W.kitx_int I.kIn True.intro e (fun z => nomatch z) h
  | str y => obtain ⟨t, q⟩ := (show ∃ t, u = Value.str y t from rx); cases q; exact PySem.W.kia_one PySem.W.kitx_str I.kIn True.intro e (fun z => nomatch z) h
  | flt y => obtain ⟨t, q⟩ := (show ∃ t, u = Value.float y t from rx); cases q; exact PySem.W.kia_one PySem.W.kitx_float I.kIn True.intro e (fun z => nomatch z) h
  | @lst a xs ea =>
    cases (show u = Value.ref a from rx)
    obtain ⟨_, _, n, _, h1⟩ := (show ObjOk X.prog X.w H s.heap a (.lst xs) from I.hok a _ ea)
    exact PySem.W.kia_one PySem.W.kitx_list I.kIn ⟨_, h1, rfl⟩ e (fun z => nomatch z) h
  | @frz a ob xs ea =>
    cases (show u = Value.ref a from rx)
    obtain ⟨_, _, _, n, _, h1⟩ := (show ObjOk X.prog X.w H s.heap a (.frz ob (.lst xs)) from I.hok a _ ea)
    exact PySem.W.kia_one PySem.W.kitx_list I.kIn ⟨_, h1, rfl⟩ e (fun z => nomatch z) h
  | @tup a xs ea =>
    cases (show u = Value.ref a from rx)
    obtain ⟨_, _, _, p⟩ := (show ObjOk X.prog X.w H s.heap a (.tup xs) from I.hok a _ ea)
    obtain ⟨o, h1, h2, _⟩ := p
    exact PySem.W.kia_one PySem.W.kitx_tuple I.kIn ⟨o, h1, h2⟩ e (fun z => nomatch z) h
  | @dK a kvs ea =>
    cases (show u = Value.ref a from rx)
    obtain ⟨_, _, vs, _, p⟩ := (show ObjOk X.prog X.w H s.heap a (.dK kvs) from I.hok a _ ea)
    obtain ⟨o, es, ep, h1, h2, _⟩ := p
    exact PySem.W.kia_one PySem.W.kitx_dict I.kIn ⟨o, h1, h2.1⟩ e (fun z => nomatch z) h
  | @dT a kvs ea =>
    cases (show u = Value.ref a from rx)
    obtain ⟨_, _, xs, _, o, es, ep, h1, h2, _⟩ := (show ObjOk X.prog X.w H s.heap a (.dT kvs) from I.hok a _ ea)
    exact PySem.W.kia_one PySem.W.kitx_dict I.kIn ⟨o, h1, h2.1⟩ e (fun z => nomatch z) h
  | @ins a C dx fs ea cl ha hn htk hm =>
    cases (show u = Value.ref a from rx)
    obtain ⟨mA, O, _⟩ := ins_get I.hok ea
    obtain ⟨od, J, _⟩ := O.look
    exact PySem.W.kia_one (PySem.W.kitx_own (cl.get _) cl.hd ha hn htk hm) I.kIn J e (fun z => nomatch z) h
end
end L2

namespace L2
open PySem PySem.Spec PyProof.Rows

/-! ### room -/
structure Room (k : Nat) (A : Around) : Prop where
  hd : A.handled = none
  dp : A.depth + 3 * k + 5 < recursionLimit
  un : A.units + 16 * k + 200 < cLine
theorem Room.mono {j k : Nat} {A : Around} (r : Room k A) (h : j ≤ k) : Room j A := ⟨r.hd, by have := r.dp; omega, by have := r.un; omega⟩
theorem Room.deeper {k : Nat} {A : Around} (r : Room (k + 1) A) (env : Env) : Room k (A.deeper env) :=
  ⟨r.hd, by have := r.dp; show A.depth + 1 + 3 * k + 5 < _; omega, by have := r.un; show A.units + 3 + 16 * k + 200 < _; omega⟩
theorem Room.in1 {k : Nat} {A : Around} (r : Room (k + 1) A) : Room k A.in1 :=
  ⟨r.hd, by have := r.dp; show A.depth + 3 * k + 5 < _; omega, by have := r.un; show A.units + 1 + 16 * k + 200 < _; omega⟩
theorem make_depth {A : Around} {C : Addr} {us : List Value} {kw : List (Str × Value)} : (A.under (.builtin "type.__call__" ⟨.ref C :: us, kw⟩)).depth = A.depth + 1 := by
  first | rfl | simp [Around.under, Code.weight, Code.isCreation, Code.isGuard, Code.isCaller, Code.frames, Code.isFrame, guardIds]
theorem make_units {A : Around} {C : Addr} {us : List Value} {kw : List (Str × Value)} : (A.under (.builtin "type.__call__" ⟨.ref C :: us, kw⟩)).units = A.units + 1 := by
  first | rfl | simp [Around.under, Code.cUnits, Code.frames, Code.isFrame]
theorem Room.make {k : Nat} {A : Around} (r : Room (k + 1) A) (C : Addr) (us : List Value) (kw : List (Str × Value)) : Room k (A.under (.builtin "type.__call__" ⟨.ref C :: us, kw⟩)) :=
  ⟨r.hd, by have := r.dp; rw [make_depth]; omega, by have := r.un; rw [make_units]; omega⟩
theorem Room.depth {k : Nat} {A : Around} (r : Room k A) : A.depth < recursionLimit := by have := r.dp; omega
theorem Room.units {k : Nat} {A : Around} (r : Room k A) : A.units + 64 < cLine := by have := r.un; omega
theorem Room.units0 {k : Nat} {A : Around} (r : Room k A) : A.units < cLine := by have := r.un; omega

/-! ### argument lists and displays -/
def tNil : TA := fun _ H Q => Q [] H
def tCons (ta : TE) (tr : TA) : TA := fun σ H Q => ta σ H fun x H1 => tr σ H1 fun xs H2 => Q (x :: xs) H2
section
variable {X : Cx} {e : Expr} {es : List Expr} {te : TE} {t : TA} {pos : Pos}
theorem pa_nil : PA X [] tNil := fun _ _ _ _ H Q I h => Calls.spliced_nil ⟨[], H, I, .nil, h⟩
theorem pa_cons (ha : PE X e te) (hr : PA X es t) (hs : starEach (e :: es) X.env = (false, eval e X.env) :: starEach es X.env := by rfl) : PA X (e :: es) (tCons te t) := by
  intro pos pins s σ H Q I h
  rw [hs]
  show wpAny _ _ (spliced ((false, eval e X.env) :: backTo pos (starEach es X.env))) _ _ s
  refine Calls.spliced_cons (thn (ha pins s σ H _ I h) fun u s1 ⟨x, H1, I1, r1, q1⟩ => ?_)
  exact thn (hr pos pins s1 σ H1 _ I1 q1) fun us s2 ⟨xs, H2, I2, r2, q2⟩ => ⟨x :: xs, H2, I2, .cons r1 r2, q2⟩

/-- a tuple, a list of written items -/
def tTup (t : TA) : TE := fun σ H Q => t σ H fun xs H1 => xs.length ≤ sizeLine ∧ ∀ p, H1 p = none → Q (.ref p) (upd H1 p (.tup xs))
def tLst (t : TA) : TE := fun σ H Q => t σ H fun xs H1 => xs.length ≤ sizeLine ∧ ∀ p, H1 p = none → Q (.ref p) (upd H1 p (.lst xs))
theorem pe_tup {x1} (h : PA X es t) : PE X (.Tuple es x1 pos) (tTup t) := by
  intro pins s σ H Q I hq
  refine wpAny_Tuple_spliced (thn (h pos pins s σ H _ I hq) fun us s1 ⟨xs, H1, I1, r, z, q⟩ => ⟨by rw [← r.length]; exact z, ?_⟩)
  have hf : H1 s1.heap.objs.size = none := I1.hok.fresh (Nat.le_refl _)
  refine ⟨.ref s1.heap.objs.size, upd H1 s1.heap.objs.size (.tup xs), I1.laid (t' := s1.toks) (fun b u e => Heap.get?_push_of_some _ e) (Nat.le_refl _) ?_, rfl, q _ hf⟩
  exact ⟨z, us, r, ⟨_, Heap.get?_push_size _ rfl, rfl, _, rfl⟩⟩
theorem pe_lst (h : PA X es t) : PE X (.List es pos) (tLst t) := by
  intro pins s σ H Q I hq
  refine wpAny_List_spliced (thn (h pos pins s σ H _ I hq) fun us s1 ⟨xs, H1, I1, r, z, q⟩ => ⟨by rw [← r.length]; exact z, ?_⟩)
  have hf : H1 s1.heap.objs.size = none := I1.hok.fresh (Nat.le_refl _)
  refine ⟨.ref s1.heap.objs.size, upd H1 s1.heap.objs.size (.lst xs), I1.laid (t' := s1.toks) (fun b u e => Heap.get?_push_of_some _ e) (Nat.le_refl _) ?_, rfl, q _ hf⟩
  exact ⟨z, us, 0, r, Heap.get?_push_size _ rfl⟩
end

/-! ### what a def promises -/
/-- a def's promise: the bound arguments in the parameters' order, the heap, the wanted end, the wanted exception -/
abbrev Sp := List V → Hp → VK → XK → Prop
/-- how an exception lies behind a call (file 08 gives it): the callers' frames, abstract heap and state ahead of the call, the wish, the exception, the state -/
abbrev CXT := List Env → Hp → Shared → XK → Value → Shared → Prop

/-- the state at a call -/
structure Env0 (P : Program) (w : World) (K : PySem.W.Frag) (mg : Str → Option Value) (base : Heap) (A : Around) (outer : List Env) (s : Shared) (H : Hp) : Prop where
  frames : A.frames = some outer
  mod : Mod K mg base
  bs : ∀ b o, base.get? b = some o → s.heap.get? b = some o ∧ H b = none
  bsz : base.objs.size ≤ s.heap.objs.size
  funs : s.heap.FunFrames base outer
  frf : ∀ b ∈ frs outer, H b = none
  hok : HOk P w H s.heap
  bare : AllBare s.gens
/-- a call's end -/
def CE (outer : List Env) (P : Program) (w : World) (H : Hp) (s : Shared) (Q : VK) (u : Value) (s' : Shared) : Prop :=
  ∃ v H', s'.os = s.os ∧ AllBare s'.gens ∧ Un (frs outer) [] H H' s.heap s'.heap ∧ HOk P w H' s'.heap ∧ RelV v u ∧ Q v H'
def CR (CX : CXT) (outer : List Env) (P : Program) (w : World) (H : Hp) (s : Shared) (Q : VK) (E : XK) (r : Result) (s' : Shared) : Prop :=
  match r with
  | .ok (.ret u) => CE outer P w H s Q u s'
  | .ok _ => False
  | .error e => CX outer H s E e s'
structure FnOk (P : Program) (w : World) (K : PySem.W.Frag) (mg : Str → Option Value) (base : Heap) (CX : CXT) (k : Nat) (f : Addr) (fd : FuncData) (ps : List Str) (sp : Sp) : Prop where
  len : ∀ vs H Q E, sp vs H Q E → vs.length = ps.length
  run : ∀ (A : Around) (outer : List Env) (s : Shared) (H : Hp) (args : Args) (us : List Value) (vs : List V) (Q : VK) (E : XK), Room k A → Env0 P w K mg base A outer s H → BindsTo s fd args (ps.zip us) → Vals vs us → sp vs H Q E →
    codeAny (model P w) A (.call (.ref f) args) (CR CX outer P w H s Q E) s
theorem FnOk.mono {P : Program} {w : World} {K : PySem.W.Frag} {mg : Str → Option Value} {base : Heap} {CX : CXT} {j k : Nat} {f : Addr} {fd : FuncData} {ps : List Str} {sp : Sp} (F : FnOk P w K mg base CX j f fd ps sp) (h : j ≤ k) :
    FnOk P w K mg base CX k f fd ps sp := ⟨F.len, fun A outer s H args us vs Q E hr => F.run A outer s H args us vs Q E (hr.mono h)⟩
/-- a weaker promise -/
theorem FnOk.imp {P : Program} {w : World} {K : PySem.W.Frag} {mg : Str → Option Value} {base : Heap} {CX : CXT} {k : Nat} {f : Addr} {fd : FuncData} {ps : List Str} {sp sp' : Sp} (F : FnOk P w K mg base CX k f fd ps sp)
    (h : ∀ vs H Q E, sp' vs H Q E → sp vs H Q E) : FnOk P w K mg base CX k f fd ps sp' :=
  ⟨fun vs H Q E q => F.len vs H Q E (h _ _ _ _ q), fun A outer s H args us vs Q E hr he hb hv hs => F.run A outer s H args us vs Q E hr he hb hv (h _ _ _ _ hs)⟩

theorem Env0.make {P : Program} {w : World} {K : PySem.W.Frag} {mg : Str → Option Value} {base : Heap} {A : Around} {outer : List Env} {s : Shared} {H : Hp} (e : Env0 P w K mg base A outer s H) (C : Addr) (us : List Value) (kw : List (Str × Value)) :
    Env0 P w K mg base (A.under (.builtin "type.__call__" ⟨.ref C :: us, kw⟩)) outer s H := ⟨by first | exact e.frames | (simpa [Around.under, Code.envs, Code.isFrame, pushEnvs] using e.frames), e.mod, e.bs, e.bsz, e.funs, e.frf, e.hok, e.bare⟩
theorem Env0.in1 {P : Program} {w : World} {K : PySem.W.Frag} {mg : Str → Option Value} {base : Heap} {A : Around} {outer : List Env} {s : Shared} {H : Hp} (e : Env0 P w K mg base A outer s H) :
    Env0 P w K mg base A.in1 outer s H := ⟨e.frames, e.mod, e.bs, e.bsz, e.funs, e.frf, e.hok, e.bare⟩

section
variable {X : Cx} {pins : List (Addr × Obj)} {σ : St} {H : Hp} {s s' : Shared}
/-- from a body: what a callee wants -/
theorem Inv.env0 (I : Inv X pins σ H s) : Env0 X.prog X.w X.K X.mg X.base X.A X.stack s H :=
  ⟨I.ok.frames, I.ok.mod, I.bs, Nat.le_trans I.ok.bsz I.sz, I.stack, I.stkFree, I.hok, I.bare⟩
/-- behind a call -/
theorem Inv.after {Q : VK} {u : Value} (I : Inv X pins σ H s) (h : CE X.stack X.prog X.w H s Q u s') : EP X pins σ Q u s' := by
  obtain ⟨v, H', os, bare, un, hok, r, q⟩ := h
  obtain ⟨hh, g, d, t, os'⟩ := s'
  obtain rfl : os' = s.os := os
  exact ⟨v, H', I.call (h' := hh) (g' := g) (d' := d) (t' := t) (ch := []) un hok bare (fun b z => absurd z (by simp)), r, q⟩
end

/-! ### calls -/
/-- f(..): the written arguments, then the defaults dvs; E: what is wanted of an exception -/
def tCall (sp : Sp) (dvs : List V) (E : XK) (t : TA) : TE := fun σ H Q => t σ H fun vs H1 => sp (vs ++ dvs) H1 Q E
/-- o.m(..) of an instance of the class at C -/
def tMeth (C : Addr) (m : Str) (sp : Sp) (dvs : List V) (E : XK) (ta : TE) (t : TA) : TE := fun σ H Q => ta σ H fun x H1 => ∃ a dx fs, x = .ref a ∧ H1 a = some (.ins C dx fs) ∧ fs.lookup m = none ∧
  t σ H1 fun vs H2 => sp (x :: (vs ++ dvs)) H2 Q E
/-- C(..): a new instance and its dict, then __init__ -/
def tMake (C : Addr) (sp : Sp) (dvs : List V) (E : XK) (t : TA) : TE := fun σ H Q => t σ H fun vs H1 => ∀ x dx, H1 x = none → H1 dx = none → dx ≠ x →
  sp (.ref x :: (vs ++ dvs)) (upd (upd H1 dx (.own x)) x (.ins C dx [])) (fun v H2 => v = .non ∧ Q (.ref x) H2) E

/-- how the parameters are bound: us the positional arguments, kw the keywords' values by name, ds the defaults that fill up -/
def Binds (K : PySem.W.Frag) (fd : FuncData) (ps : List Str) (ds : List Value) : Prop :=
  ∀ (s : Shared) (us : List Value), K.In s.heap → (us ++ ds).length = ps.length → BindsTo s fd ⟨us, []⟩ (ps.zip (us ++ ds))
/-- every parameter is given -/
theorem Binds.all {K : PySem.W.Frag} {fd : FuncData} {ps : List Str} (h : ∀ us : List Value, us.length = ps.length → bindArgs fd ⟨us, []⟩ = pure (ps.zip us)) : Binds K fd ps [] := fun s us _ hl => by
  rw [List.append_nil] at hl ⊢
  exact .of_eq (h us hl)

/-- an exception of a callee reaches what this body wants of exceptions -/
def Passes (CX : CXT) (X : Cx) (E : XK) : Prop := ∀ (pins : List (Addr × Obj)) (σ : St) (H : Hp) (s : Shared) (e : Value) (s' : Shared), Inv X pins σ H s → CX X.stack H s E e s' → X.xe e s'

section
variable {X : Cx} {CX : CXT} {k : Nat} {f C : Addr} {fd : FuncData} {ps : List Str} {sp : Sp} {dvs : List V} {ds : List Value} {E : XK} {x m : Str} {p pos apos : Pos} {e o : Expr} {es : List Expr} {ta : TE} {t : TA}

/-- the callee runs -/
theorem run_fn {pins : List (Addr × Obj)} {σ : St} {H : Hp} {s : Shared} {Q : VK} {us : List Value} {vs : List V} (F : FnOk X.prog X.w X.K X.mg X.base CX k f fd ps sp) (hr : Room k X.A) (hb : Binds X.K fd ps ds) (hd : Vals dvs ds) (hx : Passes CX X E)
    (I : Inv X pins σ H s) (r : Vals vs us) (h : sp (vs ++ dvs) H Q E) : wpAny (model X.prog X.w) X.A (call (.ref f) us) (EP X pins σ Q) X.xe s := by
  have r2 : Vals (vs ++ dvs) (us ++ ds) := r.append hd
  have hl : (us ++ ds).length = ps.length := by rw [← r2.length]; exact F.len _ _ _ _ h
  refine wpAny_call (codeAny_mono (F.run X.A X.stack s H ⟨us, []⟩ (us ++ ds) (vs ++ dvs) Q E hr I.env0 (hb s us I.kIn hl) r2 h) fun r s' hq => ?_)
  cases r with
  | error e => exact hx pins σ H s e s' I hq
  | ok fl =>
    cases fl with
    | ret u => exact I.after hq
    | next => exact False.elim hq
    | brk => exact False.elim hq
    | cont => exact False.elim hq

theorem pe_call (F : FnOk X.prog X.w X.K X.mg X.base CX k f fd ps sp) (hr : Room k X.A) (hg : Gl X x) (hm : X.mg x = some (.ref f)) (hk : PySem.W.keepIn X.K (.ref f) = true) (hb : Binds X.K fd ps ds) (hd : Vals dvs ds) (hx : Passes CX X E)
    (ha : PA X (e :: es) t) (hdb : (x == ("__debug__" : Str)) = false := by decide) (he : starEach (e :: es) X.env = (false, eval e X.env) :: starEach es X.env := by rfl) (hpl : (backTo pos (starEach es X.env)).any (·.1) = false := by rfl) :
    PE X (.Call (.Name x p) (e :: es) [] pos) (tCall sp dvs E t) := by
  intro pins s σ H Q I h
  refine wpAny_Call_Name_kw (ld_glob I hg hm ?_ hdb)
  refine PySem.W.callWith_K (h₀ := X.base) I.ok.mod.kin hk (thn (ha pos pins s σ H _ I h) fun us s1 ⟨vs, H1, I1, r, q⟩ => ⟨I1.kIn, ?_⟩) he hpl
  exact run_fn F hr hb hd hx I1 r q
theorem pe_call0 (F : FnOk X.prog X.w X.K X.mg X.base CX k f fd ps sp) (hr : Room k X.A) (hg : Gl X x) (hm : X.mg x = some (.ref f)) (hk : PySem.W.keepIn X.K (.ref f) = true) (hb : Binds X.K fd ps ds) (hd : Vals dvs ds) (hx : Passes CX X E)
    (hdb : (x == ("__debug__" : Str)) = false := by decide) : PE X (.Call (.Name x p) [] [] pos) (tCall sp dvs E tNil) := by
  intro pins s σ H Q I h
  refine wpAny_Call_Name_kw (ld_glob I hg hm ?_ hdb)
  exact PySem.W.callWith_K0 I.kIn hk (run_fn (us := []) F hr hb hd hx I .nil h)

/-- o.m(e, ..) -/
theorem pe_meth {pl : Sem Bool} (he : PE X o ta) (c : Cls X.K C) (hm : Meth X.K C m f) (F : FnOk X.prog X.w X.K X.mg X.base CX k f fd ps sp) (hr : Room k X.A) (hb : Binds X.K fd ps ds) (hd : Vals dvs ds) (hx : Passes CX X E) (ha : PA X (e :: es) t)
    (hst : starEach (e :: es) X.env = (false, eval e X.env) :: starEach es X.env := by rfl) (hpl : (backTo pos (starEach es X.env)).any (·.1) = false := by rfl)
    (ht : eval (.Call (.Attribute o m apos) (e :: es) [] pos) X.env = (do
      let ov ← eval o X.env
      standAt apos.atName
      let (f, first) ← holding [ov] (getMethod ov m pl)
      callWith pos f first (backTo pos (starEach (e :: es) X.env)) (backToKw pos (keywordEach [] X.env))) := by rfl) :
    PE X (.Call (.Attribute o m apos) (e :: es) [] pos) (tMeth C m sp dvs E ta t) := by
  intro pins s σ H Q I h
  refine PySem.W.methodCall_KW (pl := pl) (thn (he pins s σ H _ I h) fun u s1 ⟨x, H1, I1, rx, a, dx, fs, ex, ea, l, q⟩ => ?_) ht
  subst ex
  obtain rfl : u = Value.ref a := rx
  refine getmeth_ok I1 ea c hm l ?_
  refine PySem.W.callWith_K (first := [.ref a]) (h₀ := X.base) I.ok.mod.kin hm.kp (thn (ha pos pins s1 σ H1 _ I1 q) fun us s2 ⟨vs, H2, I2, r, q2⟩ => ⟨I2.kIn, ?_⟩) hst hpl
  exact run_fn (us := .ref a :: us) (vs := .ref a :: vs) F hr hb hd hx I2 (.cons rfl r) q2
/-- o.m() -/
theorem pe_meth0 {pl : Sem Bool} (he : PE X o ta) (c : Cls X.K C) (hm : Meth X.K C m f) (F : FnOk X.prog X.w X.K X.mg X.base CX k f fd ps sp) (hr : Room k X.A) (hb : Binds X.K fd ps ds) (hd : Vals dvs ds) (hx : Passes CX X E)
    (ht : eval (.Call (.Attribute o m apos) [] [] pos) X.env = (do
      let ov ← eval o X.env
      standAt apos.atName
      let (f, first) ← holding [ov] (getMethod ov m pl)
      callWith pos f first (backTo pos (starEach [] X.env)) (backToKw pos (keywordEach [] X.env))) := by rfl) :
    PE X (.Call (.Attribute o m apos) [] [] pos) (tMeth C m sp dvs E ta tNil) := by
  intro pins s σ H Q I h
  refine PySem.W.methodCall_KW (pl := pl) (thn (he pins s σ H _ I h) fun u s1 ⟨x, H1, I1, rx, a, dx, fs, ex, ea, l, q⟩ => ?_) ht
  subst ex
  obtain rfl : u = Value.ref a := rx
  refine getmeth_ok I1 ea c hm l ?_
  exact PySem.W.callWith_K0 (first := [.ref a]) I1.kIn hm.kp (run_fn (us := [.ref a]) (vs := [.ref a]) F hr hb hd hx I1 (.cons rfl .nil) q)

/-- what a class must have to be made -/
structure Mk (K : PySem.W.Frag) (C f : Addr) : Prop where
  makes : PySem.W.makesIn K C = true
  init : PySem.W.findIn K (.ref C) "__init__" = some (some (.ref f))
  fn : PySem.W.isFn K (.ref f) = true
  kp : PySem.W.keepIn K (.ref C) = true

theorem run_make {pins : List (Addr × Obj)} {σ : St} {H : Hp} {s : Shared} {Q : VK} {us : List Value} {vs : List V} (M : Mk X.K C f) (F : FnOk X.prog X.w X.K X.mg X.base CX k f fd ps sp) (hr : Room (k + 1) X.A) (hb : Binds X.K fd ps ds) (hd : Vals dvs ds)
    (hx : Passes CX X E) (I : Inv X pins σ H s) (r : Vals vs us)
    (h : ∀ x dx, H x = none → H dx = none → dx ≠ x → sp (.ref x :: (vs ++ dvs)) (upd (upd H dx (.own x)) x (.ins C dx [])) (fun v H2 => v = .non ∧ Q (.ref x) H2) E) :
    wpAny (model X.prog X.w) X.A (call (.ref C) us) (EP X pins σ Q) X.xe s := by
  have hq := h (s.heap.objs.size + 1) s.heap.objs.size (I.hok.fresh (Nat.le_succ _)) (I.hok.fresh (Nat.le_refl _)) (Nat.ne_of_lt (Nat.lt_succ_self _))
  have I2 := Inv.made (C := C) I
  have r2 : Vals (V.ref (s.heap.objs.size + 1) :: (vs ++ dvs)) (Value.ref (s.heap.objs.size + 1) :: (us ++ ds)) := .cons rfl (r.append hd)
  have hl : (Value.ref (s.heap.objs.size + 1) :: us ++ ds).length = ps.length := by
    have e := r2.length
    rw [F.len _ _ _ _ hq] at e
    exact e.symm
  refine wpAny_call (make_map (f := f) I.kIn M.makes M.init (beq_iff_eq.mp M.fn) (codeAny_mono (F.run _ X.stack _ _ ⟨Value.ref (s.heap.objs.size + 1) :: us, []⟩ (Value.ref (s.heap.objs.size + 1) :: (us ++ ds)) _ _ E (hr.make C us [])
    (I2.env0.make C us []) (hb _ (Value.ref (s.heap.objs.size + 1) :: us) I2.kIn hl) r2 hq) fun r s' hq' => ?_))
  cases r with
  | error e => exact hx pins σ _ _ e s' I2 hq'
  | ok fl =>
    cases fl with
    | ret u =>
      obtain ⟨v, H', I3, rv, ev, q3⟩ := I2.after hq'
      subst ev
      exact ⟨rv, ⟨V.ref (s.heap.objs.size + 1), H', I3, rfl, q3⟩⟩
    | next => exact False.elim hq'
    | brk => exact False.elim hq'
    | cont => exact False.elim hq'
theorem pe_make (M : Mk X.K C f) (F : FnOk X.prog X.w X.K X.mg X.base CX k f fd ps sp) (hr : Room (k + 1) X.A) (hg : Gl X x) (hm : X.mg x = some (.ref C)) (hb : Binds X.K fd ps ds) (hd : Vals dvs ds) (hx : Passes CX X E)
    (ha : PA X (e :: es) t) (hdb : (x == ("__debug__" : Str)) = false := by decide) (he : starEach (e :: es) X.env = (false, eval e X.env) :: starEach es X.env := by rfl) (hpl : (backTo pos (starEach es X.env)).any (·.1) = false := by rfl) :
    PE X (.Call (.Name x p) (e :: es) [] pos) (tMake C sp dvs E t) := by
  intro pins s σ H Q I h
  refine wpAny_Call_Name_kw (ld_glob I hg hm ?_ hdb)
  refine PySem.W.callWith_K (h₀ := X.base) I.ok.mod.kin M.kp (thn (ha pos pins s σ H _ I h) fun us s1 ⟨vs, H1, I1, r, q⟩ => ⟨I1.kIn, ?_⟩) he hpl
  exact run_make M F hr hb hd hx I1 r q
theorem pe_make0 (M : Mk X.K C f) (F : FnOk X.prog X.w X.K X.mg X.base CX k f fd ps sp) (hr : Room (k + 1) X.A) (hg : Gl X x) (hm : X.mg x = some (.ref C)) (hb : Binds X.K fd ps ds) (hd : Vals dvs ds) (hx : Passes CX X E)
    (hdb : (x == ("__debug__" : Str)) = false := by decide) : PE X (.Call (.Name x p) [] [] pos) (tMake C sp dvs E tNil) := by
  intro pins s σ H Q I h
  refine wpAny_Call_Name_kw (ld_glob I hg hm ?_ hdb)
  exact PySem.W.callWith_K0 I.kIn M.kp (run_make (us := []) M F hr hb hd hx I .nil h)
end

/-! ### keywords -/
/-- the values of the keywords, from the left -/
def PK (X : Cx) (kws : List Keyword) (t : TA) : Prop :=
  ∀ (pos : Pos) (pins : List (Addr × Obj)) (s : Shared) (σ : St) (H : Hp) (Q : List V → Hp → Prop), Inv X pins σ H s → t σ H Q → wpAny (model X.prog X.w) X.A (evalAll ((backToKw pos (keywordEach kws X.env)).map (·.2))) (AP X pins σ Q) X.xe s
section
variable {X : Cx} {CX : CXT} {k : Nat} {f C : Addr} {fd : FuncData} {ps ks : List Str} {sp : Sp} {E : XK} {x m : Str} {p pos apos kpos : Pos} {e o : Expr} {es : List Expr} {kws : List Keyword} {te ta : TE} {t tk : TA} {nm : Option Str}
theorem pk_nil : PK X [] tNil := fun _ _ _ _ H Q I h => wpAny_evalAll_nil ⟨[], H, I, .nil, h⟩
theorem pk_cons (ha : PE X e te) (hr : PK X kws t) : PK X (⟨nm, e, kpos⟩ :: kws) (tCons te t) := by
  intro pos pins s σ H Q I h
  show wpAny _ _ (evalAll ((do let v ← eval e X.env; standAt pos; pure v) :: (backToKw pos (keywordEach kws X.env)).map (·.2))) _ _ s
  refine wpAny_evalAll_cons (wpAny_bind (thn (ha pins s σ H _ I h) fun u s1 ⟨x, H1, I1, r1, q1⟩ => wpAny_bind (wpAny_standAt (wpAny_pure ?_))))
  exact thn (hr pos pins s1 σ H1 _ I1 q1) fun us s2 ⟨xs, H2, I2, r2, q2⟩ => ⟨x :: xs, H2, I2, .cons r1 r2, q2⟩

/-- how a call with keywords binds: g puts the positional values us and the keywords' values ws (names ks) in the parameters' order, defaults among them -/
structure KBinds (K : PySem.W.Frag) (fd : FuncData) (ps ks : List Str) (g : List Value → List Value → List Value) (gV : List V → List V → List V) : Prop where
  to : ∀ (s : Shared) (us ws : List Value), K.In s.heap → (g us ws).length = ps.length → BindsTo s fd ⟨us, ks.zip ws⟩ (ps.zip (g us ws))
  rel : ∀ {vs : List V} {us : List Value} {zs : List V} {ws : List Value}, Vals vs us → Vals zs ws → Vals (gV vs zs) (g us ws)
def tCallK (sp : Sp) (gV : List V → List V → List V) (E : XK) (t tk : TA) : TE := fun σ H Q => t σ H fun vs H1 => tk σ H1 fun zs H2 => sp (gV vs zs) H2 Q E
variable {g : List Value → List Value → List Value} {gV : List V → List V → List V}
theorem run_fnk {pins : List (Addr × Obj)} {σ : St} {H : Hp} {s : Shared} {Q : VK} {us ws : List Value} {vs zs : List V} (F : FnOk X.prog X.w X.K X.mg X.base CX k f fd ps sp) (hr : Room k X.A) (hb : KBinds X.K fd ps ks g gV) (hx : Passes CX X E)
    (I : Inv X pins σ H s) (r : Vals vs us) (rz : Vals zs ws) (h : sp (gV vs zs) H Q E) : wpAny (model X.prog X.w) X.A (call (.ref f) us (ks.zip ws)) (EP X pins σ Q) X.xe s := by
  have r2 := hb.rel r rz
  have hl : (g us ws).length = ps.length := by rw [← r2.length]; exact F.len _ _ _ _ h
  refine wpAny_call (codeAny_mono (F.run X.A X.stack s H ⟨us, ks.zip ws⟩ (g us ws) (gV vs zs) Q E hr I.env0 (hb.to s us ws I.kIn hl) r2 h) fun r s' hq => ?_)
  cases r with
  | error e => exact hx pins σ H s e s' I hq
  | ok fl =>
    cases fl with
    | ret u => exact I.after hq
    | next => exact False.elim hq
    | brk => exact False.elim hq
    | cont => exact False.elim hq
/-- f(e, .., k = v, ..) -/
theorem pe_callK (F : FnOk X.prog X.w X.K X.mg X.base CX k f fd ps sp) (hr : Room k X.A) (hg : Gl X x) (hm : X.mg x = some (.ref f)) (hk : PySem.W.keepIn X.K (.ref f) = true) (hb : KBinds X.K fd ps ks g gV) (hx : Passes CX X E)
    (ha : PA X (e :: es) t) (hkw : PK X kws tk) (hall : (backToKw pos (keywordEach kws X.env)).all (·.1.isSome) = true := by rfl) (hks : (backToKw pos (keywordEach kws X.env)).filterMap (·.1) = ks := by rfl)
    (hdb : (x == ("__debug__" : Str)) = false := by decide) (he : starEach (e :: es) X.env = (false, eval e X.env) :: starEach es X.env := by rfl)
    (hpl : ((backTo pos (starEach (e :: es) X.env)).any (·.1) || (backToKw pos (keywordEach kws X.env)).any (·.1.isNone)) = false := by rfl) :
    PE X (.Call (.Name x p) (e :: es) kws pos) (tCallK sp gV E t tk) := by
  intro pins s σ H Q I h
  refine wpAny_Call_Name_kw (ld_glob I hg hm ?_ hdb)
  refine PySem.W.callWith_KW (h₀ := X.base) I.ok.mod.kin hk hall (thn (ha pos pins s σ H _ I h) fun us s1 ⟨vs, H1, I1, r, q⟩ => ?_) hpl he
  refine thn (hkw pos pins s1 σ H1 _ I1 q) fun ws s2 ⟨zs, H2, I2, rz, q2⟩ => ⟨I2.kIn, ?_⟩
  rw [hks]
  exact run_fnk F hr hb hx I2 r rz q2
end

/-! ### a def's body keeps its promise -/
/-- names: the parameters first -/
structure FnScope (N P : List Str) (sc : Scope) : Prop where
  kind : sc.kind = .function
  co : sc.isCoroutine = false
  gen : sc.isGenerator = false
  nd : N.Nodup
  pre : N.take P.length = P
  par : ∀ x ∈ P, sc.names.lookup x = some .local ∨ sc.names.lookup x = some .cell
  nofree : ∀ y ∈ sc.names, y.2 ≠ .free

theorem bindL_out {kindOf : Str → Option NameKind} {x : Str} : ∀ {binds : List (Str × Value)} {m : Str → Option Value}, (∀ v, (x, v) ∉ binds) → bindL kindOf binds m x = m x
  | [], _, _ => rfl
  | (n, v) :: r, m, h => by
    unfold bindL
    rw [bindL_out fun w hw => h w (List.mem_cons_of_mem _ hw)]
    split
    · have : x ≠ n := by rintro rfl; exact h v List.mem_cons_self
      simp [this]
    · rfl
theorem bindC_out {kindOf : Str → Option NameKind} {x : Str} : ∀ {binds : List (Str × Value)} {m : Str → Option Value}, (∀ v, (x, v) ∉ binds) → bindC kindOf binds m x = m x
  | [], _, _ => rfl
  | (n, v) :: r, m, h => by
    unfold bindC
    rw [bindC_out fun w hw => h w (List.mem_cons_of_mem _ hw)]
    split
    · rfl
    · have : x ≠ n := by rintro rfl; exact h v List.mem_cons_self
      simp [this]
theorem bindL_get {kindOf : Str → Option NameKind} {x : Str} {v : Value} : ∀ {P : List Str} {vs : List Value} {i : Nat} {m : Str → Option Value}, P.Nodup → P[i]? = some x → vs[i]? = some v → kindOf x = some .local →
    bindL kindOf (P.zip vs) m x = some v
  | [], _, _, _, _, h, _, _ => by simp at h
  | _ :: _, [], _, _, _, _, h, _ => by simp at h
  | p :: P, w :: vs, 0, m, nd, h1, h2, hk => by
    simp at h1 h2; subst h1; subst h2
    show bindL kindOf ((p, w) :: P.zip vs) m p = _
    unfold bindL
    rw [bindL_out fun v hv => (List.nodup_cons.mp nd).1 (List.of_mem_zip hv).1, if_pos hk]
    simp
  | p :: P, w :: vs, i + 1, m, nd, h1, h2, hk => by
    show bindL kindOf ((p, w) :: P.zip vs) m x = _
    unfold bindL
    exact bindL_get (i := i) (List.nodup_cons.mp nd).2 (by simpa using h1) (by simpa using h2) hk
theorem bindC_get {kindOf : Str → Option NameKind} {x : Str} {v : Value} : ∀ {P : List Str} {vs : List Value} {i : Nat} {m : Str → Option Value}, P.Nodup → P[i]? = some x → vs[i]? = some v → kindOf x ≠ some .local →
    bindC kindOf (P.zip vs) m x = some v
  | [], _, _, _, _, h, _, _ => by simp at h
  | _ :: _, [], _, _, _, _, h, _ => by simp at h
  | p :: P, w :: vs, 0, m, nd, h1, h2, hk => by
    simp at h1 h2; subst h1; subst h2
    show bindC kindOf ((p, w) :: P.zip vs) m p = _
    unfold bindC
    rw [bindC_out fun v hv => (List.nodup_cons.mp nd).1 (List.of_mem_zip hv).1, if_neg hk]
    simp
  | p :: P, w :: vs, i + 1, m, nd, h1, h2, hk => by
    show bindC kindOf ((p, w) :: P.zip vs) m x = _
    unfold bindC
    exact bindC_get (i := i) (List.nodup_cons.mp nd).2 (by simpa using h1) (by simpa using h2) hk

/-- the names' values at the entry -/
def start (N : List Str) (vs : List V) : St := vs.map some ++ List.replicate (N.length - vs.length) none

/-- the context of a def's body, at its entry; an exception leaves the frame, then lies as CX says -/
def cxOf (CX : CXT) (P : Program) (w : World) (K : PySem.W.Frag) (mg : Str → Option Value) (base : Heap) (N : List Str) (qual : Str) (scope : Scope) (f : Addr) (cd : Value) (A : Around) (outer : List Env) (s : Shared) (H : Hp) (E : XK) : Cx where
  prog := P
  w := w
  K := K
  mg := mg
  base := base
  A := A.deeper (envOfC qual scope s.heap.objs.size f cd)
  N := N
  s₀ := s
  H₀ := H
  env := envOfC qual scope s.heap.objs.size f cd
  outer := outer
  stack := envOfC qual scope s.heap.objs.size f cd :: outer
  ex := []
  calm := true
  fn := fun _ => true
  pn := []
  xe := fun e s' => wpAny (model P w) (A.deeper (envOfC qual scope s.heap.objs.size f cd)) (leaving (envOfC qual scope s.heap.objs.size f cd) e) (fun _ s'' => CX outer H s E e s'') (fun e' s'' => CX outer H s E e' s'') s'

theorem cell_has {sc : Scope} {n : Nat} {x : Str} (h : sc.names.lookup x = some .cell) : ∃ c, (cellsFrom n sc.names []).lookup x = some c := by
  have q := PySem.W.cellsFrom_some sc.names n [] (.inl h)
  exact Option.isSome_iff_exists.mp q

theorem inv_start {CX : CXT} {P : Program} {w : World} {K : PySem.W.Frag} {mg : Str → Option Value} {base : Heap} {N ps : List Str} {qual : Str} {scope : Scope} {f : Addr} {cd : Value} {A : Around} {outer : List Env} {s s1 : Shared} {H : Hp} {E : XK} {us : List Value} {vs : List V}
    (S : FnScope N ps scope) (hd : A.handled = none) (e0 : Env0 P w K mg base A outer s H) (hl : vs.length = ps.length) (r : Vals vs us)
    (x : InCallC s s.heap.objs.size (bindL (envOfC qual scope s.heap.objs.size f cd).kindOf (ps.zip us) fun _ => none) (cellsFrom (s.heap.objs.size + 1) scope.names []) (bindC (envOfC qual scope s.heap.objs.size f cd).kindOf (ps.zip us) fun _ => none) s1) :
    Inv (cxOf CX P w K mg base N qual scope f cd A outer s H E) [] (start N vs) H s1 := by
  have hpl : ps.length ≤ N.length := by have := congrArg List.length S.pre; rw [List.length_take] at this; omega
  obtain ⟨h1, tk, rfl, hk⟩ := x.done
  have noA : ∀ b : Addr, b ∉ (cxOf CX P w K mg base N qual scope f cd A outer s H E).ex := fun b z => absurd (show b ∈ ([] : List Addr) from z) (by simp)
  refine ⟨⟨e0.mod, S.kind, rfl, rfl, Nat.le_refl _, fun y z c h1 h2 => ?_, fun y hy => ?_, fun y c _ h => ?_, fun _ => hd, Around.frames_deeper e0.frames, .inr ⟨rfl, rfl⟩, fun b z => absurd z (noA b), e0.bs, e0.bsz, fun b _ _ => noA b, fun b z => absurd z (noA b), e0.funs, e0.frf⟩,
    rfl, e0.bare, Un.kept hk, ⟨_, x.toInCall.ns, fun i y v h1 h2 h3 => ?_⟩, fun y c h => ⟨_, x.cell y c h⟩, e0.hok.fresh (Nat.le_refl _), fun y c h => ?_, fun p hp => absurd (show p ∈ ([] : List (Addr × Obj)) from hp) (by simp), e0.hok.kept hk, ?_⟩
  · exact name_of_addr x.apart (PySem.mem_of_lookup h1) (PySem.mem_of_lookup h2)
  · have hy : scope.names.lookup y = some .cell ∨ scope.names.lookup y = some .free := hy
    rcases hy with hy | hy
    · exact cell_has hy
    · exact absurd rfl (S.nofree _ (PySem.mem_of_lookup hy))
  · exact Nat.le_of_lt (x.above y c (PySem.mem_of_lookup h))
  · have hi : i < vs.length := by
      unfold start at h2
      by_cases hi : i < vs.length
      · exact hi
      · rw [List.getElem?_append_right (by simpa using hi)] at h2
        rw [List.getElem?_replicate] at h2
        split at h2 <;> cases h2
    have ha : vs[i]? = some v := by
      unfold start at h2
      rw [List.getElem?_append_left (by simpa using hi), List.getElem?_map] at h2
      cases e : vs[i]? with
      | none => rw [e] at h2; cases h2
      | some a => rw [e] at h2; cases h2; rfl
    obtain ⟨u, hu, rv⟩ := r.get ha
    have hp : ps[i]? = some y := by
      rw [← S.pre, List.getElem?_take_of_lt (by omega)]; exact h1
    have ndP : ps.Nodup := by rw [← S.pre]; exact S.nd.sublist (List.take_sublist _ _)
    refine ⟨u, rv, ?_⟩
    rcases S.par y (List.mem_of_getElem? hp) with k | k
    · exact .inl ⟨k, bindL_get ndP hp hu k⟩
    · obtain ⟨c, e⟩ := cell_has (n := s.heap.objs.size + 1) k
      refine .inr ⟨.inl k, c, e, ?_⟩
      have q := x.cell y c e
      rw [bindC_get ndP hp hu (by show scope.names.lookup y ≠ _; rw [k]; decide)] at q
      exact q
  · exact e0.hok.fresh (Nat.le_of_lt (x.above y c (PySem.mem_of_lookup h)))
  · unfold start
    show _ = N.length
    rw [List.length_append, List.length_map, List.length_replicate]
    omega

/-- THE RULE: a def (or a method) of the text, by its body. The body's reading t is chosen for each entry; it is run at the parameters' values -/
theorem fn_of {CX : CXT} {P : Program} {w : World} {K : PySem.W.Frag} {mg : Str → Option Value} {base : Heap} {k : Nat} {f : Addr} {name qual : Str} {params : Arguments} {body : List Stmt} {scope : Scope} {dV kV doc pm cdv ct oc : Value} {an od : Option Addr}
    {osl : Array (Option Value)} {N ps : List Str} {sp : Sp} (lk : K.lookup f = some ⟨oc, od, .func (PySem.W.fnOf name qual params body scope dV kV doc pm an cdv ct), osl⟩) (hcd : PySem.W.codeIn K cdv qual = true) (S : FnScope N ps scope)
    (len : ∀ vs H Q E, sp vs H Q E → vs.length = ps.length)
    (hbody : ∀ (A : Around) (outer : List Env) (s : Shared) (H : Hp) (vs : List V) (Q : VK) (E : XK), Room k (A.deeper (envOfC qual scope s.heap.objs.size f cdv)) → sp vs H Q E →
      ∃ t, PSs (cxOf CX P w K mg base N qual scope f cdv A outer s H E) body t ∧ t { nx := fun _ H' => Q .non H', rt := Q } (start N vs) H) :
    FnOk P w K mg base CX (k + 1) f (PySem.W.fnOf name qual params body scope dV kV doc pm an cdv ct) ps sp := by
  refine ⟨len, fun A outer s H args us vs Q E hr e0 hb r hsp => ?_⟩
  have hl := len _ _ _ _ hsp
  have KX : K.In s.heap := e0.mod.kin.keeps fun b o e => (e0.bs b o e).1
  have lim : s.heap.NoLimit := e0.mod.nolimit.keeps fun b o e => (e0.bs b o e).1
  have hkind : ∀ y ∈ ps.zip us, scope.names.lookup y.1 = some .local ∨ (scope.names.lookup y.1 = some .cell ∧ ((cellsFrom (s.heap.objs.size + 1) scope.names []).lookup y.1).isSome = true) := fun ⟨n, v⟩ hy => by
    rcases S.par n (List.of_mem_zip hy).1 with q | q
    · exact .inl q
    · exact .inr ⟨q, PySem.W.cellsFrom_some _ _ _ (.inl q)⟩
  refine codeAny_call_function hr.depth (KX _ _ lk) rfl S.co S.gen rfl (PySem.W.codeRec_of KX hcd) (hb _ _ _ _ ?_)
  refine wpAny_newFunctionEnv_cells S.kind hkind fun env he s1 x => ?_
  subst he
  refine ⟨lim.keeps x.toInCall.keep, codeAny_func ?_⟩
  obtain ⟨t, ht, hq⟩ := hbody A outer s H vs Q E (hr.deeper _) hsp
  have I : Inv (cxOf CX P w K mg base N qual scope f cdv A outer s H E) [] (start N vs) H s1 := inv_start S hr.hd e0 hl r x
  refine wpAny_mono (ht [] s1 (start N vs) H _ I hq) (fun fl s' hs => ?_) fun e s' hs => hs
  have fin : ∀ {σ' : St} {H' : Hp} {v : V} {u : Value}, Inv (cxOf CX P w K mg base N qual scope f cdv A outer s H E) [] σ' H' s' → RelV v u → Q v H' → CE outer P w H s Q u s' :=
    fun {σ' H' v u} J rv q => ⟨v, H', J.os, J.bare, J.base, J.hok, rv, q⟩
  cases fl with
  | ret u =>
    obtain ⟨v, σ', H', J, rv, q⟩ := hs
    exact fin J rv q
  | next =>
    obtain ⟨σ', H', J, q⟩ := hs
    exact fin (v := V.non) (u := Value.none) J rfl q
  | brk =>
    obtain ⟨_, _, _, q⟩ := hs
    exact False.elim q
  | cont =>
    obtain ⟨_, _, _, q⟩ := hs
    exact False.elim q
end L2

namespace L2
open PySem PySem.Spec PyProof.Rows
section
variable {X : Cx} {x : Str} {p pos : Pos} {e : Expr} {es : List Expr} {t : TA} {id T : String} {r : List V → Hp → VK → Prop}

def tCB (r : List V → Hp → VK → Prop) (t : TA) : TE := fun σ H Q => t σ H fun vs H1 => r vs H1 Q
/-- f(e, ..), f a built-in function -/
theorem pe_callB (hc : CallR X (.builtin id) r) (hg : Gl X x) (hm : X.mg x = none) (hv : bootBuiltins x = some (.builtin id)) (ha : PA X (e :: es) t) (hn : x ≠ "__name__" := by decide) (hdb : (x == ("__debug__" : Str)) = false := by decide)
    (he : starEach (e :: es) X.env = (false, eval e X.env) :: starEach es X.env := by rfl) (hpl : (backTo pos (starEach es X.env)).any (·.1) = false := by rfl) : PE X (.Call (.Name x p) (e :: es) [] pos) (tCB r t) := by
  intro pins s σ H Q I h
  refine wpAny_Call_Name_kw (ld_blt I hg hm hv ?_ hn hdb)
  exact PyProof.Rows.callWith_builtin1 (thn (ha pos pins s σ H _ I h) fun us s1 ⟨vs, H1, I1, r1, q1⟩ => hc pins s1 σ H1 vs us Q I1 r1 q1) he hpl
/-- T(e, ..), T a built-in type -/
theorem pe_callTy (hc : CallR X (.type T) r) (hg : Gl X x) (hm : X.mg x = none) (hv : bootBuiltins x = some (.type T)) (ha : PA X (e :: es) t) (hn : x ≠ "__name__" := by decide) (hdb : (x == ("__debug__" : Str)) = false := by decide)
    (he : starEach (e :: es) X.env = (false, eval e X.env) :: starEach es X.env := by rfl) (hpl : (backTo pos (starEach es X.env)).any (·.1) = false := by rfl) : PE X (.Call (.Name x p) (e :: es) [] pos) (tCB r t) := by
  intro pins s σ H Q I h
  refine wpAny_Call_Name_kw (ld_blt I hg hm hv ?_ hn hdb)
  exact PyProof.Rows.callWith_type1 (thn (ha pos pins s σ H _ I h) fun us s1 ⟨vs, H1, I1, r1, q1⟩ => hc pins s1 σ H1 vs us Q I1 r1 q1) he hpl
/-- T() -/
theorem pe_callTy0 (hc : CallR X (.type T) r) (hg : Gl X x) (hm : X.mg x = none) (hv : bootBuiltins x = some (.type T)) (hn : x ≠ "__name__" := by decide) (hdb : (x == ("__debug__" : Str)) = false := by decide) :
    PE X (.Call (.Name x p) [] [] pos) (tCB r tNil) := by
  intro pins s σ H Q I h
  refine wpAny_Call_Name_kw (ld_blt I hg hm hv ?_ hn hdb)
  exact PyProof.Rows.callWith_type0 (hc pins s σ H [] [] Q I .nil h)
end
end L2

namespace HT
open PySem PyProof.Rows

/-- t < u of tuples of ints -/
def lexLt : List Int → List Int → Bool
  | [], [] => false
  | [], _ :: _ => true
  | _ :: _, [] => false
  | x :: xs, y :: ys => if x = y then lexLt xs ys else decide (x < y)
theorem lexLt_cons (x y : Int) (xs ys : List Int) : lexLt (x :: xs) (y :: ys) = if x = y then lexLt xs ys else decide (x < y) := rfl
theorem lexLt_nil_nil : lexLt [] [] = false := rfl
theorem lexLt_nil_cons (y : Int) (ys : List Int) : lexLt [] (y :: ys) = true := rfl
theorem lexLt_cons_nil (x : Int) (xs : List Int) : lexLt (x :: xs) [] = false := rfl

theorem eqAt_int (A : Around) (s : Shared) (a : Int) (t : Tok) (c : Int) (u : Tok) : ∃ e, SeqAt.EqAt A s (.int a t) (.int c u) e ∧ (e = true ↔ a = c) :=
  ⟨(a == c), SeqAt.EqAt.int_int a t c u, by simp⟩
theorem rcLt_int (A : Around) (s : Shared) (a : Int) (t : Tok) (c : Int) (u : Tok) (prog : Program) (w : World) (E : Value → Shared → Prop) (Q : Value → Shared → Prop) (h : Q (.bool (decide (a < c))) s) :
    wpAny (model prog w) A (richCompare .Lt (.int a t) (.int c u)) Q E s :=
  (PyProof.Rows.lt_int h : wpAny (model prog w) A (compareOp .Lt (.int a t) (.int c u)) Q E s)

section
open PySem.SeqAt
open PySem.AutoSeq1 (wpAny_loadPart')
open PySem.MeetsSeq PySem.MeetsSeq2 PySem.MeetsSeq3

theorem tuple_lt_ints (l b : Addr) (items items2 : Array Value) (n n2 : Nat) (dd dd2 : Option Addr) (sl sl2 : Array (Option Value)) (ns ms : List Int) (hi : IntsAre items.toList ns) (hj : IntsAre items2.toList ms) :
    Meets (Builtin.«tuple.__lt__» ⟨[.ref l, .ref b], []⟩)
      (fun _ R s => s.heap.get? l = some { cls := .type "tuple", dict := dd, data := .seq items n, slots := sl } ∧ s.heap.get? b = some { cls := .type "tuple", dict := dd2, data := .seq items2 n2, slots := sl2 } ∧
        R (.ok (.ret (.bool (lexLt ns ms)))) s) :=
  .of_wp fun prog w A R s h => by
    obtain ⟨hp, g, d, tk, os⟩ := s; obtain ⟨hl, hb, h⟩ := h
    have f2 := AutoSeq1.sub_tuple_tuple
    have z1 : items.size = ns.length := by rw [← hi.length]; simp
    have z2 : items2.size = ms.length := by rw [← hj.length]; simp
    wp_walk using wpAny_loadPart' hl, wpAny_loadPart' hb, wpAny_forIn_list _ (fun rest b s' => b.1 = none ∧ s' = ⟨hp, g, d, tk, os⟩ ∧ ∃ (vs ws : List Value) (ns' ms' : List Int), rest = vs.zip ws ∧
      IntsAre vs ns' ∧ IntsAre ws ms' ∧ ns'.length + items2.size = ms'.length + items.size ∧ R (.ok (.ret (.bool (lexLt ns' ms')))) ⟨hp, g, d, tk, os⟩) _
    case turn =>
      rintro ⟨y, x⟩ rest b s' ⟨hb', rfl, vs, ws, ns', ms', hz, hvi, hwi, hlen, hR⟩
      cases hvi with
      | nil => rw [List.zip_nil_left] at hz; cases hz
      | cons a t hvi' =>
        cases hwi with
        | nil => rw [List.zip_nil_right] at hz; cases hz
        | cons c u hwi' =>
          rw [List.zip_cons_cons] at hz
          injection hz with hyx hrest
          injection hyx with hy hx
          subst hy hx
          rw [lexLt_cons] at hR
          simp only [List.length_cons] at hlen
          obtain ⟨e, he, hiff⟩ := eqAt_int A.in1 ⟨hp, g, d, tk, os⟩ a t c u
          refine wpAny_bind (he prog w _ _ ?_)
          cases e with
          | true =>
            rw [if_pos (hiff.mp rfl)] at hR
            wp_walk
            exact ⟨rfl, rfl, _, _, _, _, hrest, hvi', hwi', by omega, hR⟩
          | false =>
            rw [if_neg (fun q => absurd (hiff.mpr q) Bool.false_ne_true)] at hR
            have hri := rcLt_int A.in1 ⟨hp, g, d, tk, os⟩ a t c u prog w
            wp_walk using hri
            exact ⟨_, rfl, by simpa using hR⟩
    case fin =>
      rintro ⟨b1, b2⟩ s' ⟨hb', rfl, vs, ws, ns', ms', hz, hvi, hwi, hlen, hR⟩
      simp only at hb'
      subst hb'
      have hv : lexLt ns' ms' = decide (items.size < items2.size) := by
        cases hvi with
        | nil =>
          cases hwi with
          | nil =>
            simp only [List.length_nil] at hlen
            rw [lexLt_nil_nil]
            exact (decide_eq_false (by omega)).symm
          | cons c u hw =>
            simp only [List.length_nil, List.length_cons] at hlen
            rw [lexLt_nil_cons]
            exact (decide_eq_true (by omega)).symm
        | cons a t hv =>
          cases hwi with
          | nil =>
            simp only [List.length_nil, List.length_cons] at hlen
            rw [lexLt_cons_nil]
            exact (decide_eq_false (by omega)).symm
          | cons c u hw =>
            rw [List.zip_cons_cons] at hz
            cases hz
      rw [hv] at hR
      wp_walk
      exact ⟨_, rfl, by simpa [Builtin.Tuple.tupleCompareSizes] using hR⟩
    case h =>
      exact ⟨rfl, rfl, items.toList, items2.toList, ns, ms, rfl, hi, hj, by omega, h⟩
end

section
variable {prog : Program} {w : World} {A : Around} {E : Value → Shared → Prop} {s : Shared}

theorem lt_tupInts {l b : Addr} {items items2 : Array Value} {ns ms : List Int} {Q : Value → Shared → Prop} (hl : IsTup s.heap l items) (hb : IsTup s.heap b items2) (hi : IntsAre items.toList ns) (hj : IntsAre items2.toList ms)
    (hu : A.units < cLine) (h : Q (.bool (lexLt ns ms)) s) : wpAny (model prog w) A (compareOp .Lt (.ref l) (.ref b)) Q E s := by
  obtain ⟨⟨cls, dd, data, sl⟩, ho, hc, n, hd⟩ := id hl
  obtain ⟨⟨cls2, dd2, data2, sl2⟩, ho2, hc2, n2, hd2⟩ := id hb
  simp only at hc hd hc2 hd2
  subst hc hd hc2 hd2
  exact richCompare_meets_room (op := .Lt) ⟨_, ho, rfl⟩ ⟨_, ho2, rfl⟩ PySem.F.slot_tuple_lt PySem.F.entry_tuple_lt (PySem.F.args_tuple_lt_2 _ _) (tuple_lt_ints l b items items2 n n2 dd dd2 sl sl2 ns ms hi hj)
    ⟨ho, ho2, show Value.bool (lexLt ns ms) ≠ Value.notImplemented ∧ Q (.bool (lexLt ns ms)) s from ⟨(fun x => nomatch x), h⟩⟩ hu

/-- t + u, t not empty -/
theorem cat_tup {t b : Addr} {vs ws : List Value} {Q : Value → Shared → Prop} (ht : IsTup s.heap t vs.toArray) (hb : IsTup s.heap b ws.toArray) (hv : vs ≠ [])
    (h1 : ws = [] → Q (.ref t) s) (h2 : ws ≠ [] → Q (.ref s.heap.objs.size) { s with heap := s.heap.push { cls := .type "tuple", data := .seq (vs ++ ws).toArray } })
    (hsz : vs.length + ws.length ≤ sizeLine) : wpAny (model prog w) A (binaryOp .Add (.ref t) (.ref b)) Q E s := by
  obtain ⟨⟨cls, dd, data, sl⟩, ho, hc, n, hd⟩ := id ht
  obtain ⟨⟨cls2, dd2, data2, sl2⟩, ho2, hc2, n2, hd2⟩ := id hb
  simp only at hc hd hc2 hd2
  subst hc hd hc2 hd2
  have e : vs.toArray ++ ws.toArray = (vs ++ ws).toArray := by simp
  by_cases hw : ws = []
  · exact concat_meets ⟨_, ho, rfl⟩ ⟨_, ho2, rfl⟩ noFill_tuple_add seq_tuple_add PySem.F.slot_tuple_add PySem.F.entry_tuple_add (PySem.F.args_tuple_add_2 _ _)
      (tuple_addW1 t b vs.toArray ws.toArray n n2 dd dd2 sl sl2 (by simpa using hv) (by simp [hw])) ⟨ho, ho2, h1 hw⟩
  · refine concat_meets ⟨_, ho, rfl⟩ ⟨_, ho2, rfl⟩ noFill_tuple_add seq_tuple_add PySem.F.slot_tuple_add PySem.F.entry_tuple_add (PySem.F.args_tuple_add_2 _ _)
      (tuple_addW2 t b vs.toArray ws.toArray n n2 dd dd2 sl sl2 (by simpa using hv) (by simpa using hw) (by rw [List.size_toArray, List.size_toArray]; exact hsz)) ⟨ho, ho2, ?_⟩
    rw [e]
    exact h2 hw

/-! ### t[a:b], not the whole -/
/-- a slice's bound as a place among n (d where it is left out) -/
def sIx (n d : Nat) : Option Int → Nat
  | none => d
  | some v => if v < 0 then (v + (n : Int)).toNat else min v.toNat n
theorem sIx_none (n d : Nat) : sIx n d none = d := rfl
theorem sIx_nat (n d k : Nat) : sIx n d (some (k : Int)) = min k n := by
  show (if (k : Int) < 0 then ((k : Int) + (n : Int)).toNat else min (k : Int).toNat n) = min k n
  rw [if_neg (by omega), Int.toNat_natCast]
theorem sIx_le (n d : Nat) (hd : d ≤ n) (o : Option Int) : sIx n d o ≤ n := by
  cases o with
  | none => exact hd
  | some v =>
    show (if v < 0 then (v + (n : Int)).toNat else min v.toNat n) ≤ n
    by_cases hv : v < 0
    · rw [if_pos hv]; omega
    · rw [if_neg hv]; exact Nat.min_le_right _ _
theorem clip_eq (v : Int) (n d : Nat) : (if v < 0 then max (v + (n : Int)) 0 else min v (n : Int)) = ((sIx n d (some v) : Nat) : Int) := by
  show (if v < 0 then max (v + (n : Int)) 0 else min v (n : Int)) = (((if v < 0 then (v + (n : Int)).toNat else min v.toNat n) : Nat) : Int)
  by_cases hv : v < 0
  · simp only [if_pos hv]; omega
  · simp only [if_neg hv]; omega
theorem adjust_gen (lo hi : Option Int) (n : Nat) : Builtin.Slice.sliceAdjust lo hi 1 (n : Int) = (((sIx n 0 lo : Nat) : Int), ((sIx n n hi : Nat) : Int)) := by
  have h1 : ¬ ((1 : Int) < 0) := by omega
  unfold Builtin.Slice.sliceAdjust
  simp only [h1, if_false]
  refine Prod.ext ?_ ?_
  · cases lo with
    | none => rfl
    | some v => exact clip_eq v n 0
  · cases hi with
    | none => rfl
    | some v => exact clip_eq v n n
theorem places_gen (i j : Nat) : Builtin.Slice.slicePlaces (i : Int) (j : Int) 1 = j - i := by
  unfold Builtin.Slice.slicePlaces
  have h1 : (1 : Int) > 0 := by omega
  simp only [h1, if_true, Int.ediv_one]
  split <;> omega
theorem slicePart_ {v : Value} {o : Option Int} {Q : Option Int → Shared → Prop} (p : IsPart v o) (h : Q o s) : wpAny (model prog w) A (Builtin.Slice.slicePartIndex v) Q E s := by
  cases p with
  | none => exact slicePart_none h
  | int i t => exact slicePart_int h
theorem sliceApplied_gen {sl : Addr} {vl vu : Value} {lo hi : Option Int} {n : Nat} {Q : Int × Int × Nat → Shared → Prop} (hs : s.heap.IsSliceOf sl vl vu .none) (pl : IsPart vl lo) (pu : IsPart vu hi)
    (h : Q (((sIx n 0 lo : Nat) : Int), 1, sIx n n hi - sIx n 0 lo) s) : wpAny (model prog w) A (Builtin.Slice.sliceApplied (.ref sl) (pure (n : Int))) Q E s := by
  obtain ⟨os, hos, hcs, hds⟩ := id hs
  unfold Builtin.Slice.sliceApplied Builtin.Slice.sliceFields
  refine wpAny_bind (wpAny_bind (wpAny_field hos hds (x := vl) rfl (wpAny_bind (wpAny_field hos hds (x := vu) rfl (wpAny_bind (wpAny_field hos hds (x := .none) rfl (wpAny_pure ?_)))))))
  refine wpAny_bind (slicePart_none ?_)
  show wpAny _ _ (if ((1 : Int) == 0) = true then _ else _) _ _ s
  rw [if_neg (by decide)]
  refine wpAny_bind (slicePart_ pl (wpAny_bind (slicePart_ pu (wpAny_bind (wpAny_pure ?_)))))
  show wpAny _ _ (match Builtin.Slice.sliceAdjust lo hi 1 (n : Int) with | (lo, hi) => pure (lo, (1 : Int), Builtin.Slice.slicePlaces lo hi 1)) _ _ s
  rw [adjust_gen lo hi n]
  show wpAny _ _ (pure (((sIx n 0 lo : Nat) : Int), (1 : Int), Builtin.Slice.slicePlaces ((sIx n 0 lo : Nat) : Int) ((sIx n n hi : Nat) : Int) 1)) _ _ s
  rw [places_gen]
  exact wpAny_pure h
theorem pick_gen (xs : Array Value) (i k : Nat) : ((List.range k).filterMap fun (m : Nat) => xs[((i : Int) + (m : Int) * 1).toNat]?).toArray = ((xs.toList.drop i).take k).toArray := by
  have e : (fun (m : Nat) => xs[((i : Int) + (m : Int) * 1).toNat]?) = fun m => xs[i + m]? := by
    funext m
    have : ((i : Int) + (m : Int) * 1).toNat = i + m := by omega
    rw [this]
  rw [e]
  have := pick_run xs i k
  rw [List.filterMap_map] at this
  have e2 : ((fun x => xs[x]?) ∘ fun x => i + x) = fun m => xs[i + m]? := rfl
  rw [e2] at this
  rw [this]

theorem getItem_tuple_cut {t sl : Addr} {items : Array Value} {vl vu : Value} {lo hi : Option Int} {Q : Value → Shared → Prop} (ht : IsTup s.heap t items) (hs : s.heap.IsSliceOf sl vl vu .none) (pl : IsPart vl lo) (pu : IsPart vu hi)
    (hw : ¬ (sIx items.size 0 lo = 0 ∧ sIx items.size items.size hi = items.size))
    (h : Q (.ref s.heap.objs.size) { s with heap := s.heap.push { cls := .type "tuple", data := .seq ((items.toList.drop (sIx items.size 0 lo)).take (sIx items.size items.size hi - sIx items.size 0 lo)).toArray } })
    (hsz : items.size ≤ sizeLine) : wpAny (model prog w) A (getItem (.ref t) (.ref sl)) Q E s := by
  have htake : sizeOk (.seq ((items.toList.drop (sIx items.size 0 lo)).take (sIx items.size items.size hi - sIx items.size 0 lo)).toArray) := by
    show ((items.toList.drop (sIx items.size 0 lo)).take (sIx items.size items.size hi - sIx items.size 0 lo)).toArray.size ≤ sizeLine
    rw [List.size_toArray, List.length_take, List.length_drop, Array.length_toList]
    omega
  have hj : sIx items.size items.size hi ≤ items.size := sIx_le _ _ (Nat.le_refl _) hi
  obtain ⟨os, hos, hcs, hds⟩ := id hs
  have hTs : s.TypeIs (.ref sl) "slice" := ⟨os, hos, hcs⟩
  unfold getItem
  try with_reducible refine wpAny_holding ?_
  first | refine wpAny_bind (wpAny_pure ?_) | skip
  refine wpAny_bind (wpAny_sequenceKey ht.typeIs (by decide) ?_)
  refine wpAny_bind (wpAny_callSpecial?_slot (name := Str.ofString "__getitem__") ht.typeIs PyProof.Rows.slot_tuple_getitem
    (wpAny_call_entry PyProof.Rows.slot_tuple_getitem ht.typeIs entry_tuple_getitem ?_ (args_tuple_getitem _ _)))
  show wpAny _ _ (Builtin.Tuple.tupleItemsOf (.ref t) >>= _) _ _ s
  refine wpAny_bind (tupleItemsOf_ ht ?_)
  refine wpAny_bind (wpAny_typeOf hTs ?_)
  rw [if_pos (by decide)]
  refine wpAny_bind (sliceApplied_gen hs pl pu ?_)
  have hno : ¬ ((((sIx items.size 0 lo : Nat) : Int) == 0 && (1 : Int) == 1 && (sIx items.size items.size hi - sIx items.size 0 lo) == items.size) = true) := by
    intro q
    rw [Bool.and_eq_true, Bool.and_eq_true] at q
    have q1 : ((sIx items.size 0 lo : Nat) : Int) = 0 := eq_of_beq q.1.1
    have q2 : sIx items.size items.size hi - sIx items.size 0 lo = items.size := eq_of_beq q.2
    exact hw ⟨by omega, by omega⟩
  show wpAny _ _ (if (((sIx items.size 0 lo : Nat) : Int) == 0 && (1 : Int) == 1 && (sIx items.size items.size hi - sIx items.size 0 lo) == items.size) = true then _ else _) _ _ s
  rw [if_neg hno, pick_gen]
  first
    | exact wpAny_bind (m := Builtin.Tuple.tupleExact _) (wpAny_newObj_type (wpAny_pure ⟨_, rfl, wpAny_pure h⟩) htake)
    | exact wpAny_bind (m := Builtin.Tuple.tupleExact _) (wpAny_newObj_type (wpAny_bind (wpAny_pure (wpAny_pure ⟨_, rfl, wpAny_pure h⟩))) htake)
    | exact wpAny_bind (wpAny_bind (m := Builtin.Tuple.tupleExact _) (wpAny_newObj_type (wpAny_pure (wpAny_pure ⟨_, rfl, wpAny_pure h⟩)) htake))
    | exact wpAny_bind (wpAny_bind (m := Builtin.Tuple.tupleExact _) (wpAny_newObj_type (wpAny_pure ⟨_, rfl, wpAny_pure h⟩) htake))
end
end HT

namespace L2
open PySem PySem.Spec PyProof.Rows

/-! ### the parts of a slice -/
abbrev TO := St → Hp → (Option Int → Hp → Prop) → Prop
/-- a slice's part (left out, or an int) -/
def PO (X : Cx) (e : Option Expr) (t : TO) : Prop :=
  ∀ (pins : List (Addr × Obj)) (s : Shared) (σ : St) (H : Hp) (Q : Option Int → Hp → Prop), Inv X pins σ H s → t σ H Q →
    wpAny (model X.prog X.w) X.A (evalPart e X.env) (fun u s' => ∃ o H', Inv X pins σ H' s' ∧ IsPart u o ∧ Q o H') X.xe s
def tNoPart : TO := fun _ H Q => Q none H
def tPart (t : TE) : TO := fun σ H Q => t σ H fun x H1 => ∃ i, x = .int i ∧ Q (some i) H1

theorem intsAre_of {ns : List Int} : ∀ {us : List Value}, Vals (ns.map V.int) us → IntsAre us ns := by
  induction ns with
  | nil => intro us r; rw [List.map_nil] at r; cases r; exact .nil
  | cons n ns ih =>
    intro us r
    rw [List.map_cons] at r
    cases r with
    | cons r1 r2 =>
      obtain ⟨t, e⟩ := r1
      subst e
      exact .cons n t (ih r2)

section
variable {X : Cx} {e : Expr} {te : TE} {lo hi : Option Expr} {tl th : TO} {pos p2 : Pos}

theorem po_none : PO X none tNoPart := by
  intro pins s σ H Q I h
  rw [evalPart_none]
  exact wpAny_pure ⟨none, H, I, .none, h⟩
theorem po_some (h : PE X e te) : PO X (some e) (tPart te) := by
  intro pins s σ H Q I hw
  rw [evalPart_some]
  refine thn (h pins s σ H _ I hw) fun u s1 ⟨x, H1, I1, r1, q1⟩ => ?_
  obtain ⟨i, rfl, q⟩ := q1
  obtain ⟨t, rfl⟩ := r1
  exact ⟨some i, H1, I1, .int i t, q⟩

/-- what a slice of a value is, by values: the slice object stands at sl -/
def SlR (X : Cx) (r : V → Option Int → Option Int → Hp → VK → Prop) : Prop :=
  ∀ (pins : List (Addr × Obj)) (s : Shared) (σ : St) (H : Hp) (x : V) (v vl vu : Value) (lo hi : Option Int) (sl : Addr) (Q : VK), Inv X pins σ H s → RelV x v → s.heap.IsSliceOf sl vl vu .none → IsPart vl lo → IsPart vu hi → r x lo hi H Q →
    ∃ T id, typeLookup (.type T) "__getitem__" = pure (some (.builtin id)) ∧ s.TypeIs v T ∧ wpAny (model X.prog X.w) X.A (getItem v (.ref sl)) (EP X pins σ Q) X.xe s
theorem SlR.or {r r' : V → Option Int → Option Int → Hp → VK → Prop} (h : SlR X r) (h' : SlR X r') : SlR X (fun x lo hi H Q => r x lo hi H Q ∨ r' x lo hi H Q) := by
  intro pins s σ H x v vl vu lo hi sl Q I rx hs pl pu q
  rcases q with q | q
  · exact h pins s σ H x v vl vu lo hi sl Q I rx hs pl pu q
  · exact h' pins s σ H x v vl vu lo hi sl Q I rx hs pl pu q
def tSl (r : V → Option Int → Option Int → Hp → VK → Prop) (te : TE) (tl th : TO) : TE := fun σ H Q => te σ H fun x H1 => tl σ H1 fun l H2 => th σ H2 fun u H3 => r x l u H3 Q
/-- a[lo:hi], any a -/
theorem pe_slice {r : V → Option Int → Option Int → Hp → VK → Prop} (hr : SlR X r) (he : PE X e te) (hl : PO X lo tl) (hu : PO X hi th) : PE X (.Subscript e (.Slice lo hi none p2) pos) (tSl r te tl th) := by
  intro pins s σ H Q I h
  refine Subscript_ (thn (he pins s σ H _ I h) fun v s1 ⟨x, H1, I1, r1, q1⟩ => ?_)
  refine wpAny_Slice (thn (hl pins s1 σ H1 _ I1 q1) fun vl s2 ⟨l, H2, I2, pl, q2⟩ => thn (hu pins s2 σ H2 _ I2 q2) fun vu s3 ⟨u, H3, I3, pu, q3⟩ => ?_)
  rw [evalPart_none]
  refine wpAny_pure ?_
  have I4 : Inv X pins σ H3 { s3 with heap := s3.heap.push { cls := .type "slice", data := .fields #[vl, vu, .none] } } := I3.kept (t' := s3.toks) fun b ob q => Heap.get?_push_of_some _ q
  obtain ⟨T, id, hT, ht, hg⟩ := hr pins { s3 with heap := s3.heap.push { cls := .type "slice", data := .fields #[vl, vu, .none] } } σ H3 x v vl vu l u s3.heap.objs.size Q I4 r1 (Heap.IsSliceOf.new ..) pl pu q3
  show wpAny (model X.prog X.w) X.A (subscriptTail e (.Slice lo hi none p2) v (.ref s3.heap.objs.size)) (EP X pins σ Q) X.xe { s3 with heap := s3.heap.push { cls := .type "slice", data := .fields #[vl, vu, .none] } }
  exact tail_any (ops := [.ref s3.heap.objs.size, v]) ht hT hg (by with_unfolding_all rfl)

/-- the items of xs[lo:hi] -/
def cutV (xs : List V) (lo hi : Option Int) : List V := (xs.drop (HT.sIx xs.length 0 lo)).take (HT.sIx xs.length xs.length hi - HT.sIx xs.length 0 lo)
theorem cutV_length (xs : List V) (lo hi : Option Int) : (cutV xs lo hi).length ≤ xs.length := by
  unfold cutV
  rw [List.length_take, List.length_drop]
  omega
/-- t[lo:hi], not the whole of it (the whole would be t itself) -/
def rSlT (K : PySem.W.Frag) : V → Option Int → Option Int → Hp → VK → Prop := fun x lo hi H Q => ∃ a xs, x = .ref a ∧ SqT K H a xs ∧
  ¬ (HT.sIx xs.length 0 lo = 0 ∧ HT.sIx xs.length xs.length hi = xs.length) ∧ ∀ p, H p = none → Q (.ref p) (upd H p (.tup (cutV xs lo hi)))
theorem sl_tup : SlR X (rSlT X.K) := by
  intro pins s σ H x v vl vu lo hi sl Q I rx hs pl pu h
  obtain ⟨a, xs, rfl, hx, hw, q⟩ := h
  cases rx
  obtain ⟨its, r, ht, hz⟩ := I.tuple hx
  have hlen : its.toArray.size = xs.length := by rw [List.size_toArray]; exact r.length.symm
  refine ⟨"tuple", _, PyProof.Rows.slot_tuple_getitem.lookup, ht.typeIs, ?_⟩
  refine HT.getItem_tuple_cut ht hs pl pu (by rw [hlen]; exact hw) ?_ (by rw [hlen]; exact hz)
  rw [hlen]
  refine ⟨.ref s.heap.objs.size, _, I.laid (t' := s.toks) (o := .tup (cutV xs lo hi)) (fun b ob q => Heap.get?_push_of_some _ q) (Nat.le_refl _) ?_, rfl, q _ (I.hok.fresh (Nat.le_refl _))⟩
  exact ⟨Nat.le_trans (cutV_length xs lo hi) hz, _, (r.drop (HT.sIx xs.length 0 lo)).take (HT.sIx xs.length xs.length hi - HT.sIx xs.length 0 lo), IsTup.new _ _⟩

/-! ### t < u, t + u -/
def rLtT (K : PySem.W.Frag) : R2 := fun x y H Q => ∃ a b ns ms, x = .ref a ∧ y = .ref b ∧ SqT K H a (ns.map V.int) ∧ SqT K H b (ms.map V.int) ∧ Q (.bl (HT.lexLt ns ms)) H
theorem op_ltT (hu : X.A.units < cLine) : OpR X (compareOp .Lt) (rLtT X.K) := by
  intro pins s σ H x y v u Q I rx ry h
  obtain ⟨a, b, ns, ms, rfl, rfl, ha, hb, q⟩ := h
  cases rx
  cases ry
  obtain ⟨its, r1, p1, _⟩ := I.tuple ha
  obtain ⟨its2, r2, p2, _⟩ := I.tuple hb
  have i1 : IntsAre its.toArray.toList ns := intsAre_of r1
  have i2 : IntsAre its2.toArray.toList ms := intsAre_of r2
  exact HT.lt_tupInts p1 p2 i1 i2 hu ⟨.bl (HT.lexLt ns ms), H, I, rfl, q⟩
/-- t + u, t not empty: u empty gives t itself -/
def rCatT (K : PySem.W.Frag) : R2 := fun x y H Q => ∃ a b xs ys, x = .ref a ∧ y = .ref b ∧ SqT K H a xs ∧ SqT K H b ys ∧ xs ≠ [] ∧ xs.length + ys.length ≤ sizeLine ∧
  (ys = [] → Q (.ref a) H) ∧ (ys ≠ [] → ∀ p, H p = none → Q (.ref p) (upd H p (.tup (xs ++ ys))))
theorem Vals.nil_iff {xs : List V} {us : List Value} (r : Vals xs us) : us = [] ↔ xs = [] := by
  cases r with
  | nil => simp
  | cons _ _ => simp
theorem op_catT : OpR X (binaryOp .Add) (rCatT X.K) := by
  intro pins s σ H x y v u Q I rx ry h
  obtain ⟨a, b, xs, ys, rfl, rfl, ha, hb, hx, hz, q1, q2⟩ := h
  cases rx
  cases ry
  obtain ⟨its, r1, p1, _⟩ := I.tuple ha
  obtain ⟨its2, r2, p2, _⟩ := I.tuple hb
  refine HT.cat_tup p1 p2 (fun z => hx (r1.nil_iff.mp z)) (fun z => ⟨.ref a, H, I, rfl, q1 (r2.nil_iff.mp z)⟩) (fun z => ?_) (by rw [← r1.length, ← r2.length]; exact hz)
  refine ⟨.ref s.heap.objs.size, _, I.laid (t' := s.toks) (o := .tup (xs ++ ys)) (fun b ob q => Heap.get?_push_of_some _ q) (Nat.le_refl _) ?_, rfl, q2 (fun w => z (r2.nil_iff.mpr w)) _ (I.hok.fresh (Nat.le_refl _))⟩
  exact ⟨by rw [List.length_append]; exact hz, _, r1.append r2, IsTup.new _ _⟩
/-- tuple(t) -/
theorem call_tupleT : CallR X (.type "tuple") (fun xs H Q => ∃ a ys, xs = [.ref a] ∧ SqT X.K H a ys ∧ Q (.ref a) H) := by
  intro pins s σ H xs us Q I r h
  obtain ⟨a, ys, rfl, ha, q⟩ := h
  obtain ⟨u, rfl, ru⟩ := vals1 r
  cases ru
  obtain ⟨its, _, p1, _⟩ := I.tuple ha
  exact call_tuple_same (items := its.toArray) p1 ⟨.ref a, H, I, rfl, q⟩
end
end L2

namespace L2
open PySem PySem.Spec PyProof.Rows

/-! ### places -/
/-- the place that an index of any sign means -/
def ixN (n : Nat) (i : Int) : Option Nat := if 0 ≤ i then (if i < n then some i.toNat else none) else if -(n : Int) ≤ i then some (i + n).toNat else none
def atI {α : Type} (xs : List α) (i : Int) : Option α := (ixN xs.length i).bind fun j => xs[j]?
theorem ixN_seq {n : Nat} {i : Int} {j : Nat} (h : ixN n i = some j) : seqIndex? i n = some j ∧ j < n ∧ -(n : Int) ≤ i ∧ i < n := by
  unfold ixN at h
  by_cases h0 : 0 ≤ i
  · rw [if_pos h0] at h
    by_cases h1 : i < n
    · rw [if_pos h1] at h
      have e : i.toNat = j := Option.some.inj h
      exact ⟨by rw [seqIndex_of h0 h1, e], by omega, by omega, h1⟩
    · rw [if_neg h1] at h; cases h
  · rw [if_neg h0] at h
    by_cases h1 : -(n : Int) ≤ i
    · rw [if_pos h1] at h
      have e : (i + n).toNat = j := Option.some.inj h
      exact ⟨by rw [seqIndex_neg (by omega) h1, e], by omega, h1, by omega⟩
    · rw [if_neg h1] at h; cases h
theorem atI_get {α : Type} {xs : List α} {i : Int} {v : α} (h : atI xs i = some v) : ∃ j, seqIndex? i xs.length = some j ∧ xs[j]? = some v ∧ j < xs.length ∧ -(xs.length : Int) ≤ i ∧ i < xs.length := by
  unfold atI at h
  cases e : ixN xs.length i with
  | none => rw [e] at h; cases h
  | some j =>
    rw [e] at h
    obtain ⟨h1, h2, h3, h4⟩ := ixN_seq e
    exact ⟨j, h1, h, h2, h3, h4⟩
theorem atI_nat {α : Type} {xs : List α} {j : Nat} {v : α} (h : xs[j]? = some v) : atI xs (j : Int) = some v := by
  have hj : j < xs.length := (List.getElem?_eq_some_iff.mp h).1
  have e : ixN xs.length (j : Int) = some j := by
    unfold ixN
    rw [if_pos (by omega), if_pos (by omega)]; simp
  unfold atI; rw [e]; exact h
theorem atI_last {α : Type} (xs : List α) (v : α) : atI (xs ++ [v]) (-1) = some v := by
  have hl : (xs ++ [v]).length = xs.length + 1 := by simp
  have e : ixN (xs ++ [v]).length (-1) = some xs.length := by
    unfold ixN
    rw [hl, if_neg (by decide), if_pos (by omega)]
    congr 1
    omega
  unfold atI
  rw [e]
  show (xs ++ [v])[xs.length]? = some v
  simp

/-! ### what may be subscripted -/
/-- what stands as an index of a plain subscript -/
def PlainIx (b : Expr) : Prop := ∀ o i, subscripted b false o i = operate [o, i] (getItem o i)
/-- a subscript by values -/
def IxR (X : Cx) (r : R2) : Prop :=
  ∀ (value slice : Expr) (pins : List (Addr × Obj)) (s : Shared) (σ : St) (H : Hp) (x y : V) (v u : Value) (Q : VK), Inv X pins σ H s → RelV x v → RelV y u → r x y H Q →
    subscripted slice false v u = operate [v, u] (getItem v u) → wpAny (model X.prog X.w) X.A (subscriptTail value slice v u) (EP X pins σ Q) X.xe s
/-- a call of a builtin's method by values: the receiver, the arguments -/
def MtR (X : Cx) (id : String) (r : V → List V → Hp → VK → Prop) : Prop :=
  ∀ (pins : List (Addr × Obj)) (s : Shared) (σ : St) (H : Hp) (x : V) (xs : List V) (v : Value) (us : List Value) (Q : VK), Inv X pins σ H s → RelV x v → Vals xs us → r x xs H Q →
    wpAny (model X.prog X.w) X.A (call (.builtin id) (v :: us)) (EP X pins σ Q) X.xe s
section
variable {X : Cx} {a b : Expr} {ta tb : TE} {pos : Pos}
theorem IxR.or {r r' : R2} (h : IxR X r) (h' : IxR X r') : IxR X (fun x y H Q => r x y H Q ∨ r' x y H Q) := by
  intro value slice pins s σ H x y v u Q I rx ry q hs
  rcases q with q | q
  · exact h value slice pins s σ H x y v u Q I rx ry q hs
  · exact h' value slice pins s σ H x y v u Q I rx ry q hs
theorem MtR.or {id : String} {r r' : V → List V → Hp → VK → Prop} (h : MtR X id r) (h' : MtR X id r') : MtR X id (fun x xs H Q => r x xs H Q ∨ r' x xs H Q) := by
  intro pins s σ H x xs v us Q I rx rs q
  rcases q with q | q
  · exact h pins s σ H x xs v us Q I rx rs q
  · exact h' pins s σ H x xs v us Q I rx rs q
/-- a[b] -/
theorem pe_ix {r : R2} (hr : IxR X r) (ha : PE X a ta) (hb : PE X b tb) (hs : PlainIx b) : PE X (.Subscript a b pos) (tOp r ta tb) := by
  intro pins s σ H Q I h
  exact Subscript_ (binT ha hb I h fun v u s2 x y H2 I2 rx ry q => hr a b pins s2 σ H2 x y v u Q I2 rx ry q (hs _ _))

def rIxL (K : PySem.W.Frag) : R2 := fun x y H Q => ∃ p xs i v, x = .ref p ∧ y = .int i ∧ SqL K H p xs ∧ atI xs i = some v ∧ Q v H
def rIxT (K : PySem.W.Frag) : R2 := fun x y H Q => ∃ p xs i v, x = .ref p ∧ y = .int i ∧ SqT K H p xs ∧ atI xs i = some v ∧ Q v H
def rIxS : R2 := fun x y H Q => ∃ z i c, x = .str z ∧ y = .int i ∧ z.length ≤ sizeLine ∧ atI z.cps.toList i = some c ∧ Q (.str ⟨#[c]⟩) H
theorem ix_list : IxR X (rIxL X.K) := by
  intro value slice pins s σ H x y v u Q I rx ry h hs
  obtain ⟨p, xs, i, z, rfl, rfl, hq, he, q⟩ := h
  cases rx
  obtain ⟨t, rfl⟩ := ry
  obtain ⟨its, r, pl, hz⟩ := I.list hq
  obtain ⟨j, h1, h2, h3, h4, h5⟩ := atI_get he
  obtain ⟨w, ew, rw'⟩ := r.get h2
  have hl := r.length
  have hn := line63
  have fin : EP X pins σ Q w s := ⟨z, H, I, rw', q⟩
  by_cases h0 : 0 ≤ i
  · have hj : i.toNat = j := by
      rw [seqIndex_of h0 h5] at h1
      exact Option.some.inj h1
    exact item_listR pl.isList h0 (by omega) (by rw [hj]; simpa using ew) fin hs
  · have hj : (i + (its.toArray.size : Int)).toNat = j := by
      rw [seqIndex_neg (by omega) h4] at h1
      rw [List.size_toArray, ← hl]
      exact Option.some.inj h1
    exact subscriptTail_builtinR (x := w) pl.isList.typeIs slot_list_getitem.lookup
      (wpAny_getItem_list_neg (Q := fun r s' => r = w ∧ EP X pins σ Q r s') pl.isList (by omega) (by rw [List.size_toArray] <;> omega) (by omega) (by rw [hj]; simpa using ew) ⟨rfl, fin⟩) hs
theorem ix_tup : IxR X (rIxT X.K) := by
  intro value slice pins s σ H x y v u Q I rx ry h hs
  obtain ⟨p, xs, i, z, rfl, rfl, hq, he, q⟩ := h
  cases rx
  obtain ⟨t, rfl⟩ := ry
  obtain ⟨its, r, pl, hz⟩ := I.tuple hq
  obtain ⟨j, h1, h2, h3, h4, h5⟩ := atI_get he
  obtain ⟨w, ew, rw'⟩ := r.get h2
  have hl := r.length
  have hn := line63
  have fin : EP X pins σ Q w s := ⟨z, H, I, rw', q⟩
  exact subscriptTail_builtinR (x := w) pl.typeIs slot_tuple_getitem.lookup
    (getItem_tuple (j := j) (Q := fun r s' => r = w ∧ EP X pins σ Q r s') pl (by omega) (by omega) (by rw [List.size_toArray, ← hl]; exact h1) (by simpa using ew) ⟨rfl, fin⟩) hs
theorem ix_str : IxR X rIxS := by
  intro value slice pins s σ H x y v u Q I rx ry h hs
  obtain ⟨z, i, c, rfl, rfl, hz, he, q⟩ := h
  obtain ⟨t, rfl⟩ := rx
  obtain ⟨t', rfl⟩ := ry
  obtain ⟨j, h1, h2, h3, h4, h5⟩ := atI_get he
  have hl : z.cps.toList.length = z.length := by simp [Str.length]
  rw [hl] at h1 h4 h5
  have hn := line63
  exact tail_any (typeIs_str s z t) slot_str_getitem.lookup (getItem_str (c := c) (by
    have e1 : decide (i < -(2 ^ 63 : Int)) = false := decide_eq_false (by omega)
    have e2 : decide (i ≥ 2 ^ 63) = false := decide_eq_false (by omega)
    rw [e1, e2, Bool.or_false]) (by rw [h1]; simpa using h2) ⟨.str ⟨#[c]⟩, H, I.tok _, ⟨_, rfl⟩, q⟩) hs
/-- list, tuple or str -/
def rIx (K : PySem.W.Frag) : R2 := fun x y H Q => rIxL K x y H Q ∨ rIxT K x y H Q ∨ rIxS x y H Q
theorem ix_seq : IxR X (rIx X.K) := ix_list.or (ix_tup.or ix_str)

/-! ### xs[i] = v, any sign -/
/-- the list's object behind a store -/
theorem mapSeq_set (its : List Value) (n j : Nat) (u : Value) : Obj.mapSeq (·.setIfInBounds j u) { cls := .type "list", data := .seq its.toArray n } = { cls := .type "list", data := .seq (its.set j u).toArray n } := by
  simp [Obj.mapSeq]
theorem Inv.lst {pins : List (Addr × Obj)} {σ : St} {H : Hp} {s : Shared} {p : Addr} {xs : List V} (I : Inv X pins σ H s) (h : H p = some (.lst xs)) :
    ∃ (its : List Value) (n : Nat), Vals xs its ∧ s.heap.get? p = some { cls := .type "list", data := .seq its.toArray n } ∧ xs.length ≤ sizeLine := by
  obtain ⟨z, its, n, r, e⟩ := I.hok p _ h
  exact ⟨its, n, r, e, z⟩
/-- the list at p is written by an update of its object -/
theorem Inv.lstUpd {pins : List (Addr × Obj)} {σ : St} {H : Hp} {s : Shared} {p : Addr} {xs ys : List V} {its its' : List Value} {n n' : Nat} {f : Obj → Obj} (I : Inv X pins σ H s) (h : H p = some (.lst xs))
    (ho : s.heap.get? p = some { cls := .type "list", data := .seq its.toArray n }) (hf : f { cls := .type "list", data := .seq its.toArray n } = { cls := .type "list", data := .seq its'.toArray n' }) (r : Vals ys its') (hz : ys.length ≤ sizeLine) (t : Nat) :
    Inv X pins σ (upd H p (.lst ys)) { s with heap := s.heap.update p f, toks := t } := by
  have e : (s.heap.update p f).get? p = some { cls := .type "list", data := .seq its'.toArray n' } := by
    rw [Heap.get?_update_self f ho (by rw [hf] <;> rfl), hf]
  refine I.write (x := p) (e := p) (by rw [h]; trivial) (.inl rfl) (fun b u hb q => (Heap.get?_update_other _ _ (Ne.symm hb)).trans q) ⟨_, e⟩ ?_
  exact ⟨hz, its', n', r, e⟩
def rSetL : V → V → V → Hp → (Hp → Prop) → Prop := fun o i v H Q => ∃ p xs k j, o = .ref p ∧ i = .int k ∧ H p = some (.lst xs) ∧ ixN xs.length k = some j ∧ Q (upd H p (.lst (xs.set j v)))
theorem set_list : PSet X rSetL := by
  intro pins s σ H o i v ov iv u Q I ro ri rv h
  obtain ⟨p, xs, k, j, rfl, rfl, hp, hj, q⟩ := h
  cases ro
  obtain ⟨t, rfl⟩ := ri
  obtain ⟨its, n, r, ho, hz⟩ := I.lst hp
  obtain ⟨h1, h2, h3, h4⟩ := ixN_seq hj
  have hl := r.length
  have hn := line63
  have I' : Inv X pins σ (upd H p (.lst (xs.set j v))) { s with heap := s.heap.update p (Obj.mapSeq (·.setIfInBounds j u)) } :=
    I.lstUpd hp ho (mapSeq_set its n j u) (r.set rv j) (by rw [List.length_set]; exact hz) s.toks
  by_cases h0 : 0 ≤ k
  · have hk : k.toNat = j := by
      rw [seqIndex_of h0 h4] at h1
      exact Option.some.inj h1
    exact PySem.W.ki_setAt ho h0 (by omega) (by rw [List.size_toArray, ← hl]; exact h4) (by rw [hk]; exact ⟨_, I', q⟩)
  · have hk : (k + (its.toArray.size : Int)).toNat = j := by
      rw [seqIndex_neg (by omega) h3] at h1
      rw [List.size_toArray, ← hl]
      exact Option.some.inj h1
    exact PySem.W.ki_setBack ho (by omega) (by rw [List.size_toArray, ← hl]; exact h3) (by omega) (by rw [hk]; exact ⟨_, I', q⟩)

/-! ### slices -/
theorem slice_bounds (lo hi : Option Int) (n : Nat) : (sliceBounds lo hi none n).1 = ((HT.sIx n 0 lo : Nat) : Int) ∧ (sliceBounds lo hi none n).2.1 = ((HT.sIx n n hi : Nat) : Int) ∧ (sliceBounds lo hi none n).2.2 = 1 := by
  refine ⟨?_, ?_, rfl⟩
  · cases lo with
    | none => simp [sliceBounds, HT.sIx]
    | some i =>
      simp only [sliceBounds, HT.sIx, Option.getD_none, show (1 : Int) > 0 by decide, if_true]
      by_cases h : i < 0
      · simp only [h, if_true] <;> omega
      · simp only [h, if_false] <;> omega
  · cases hi with
    | none => simp [sliceBounds, HT.sIx]
    | some i =>
      simp only [sliceBounds, HT.sIx, Option.getD_none, show (1 : Int) > 0 by decide, if_true]
      by_cases h : i < 0
      · simp only [h, if_true] <;> omega
      · simp only [h, if_false] <;> omega
theorem slicePick_cut (its : List Value) (lo hi : Option Int) : slicePick its.toArray lo hi none = ((its.drop (HT.sIx its.length 0 lo)).take (HT.sIx its.length its.length hi - HT.sIx its.length 0 lo)).toArray := by
  obtain ⟨h1, h2, h3⟩ := slice_bounds lo hi its.toArray.size
  unfold slicePick
  rw [h1, h2, h3]
  simp only [sliceRange_one, pick_run, List.size_toArray] <;> rfl
/-- xs[lo:hi] of a list: a new list -/
def rSlL (K : PySem.W.Frag) : V → Option Int → Option Int → Hp → VK → Prop := fun x lo hi H Q => ∃ a xs, x = .ref a ∧ SqL K H a xs ∧ ∀ p, H p = none → Q (.ref p) (upd H p (.lst (cutV xs lo hi)))
theorem sl_list : SlR X (rSlL X.K) := by
  intro pins s σ H x v vl vu lo hi sl Q I rx hs pl pu h
  obtain ⟨a, xs, rfl, hx, q⟩ := h
  cases rx
  obtain ⟨its, r, ht, hz⟩ := I.list hx
  have hlen := r.length
  refine ⟨"list", _, slot_list_getitem.lookup, ht.isList.typeIs, ?_⟩
  refine wpAny_getItem_list_slice ht.isList hs pl pu .none (by simp) ?_ (by rw [List.size_toArray] <;> omega)
  rw [slicePick_cut, ← hlen]
  refine ⟨.ref s.heap.objs.size, _, I.laid (t' := s.toks) (o := .lst (cutV xs lo hi)) (fun b ob q => Heap.get?_push_of_some _ q) (Nat.le_refl _) ?_, rfl, q _ (I.hok.fresh (Nat.le_refl _))⟩
  exact ⟨Nat.le_trans (cutV_length xs lo hi) hz, _, 0, (r.drop (HT.sIx xs.length 0 lo)).take (HT.sIx xs.length xs.length hi - HT.sIx xs.length 0 lo), Heap.get?_push_size _ rfl⟩

/-! ### in, not in: flat items -/
def flatV : V → Bool
  | .non => true
  | .bl _ => true
  | .int _ => true
  | .str _ => true
  | _ => false
/-- == of flat values -/
def eqV : V → V → Bool
  | .non, .non => true
  | .bl a, .bl b => a == b
  | .bl a, .int b => (if a then 1 else 0) == b
  | .int a, .bl b => a == (if b then 1 else 0)
  | .int a, .int b => a == b
  | .str a, .str b => a == b
  | _, _ => false
theorem eqAt_V {A : Around} {s : Shared} {y x : V} {u v : Value} (ry : RelV y u) (rx : RelV x v) (fy : flatV y = true) (fx : flatV x = true) : SeqAt.EqAt A s u v (eqV y x) := by
  cases y with
  | non =>
    cases ry
    cases x with
    | non => cases rx; exact SeqAt.EqAt.same _
    | bl b => cases rx; exact SeqAt.EqAt.none_bool b
    | int b => obtain ⟨t, rfl⟩ := rx; exact SeqAt.EqAt.none_int b t
    | str b => obtain ⟨t, rfl⟩ := rx; exact SeqAt.EqAt.none_str b t
    | _ => exact absurd (show false = true from fx) Bool.false_ne_true
  | bl a =>
    cases ry
    cases x with
    | non => cases rx; exact SeqAt.EqAt.bool_none a
    | bl b => cases rx; exact SeqAt.EqAt.bool_bool a b
    | int b => obtain ⟨t, rfl⟩ := rx; exact SeqAt.EqAt.bool_int a b t
    | str b => obtain ⟨t, rfl⟩ := rx; exact SeqAt.EqAt.bool_str a b t
    | _ => exact absurd (show false = true from fx) Bool.false_ne_true
  | int a =>
    obtain ⟨t', rfl⟩ := ry
    cases x with
    | non => cases rx; exact SeqAt.EqAt.int_none a t'
    | bl b => cases rx; exact SeqAt.EqAt.int_bool a t' b
    | int b => obtain ⟨t, rfl⟩ := rx; exact SeqAt.EqAt.int_int a t' b t
    | str b => obtain ⟨t, rfl⟩ := rx; exact SeqAt.EqAt.int_str a t' b t
    | _ => exact absurd (show false = true from fx) Bool.false_ne_true
  | str a =>
    obtain ⟨t', rfl⟩ := ry
    cases x with
    | non => cases rx; exact SeqAt.EqAt.str_none a t'
    | bl b => cases rx; exact SeqAt.EqAt.str_bool a t' b
    | int b => obtain ⟨t, rfl⟩ := rx; exact SeqAt.EqAt.str_int a t' b t
    | str b => obtain ⟨t, rfl⟩ := rx; exact SeqAt.EqAt.str_str a t' b t
    | _ => exact absurd (show false = true from fx) Bool.false_ne_true
  | _ => exact absurd (show false = true from fy) Bool.false_ne_true
/-- the items' answers, read off the values (a value's own answer does not lean on its token) -/
def eqU (x : V) (u : Value) : Bool := match u with
  | .none => eqV .non x
  | .bool b => eqV (.bl b) x
  | .int i _ => eqV (.int i) x
  | .str z _ => eqV (.str z) x
  | _ => false
theorem eqU_of {x y : V} {u : Value} (r : RelV y u) (f : flatV y = true) : eqU x u = eqV y x := by
  cases y with
  | non => cases r; rfl
  | bl b => cases r; rfl
  | int i => obtain ⟨t, rfl⟩ := r; rfl
  | str z => obtain ⟨t, rfl⟩ := r; rfl
  | _ => exact absurd (show false = true from f) Bool.false_ne_true
theorem any_eqU {x : V} : ∀ {xs : List V} {us : List Value}, Vals xs us → xs.all flatV = true → us.any (eqU x) = xs.any fun y => eqV y x
  | _, _, .nil, _ => rfl
  | y :: xs, u :: us, .cons r t, f => by
    rw [List.all_cons, Bool.and_eq_true] at f
    rw [List.any_cons, List.any_cons, eqU_of r f.1, any_eqU t f.2]
theorem mem_eqAt {A : Around} {s : Shared} {x : V} {v : Value} (rx : RelV x v) (fx : flatV x = true) : ∀ {xs : List V} {us : List Value}, Vals xs us → xs.all flatV = true → ∀ u ∈ us, SeqAt.EqAt A s u v (eqU x u)
  | _, _, .nil, _ => fun u hu => by cases hu
  | y :: xs, u :: us, .cons r t, f => fun u' hu => by
    rw [List.all_cons, Bool.and_eq_true] at f
    rcases List.mem_cons.mp hu with rfl | hu
    · rw [eqU_of r f.1]; exact eqAt_V r rx f.1 fx
    · exact mem_eqAt rx fx t f.2 u' hu
def inV (x : V) (xs : List V) : Bool := xs.any fun y => eqV y x
/-- x in a list or tuple of flat items -/
def rIn (K : PySem.W.Frag) (neg : Bool) : R2 := fun x y H Q => ∃ p xs, y = .ref p ∧ (SqL K H p xs ∨ SqT K H p xs) ∧ flatV x = true ∧ xs.all flatV = true ∧ Q (.bl (if neg then !inV x xs else inV x xs)) H
theorem op_in_seq : OpR X (compareOp .In) (rIn X.K false) := by
  intro pins s σ H x y v u Q I rx ry h
  obtain ⟨p, xs, rfl, hq, fx, fs, q⟩ := h
  cases ry
  rcases hq with hq | hq
  · obtain ⟨its, r, pl, hz⟩ := I.list hq
    refine SeqAt.in_listAt (eqU x) pl.isList (fun w hw => mem_eqAt rx fx r fs w (by simpa using hw)) ⟨.bl _, H, I, rfl, ?_⟩
    rw [show its.toArray.any (eqU x) = its.any (eqU x) by simp, any_eqU r fs]
    exact q
  · obtain ⟨its, r, pl, hz⟩ := I.tuple hq
    refine SeqAt.in_tupleAt (eqU x) pl (fun w hw => mem_eqAt rx fx r fs w (by simpa using hw)) ⟨.bl _, H, I, rfl, ?_⟩
    rw [show its.toArray.any (eqU x) = its.any (eqU x) by simp, any_eqU r fs]
    exact q
theorem op_notIn_seq : OpR X (compareOp .NotIn) (rIn X.K true) := by
  intro pins s σ H x y v u Q I rx ry h
  obtain ⟨p, xs, rfl, hq, fx, fs, q⟩ := h
  cases ry
  rcases hq with hq | hq
  · obtain ⟨its, r, pl, hz⟩ := I.list hq
    refine SeqAt.notIn_listAt (eqU x) pl.isList (fun w hw => mem_eqAt rx fx r fs w (by simpa using hw)) ⟨.bl _, H, I, rfl, ?_⟩
    rw [show its.toArray.any (eqU x) = its.any (eqU x) by simp, any_eqU r fs]
    exact q
  · obtain ⟨its, r, pl, hz⟩ := I.tuple hq
    refine SeqAt.notIn_tupleAt (eqU x) pl (fun w hw => mem_eqAt rx fx r fs w (by simpa using hw)) ⟨.bl _, H, I, rfl, ?_⟩
    rw [show its.toArray.any (eqU x) = its.any (eqU x) by simp, any_eqU r fs]
    exact q
theorem op_notIn_str : OpR X (compareOp .NotIn) (fun x y H Q => ∃ i j, x = .str i ∧ y = .str j ∧ Q (.bl (!(!(Builtin.Str.occurrences j i 0 j.length 1).isEmpty))) H) := by
  intro pins s σ H x y v u Q I rx ry h
  obtain ⟨i, j, rfl, rfl, q⟩ := h
  obtain ⟨t, rfl⟩ := rx
  obtain ⟨t', rfl⟩ := ry
  exact notIn_str ⟨.bl _, H, I, rfl, q⟩

/-! ### len, list(x), tuple(x) of any list or tuple that is read -/
theorem call_len_seq : CallR X (.builtin "len") (fun xs H Q => ∃ p ys, xs = [.ref p] ∧ (SqL X.K H p ys ∨ SqT X.K H p ys) ∧ Q (.int ys.length) H) := by
  intro pins s σ H xs us Q I r h
  obtain ⟨p, ys, rfl, hq, q⟩ := h
  obtain ⟨u, rfl, rx⟩ := vals1 r
  cases rx
  have hn := line63
  rcases hq with hq | hq
  · obtain ⟨its, r', pl, hz⟩ := I.list hq
    have hlen := r'.length
    exact Calls.call_len_list pl.isList (by simp only [List.size_toArray] <;> omega) ⟨.int ys.length, H, I.tok _, ⟨s.toks + 1, by rw [List.size_toArray, hlen]⟩, q⟩
  · obtain ⟨its, r', pl, hz⟩ := I.tuple hq
    have hlen := r'.length
    exact len_tuple pl (by simp only [List.size_toArray] <;> omega) ⟨.int ys.length, H, I.tok _, ⟨s.toks + 1, by rw [List.size_toArray, hlen]⟩, q⟩
theorem call_len_str : CallR X (.builtin "len") (fun xs H Q => ∃ z, xs = [.str z] ∧ z.length ≤ sizeLine ∧ Q (.int z.length) H) := by
  intro pins s σ H xs us Q I r h
  obtain ⟨z, rfl, hz, q⟩ := h
  obtain ⟨u, rfl, t, rfl⟩ := vals1 r
  have hn := line63
  exact len_str (by omega) ⟨.int z.length, H, I.tok _, ⟨_, rfl⟩, q⟩
theorem CallR.or {f : Value} {r r' : List V → Hp → VK → Prop} (h : CallR X f r) (h' : CallR X f r') : CallR X f (fun xs H Q => r xs H Q ∨ r' xs H Q) := by
  intro pins s σ H xs us Q I rs q
  rcases q with q | q
  · exact h pins s σ H xs us Q I rs q
  · exact h' pins s σ H xs us Q I rs q
theorem call_list_of : CallR X (.type "list") (fun xs H Q => ∃ p ys, xs = [.ref p] ∧ (SqL X.K H p ys ∨ SqT X.K H p ys) ∧ ∀ l, H l = none → Q (.ref l) (upd H l (.lst ys))) := by
  intro pins s σ H xs us Q I r h
  obtain ⟨p, ys, rfl, hq, q⟩ := h
  obtain ⟨u, rfl, rx⟩ := vals1 r
  cases rx
  have fin : ∀ (its : List Value), Vals ys its → ys.length ≤ sizeLine → ∀ (h' : Heap) (c' : Nat), (∀ b o', s.heap.get? b = some o' → h'.get? b = some o') →
      h'.get? s.heap.objs.size = some { cls := .type "list", dict := none, data := .seq its.toArray c', slots := #[] } → EP X pins σ Q (.ref s.heap.objs.size) { s with heap := h' } := fun its r' hz h' c' kp e =>
    ⟨.ref s.heap.objs.size, _, I.laid (t' := s.toks) kp (Nat.le_refl _) (show ObjOk X.prog X.w _ h' _ (.lst ys) from ⟨hz, its, c', r', e⟩), rfl, q _ (I.hok.fresh (Nat.le_refl _))⟩
  rcases hq with hq | hq
  · obtain ⟨its, r', pl, hz⟩ := I.list hq
    have hlen := r'.length
    obtain ⟨o, ho, hc, n, hd⟩ := pl.isList
    exact call_list_seq p (.inl rfl) ho hc hd (fun h' c' kp e => fin its r' hz h' c' kp e) (by simp only [List.size_toArray] <;> omega)
  · obtain ⟨its, r', pl, hz⟩ := I.tuple hq
    have hlen := r'.length
    obtain ⟨o, ho, hc, n, hd⟩ := pl
    exact call_list_seq p (.inr rfl) ho hc hd (fun h' c' kp e => fin its r' hz h' c' kp e) (by simp only [List.size_toArray] <;> omega)
theorem call_tuple_of : CallR X (.type "tuple") (fun xs H Q => ∃ p ys, xs = [.ref p] ∧ ((SqL X.K H p ys ∧ ∀ l, H l = none → Q (.ref l) (upd H l (.tup ys))) ∨ (SqT X.K H p ys ∧ Q (.ref p) H))) := by
  intro pins s σ H xs us Q I r h
  obtain ⟨p, ys, rfl, h⟩ := h
  obtain ⟨u, rfl, rx⟩ := vals1 r
  cases rx
  rcases h with ⟨hq, q⟩ | ⟨hq, q⟩
  · obtain ⟨its, r', pl, hz⟩ := I.list hq
    have hlen := r'.length
    refine call_tuple_list pl.isList (fun h' kp => ?_) (by simp only [List.size_toArray] <;> omega)
    have I1 : Inv X pins σ H { s with heap := h' } := I.kept (t' := s.toks) kp
    have I2 : Inv X pins σ (upd H h'.objs.size (.tup ys)) { s with heap := h'.push { cls := .type "tuple", data := .seq its.toArray } } :=
      I1.laid (t' := s.toks) (fun b o e => Heap.get?_push_of_some _ e) (Nat.le_refl _) (show ObjOk X.prog X.w _ _ _ (.tup ys) from ⟨hz, its, r', IsTup.new _ _⟩)
    exact ⟨.ref h'.objs.size, _, I2, rfl, q _ (I1.hok.fresh (Nat.le_refl _))⟩
  · obtain ⟨its, r', pl, hz⟩ := I.tuple hq
    exact call_tuple_same pl ⟨.ref p, H, I, rfl, q⟩

/-! ### the call of a builtin's method: o.m(..) -/
/-- the value is of that builtin type -/
def tyV (K : PySem.W.Frag) (T : String) (x : V) (H : Hp) : Prop := match x with
  | .str _ => T = "str"
  | .int _ => T = "int"
  | .ref p => (T = "list" ∧ ∃ xs, SqL K H p xs) ∨ (T = "tuple" ∧ ∃ o, K.lookup p = some o ∧ o.cls = .type "tuple" ∧ o.dict = none) ∨
      (T = "dict" ∧ ((∃ kvs, H p = some (.dK kvs)) ∨ ∃ kvs, H p = some (.dT kvs))) ∨ (T = "set" ∧ ∃ S n, H p = some (.set S n))
  | _ => False
theorem tyV_is {pins : List (Addr × Obj)} {σ : St} {H : Hp} {s : Shared} {T : String} {x : V} {v : Value} (I : Inv X pins σ H s) (r : RelV x v) (ty : tyV X.K T x H) :
    s.TypeIs v T ∧ ∀ a, v = .ref a → ∃ ob, s.heap.get? a = some ob ∧ ob.dict = none := by
  cases x with
  | str z =>
    obtain ⟨t, rfl⟩ := r
    cases (show T = "str" from ty)
    exact ⟨typeIs_str s z t, fun _ e => nomatch e⟩
  | int i =>
    obtain ⟨t, rfl⟩ := r
    cases (show T = "int" from ty)
    exact ⟨typeIs_int s i t, fun _ e => nomatch e⟩
  | ref p =>
    cases r
    rcases ty with ⟨rfl, xs, hq⟩ | ⟨rfl, o, hk, hc, hd⟩ | ⟨rfl, hk⟩ | ⟨rfl, S, n, hk⟩
    · obtain ⟨its, _, pl, _⟩ := I.list hq
      refine ⟨pl.isList.typeIs, fun a e => ?_⟩
      cases e
      obtain ⟨o, n, e, c, hd, _⟩ := pl
      exact ⟨o, e, hd⟩
    · refine ⟨⟨o, I.kIn p o hk, hc⟩, fun a e => ?_⟩
      cases e
      exact ⟨o, I.kIn _ o hk, hd⟩
    · have z : ∃ o, s.heap.get? p = some o ∧ o.ExactDict := by
        rcases hk with ⟨kvs, hk⟩ | ⟨kvs, hk⟩
        · obtain ⟨_, _, _, _, o, _, _, e, ex, _⟩ := I.hok p _ hk
          exact ⟨o, e, ex⟩
        · obtain ⟨_, _, _, _, o, _, _, e, ex, _⟩ := I.hok p _ hk
          exact ⟨o, e, ex⟩
      obtain ⟨o, e, ex⟩ := z
      refine ⟨⟨o, e, ex.1⟩, fun a e2 => ?_⟩
      cases e2
      exact ⟨o, e, ex.2.1⟩
    · obtain ⟨o, _, _, _, e, ex, _⟩ := I.hok p _ hk
      refine ⟨⟨o, e, ex.1⟩, fun a e2 => ?_⟩
      cases e2
      exact ⟨o, e, ex.2.1⟩
  | _ => exact False.elim ty
def tBM0 (K : PySem.W.Frag) (T : String) (r : V → List V → Hp → VK → Prop) (to : TE) : TE := fun σ H Q => to σ H fun x H1 => tyV K T x H1 ∧ r x [] H1 Q
def tBM (K : PySem.W.Frag) (T : String) (r : V → List V → Hp → VK → Prop) (to : TE) (t : TA) : TE := fun σ H Q => to σ H fun x H1 => tyV K T x H1 ∧ t σ H1 fun xs H2 => r x xs H2 Q
variable {o e : Expr} {es : List Expr} {to : TE} {t : TA} {name : Str} {apos cpos : Pos} {T id : String} {r : V → List V → Hp → VK → Prop}
theorem pe_bm0 (pa : PlainAttrs T) (slot : Slot T name id) (hty : typeOf (.builtin id) = pure (.type "method_descriptor")) (hm : MtR X id r) (ho : PE X o to)
    (hbase : attributeBase o name X.env (eval o X.env) = eval o X.env := by rfl) (hline : (apos.endLine == cpos.line) = true := by rfl) : PE X (.Call (.Attribute o name apos) [] [] cpos) (tBM0 X.K T r to) := by
  intro pins s σ H Q I h
  refine wpAny_Call_method0_late hbase hline (thn (ho pins s σ H _ I h) fun v s1 ⟨x, H1, I1, r1, ty, q1⟩ => ?_)
  obtain ⟨h1, h2⟩ := tyV_is I1 r1 ty
  exact ⟨T, id, pa, slot, hty, h1, h2, Calls.callWith_builtin rfl (PySem.evalArgs_none (hm pins s1 σ H1 x [] v [] Q I1 r1 .nil q1))⟩
theorem pe_bm (pa : PlainAttrs T) (slot : Slot T name id) (hty : typeOf (.builtin id) = pure (.type "method_descriptor")) (hm : MtR X id r) (ho : PE X o to) (ha : PA X (e :: es) t)
    (hbase : attributeBase o name X.env (eval o X.env) = eval o X.env := by rfl)
    (hfew : ((backTo cpos (starEach (e :: es) X.env)).all (fun x => !x.1) && (backToKw cpos (keywordEach [] X.env)).all (fun x => x.1.isSome)
      && decide ((e :: es).length + ([] : List Keyword).length + (if ([] : List Keyword).isEmpty then 0 else 1) < 30)) = true := by rfl)
    (hline : (apos.endLine == cpos.line) = true := by rfl) (hs : starEach (e :: es) X.env = (false, eval e X.env) :: starEach es X.env := by rfl) (hplain : (backTo cpos (starEach es X.env)).any (·.1) = false := by rfl) :
    PE X (.Call (.Attribute o name apos) (e :: es) [] cpos) (tBM X.K T r to t) := by
  intro pins s σ H Q I h
  refine wpAny_Call_method_late hbase hfew hline rfl (thn (ho pins s σ H _ I h) fun v s1 ⟨x, H1, I1, r1, ty, q1⟩ => ?_)
  obtain ⟨h1, h2⟩ := tyV_is I1 r1 ty
  refine ⟨T, id, pa, slot, hty, h1, h2, ?_⟩
  have hA := ha cpos pins s1 σ H1 _ I1 q1
  rw [hs] at hA ⊢
  refine Calls.callWith_builtin (by show (false || (backTo cpos (starEach es X.env)).any (·.1)) = false; rw [hplain] <;> rfl) (Calls.evalArgs_plain ?_)
  exact thn hA fun us s2 ⟨vs, H2, I2, r2, q2⟩ => hm pins s2 σ H2 x vs v us Q I2 r1 r2 q2
/- xs.append(e), list.index on a module's tuple .. are MtR facts of 06m -/
end
end L2

namespace L2
open PySem PySem.Spec PyProof.Rows

def MtM (X : Cx) (id : String) (r : V → List V → Hp → VK → Prop) : Prop :=
  ∀ (pins : List (Addr × Obj)) (s : Shared) (σ : St) (H : Hp) (x : V) (xs : List V) (v : Value) (us : List Value) (Q : VK), Inv X pins σ H s → RelV x v → Vals xs us → r x xs H Q →
    wpAny (model X.prog X.w) X.A (call (.builtin id) (v :: us)) (EP X pins σ Q) X.xe s

/-! ### lists of values -/
theorem Vals.one : ∀ {x : V} {us : List Value}, Vals [x] us → ∃ u, us = [u] ∧ RelV x u
  | _, _, .cons r .nil => ⟨_, rfl, r⟩
theorem Vals.two : ∀ {x y : V} {us : List Value}, Vals [x, y] us → ∃ u v, us = [u, v] ∧ RelV x u ∧ RelV y v
  | _, _, _, .cons r (.cons q .nil) => ⟨_, _, rfl, r, q⟩
theorem Vals.zero : ∀ {us : List Value}, Vals [] us → us = []
  | _, .nil => rfl
theorem Vals.dropLast {xs : List V} {us : List Value} (h : Vals xs us) : Vals xs.dropLast us.dropLast := by
  induction h with
  | nil => exact .nil
  | cons r t ih =>
    cases t with
    | nil => exact .nil
    | cons q t' => exact .cons r ih
theorem Vals.eraseIdx : ∀ {xs : List V} {us : List Value} (i : Nat), Vals xs us → Vals (xs.eraseIdx i) (us.eraseIdx i)
  | _, _, _, .nil => .nil
  | _, _, 0, .cons _ t => t
  | _, _, i + 1, .cons r t => .cons r (Vals.eraseIdx i t)
theorem Vals.reverse {xs : List V} {us : List Value} (h : Vals xs us) : Vals xs.reverse us.reverse := by
  induction h with
  | nil => exact .nil
  | cons r t ih => rw [List.reverse_cons, List.reverse_cons]; exact Vals.append ih (.cons r .nil)
theorem Vals.rep {xs : List V} {us : List Value} (h : Vals xs us) : ∀ k : Nat, Vals (List.replicate k xs).flatten (List.replicate k us).flatten
  | 0 => .nil
  | k + 1 => by
    rw [List.replicate_succ, List.replicate_succ, List.flatten_cons, List.flatten_cons]
    exact Vals.append h (Vals.rep h k)
theorem erase_last {α : Type} (l : List α) : l.eraseIdx (l.length - 1) = l.dropLast := by
  induction l with
  | nil => rfl
  | cons a r ih =>
    cases r with
    | nil => rfl
    | cons b r =>
      have e : (a :: b :: r).length - 1 = ((b :: r).length - 1) + 1 := by
        have h1 : (a :: b :: r).length = r.length + 2 := rfl
        have h2 : (b :: r).length = r.length + 1 := rfl
        omega
      rw [e, List.eraseIdx_cons_succ, ih]
      all_goals rfl
theorem len_erase {α : Type} : ∀ (l : List α) (i : Nat), (l.eraseIdx i).length ≤ l.length
  | [], _ => Nat.le_refl _
  | _ :: _, 0 => Nat.le_succ _
  | _ :: r, i + 1 => Nat.succ_le_succ (len_erase r i)
theorem foldl_rep (its : List Value) : ∀ (k : Nat) (acc : List Value),
    List.foldl (fun x1 x2 => x1 ++ x2) acc.toArray (List.replicate k its.toArray) = (acc ++ (List.replicate k its).flatten).toArray
  | 0, acc => by simp
  | k + 1, acc => by
    have e : acc.toArray ++ its.toArray = (acc ++ its).toArray := by simp
    have e2 : (acc ++ its) ++ (List.replicate k its).flatten = acc ++ (List.replicate (k + 1) its).flatten := by
      rw [List.replicate_succ, List.flatten_cons, List.append_assoc]
    rw [← e2, ← foldl_rep its k (acc ++ its), ← e, List.replicate_succ, List.foldl_cons]

section
variable {X : Cx} {pins : List (Addr × Obj)} {σ : St} {H : Hp} {s : Shared} {l b : Addr} {xs ys zs : List V}

/-! ### the two steps: a tracked list is rewritten, a new list is laid -/
theorem Inv.lset {its its' : List Value} {n : Nat} {f : Array Value → Array Value} {t' : Nat} (I : Inv X pins σ H s) (hH : H l = some (.lst xs))
    (e : s.heap.get? l = some { cls := .type "list", data := .seq its.toArray n }) (hf : f its.toArray = its'.toArray) (hv : Vals ys its') (hz : ys.length ≤ sizeLine) :
    Inv X pins σ (upd H l (.lst ys)) { s with heap := s.heap.update l (Obj.mapSeq f), toks := t' } := by
  have q := PySem.IsL.update e f
  rw [hf] at q
  refine I.write (x := l) (e := l) (by rw [hH]; exact trivial) (.inl rfl) (fun b' u hb hu => (Heap.get?_update_other s.heap (Obj.mapSeq f) (Ne.symm hb)).trans hu) ⟨_, q⟩ ?_
  exact ⟨hz, its', _, hv, q⟩
theorem Inv.lnew {its : List Value} {t' : Nat} (I : Inv X pins σ H s) (hv : Vals ys its) (hz : ys.length ≤ sizeLine) :
    Inv X pins σ (upd H s.heap.objs.size (.lst ys)) { s with heap := s.heap.push { cls := .type "list", data := .seq its.toArray }, toks := t' } :=
  I.laid (fun _ _ q => Heap.get?_push_of_some _ q) (Nat.le_refl _) ⟨hz, its, 0, hv, Heap.get?_push_size _ rfl⟩
theorem Inv.fresh (I : Inv X pins σ H s) : H s.heap.objs.size = none := I.hok.fresh (Nat.le_refl _)
theorem Inv.lstM (I : Inv X pins σ H s) (hH : H l = some (.lst xs)) : xs.length ≤ sizeLine ∧ ∃ (its : List Value) (n : Nat), Vals xs its ∧ xs.length = its.length ∧ s.heap.get? l = some { cls := .type "list", data := .seq its.toArray n } := by
  obtain ⟨z, its, n, r, e⟩ := I.hok l _ hH
  exact ⟨z, its, n, r, r.length, e⟩

theorem notLongL {n : Nat} (h : n ≤ sizeLine) : Builtin.List.listTooLong n = false := by
  unfold Builtin.List.listTooLong
  exact decide_eq_false (by omega)
end

section
variable {X : Cx}

/-! ### methods -/
def rAppend : V → List V → Hp → VK → Prop := fun x vs H Q => ∃ l xs y, x = .ref l ∧ vs = [y] ∧ H l = some (.lst xs) ∧ xs.length < sizeLine ∧ Q .non (upd H l (.lst (xs ++ [y])))
theorem mt_append : MtM X "list.append" rAppend := by
  intro pins s σ H x vs v us Q I rx rv h
  obtain ⟨l, xs, y, rfl, rfl, hH, hz, q⟩ := h
  cases rx
  obtain ⟨u, rfl, ru⟩ := rv.one
  obtain ⟨z, its, n, r, hl, e⟩ := I.lstM hH
  refine call_meets F.slot_list_append ⟨_, e, rfl⟩ F.entry_list_append (F.args_list_append_2 _ _) (PySem.list_append l its.toArray n u (by rw [List.size_toArray]; omega)) ⟨e, ?_⟩
  refine ⟨.non, _, I.lset (its' := its ++ [u]) hH e (by simp) (r.append (.cons ru .nil)) ?_, rfl, q⟩
  rw [List.length_append, List.length_singleton]
  omega

def rExtend : V → List V → Hp → VK → Prop := fun x vs H Q => ∃ l b xs zs, x = .ref l ∧ vs = [.ref b] ∧ H l = some (.lst xs) ∧ H b = some (.lst zs) ∧ xs.length + zs.length ≤ sizeLine ∧ Q .non (upd H l (.lst (xs ++ zs)))
theorem mt_extend : MtM X "list.extend" rExtend := by
  intro pins s σ H x vs v us Q I rx rv h
  obtain ⟨l, b, xs, zs, rfl, rfl, hH, hB, hz, q⟩ := h
  cases rx
  obtain ⟨u, rfl, ru⟩ := rv.one
  cases ru
  obtain ⟨z, its, n, r, hl, e⟩ := I.lstM hH
  obtain ⟨z2, its2, n2, r2, hl2, e2⟩ := I.lstM hB
  have hsz : its.toArray.size + its2.toArray.size ≤ sizeLine := by rw [List.size_toArray, List.size_toArray]; omega
  have hlong : ¬ (!its.toArray.isEmpty && Builtin.List.listTooLong (its.toArray.size + its2.toArray.size)) = true := by
    rw [notLongL hsz, Bool.and_false]
    exact Bool.false_ne_true
  refine call_meets F.slot_list_extend ⟨_, e, rfl⟩ F.entry_list_extend (F.args_list_extend_2 _ _)
    (AutoSeq1.list_extend_list_list_0 l its.toArray n b its2.toArray n2 hlong (by rw [List.size_toArray]; omega) (by omega)) ⟨e, e2, ?_⟩
  refine ⟨.non, _, I.lset (its' := its ++ its2) hH e (by simp) (r.append r2) ?_, rfl, q⟩
  rw [List.length_append]
  omega

def rPop : V → List V → Hp → VK → Prop := fun x vs H Q => ∃ l xs y, x = .ref l ∧ vs = [] ∧ H l = some (.lst xs) ∧ xs[xs.length - 1]? = some y ∧ Q y (upd H l (.lst xs.dropLast))
theorem mt_pop : MtM X "list.pop" rPop := by
  intro pins s σ H x vs v us Q I rx rv h
  obtain ⟨l, xs, y, rfl, rfl, hH, hy, q⟩ := h
  cases rx
  have hus := rv.zero
  subst hus
  obtain ⟨z, its, n, r, hl, e⟩ := I.lstM hH
  obtain ⟨u, hu, ru⟩ := r.get hy
  have hy' : its.toArray[its.toArray.size - 1]? = some u := by
    show its.toArray[its.length - 1]? = some u
    rw [← Array.getElem?_toList, ← hl]
    exact hu
  refine call_meets F.slot_list_pop ⟨_, e, rfl⟩ F.entry_list_pop (F.args_list_pop_1 _) (MeetsSeq.list_pop_last l its.toArray n u hy' (by rw [List.size_toArray]; omega)) ⟨e, ?_⟩
  refine ⟨y, _, I.lset (its' := its.dropLast) hH e ?_ r.dropLast ?_, ru, q⟩
  · show its.toArray.eraseIdxIfInBounds (its.toArray.size - 1) = its.dropLast.toArray
    rw [List.size_toArray, List.eraseIdxIfInBounds_toArray, erase_last]
  · rw [List.length_dropLast]
    omega

def rPopAt : V → List V → Hp → VK → Prop := fun x vs H Q => ∃ l xs i k y, x = .ref l ∧ vs = [.int i] ∧ H l = some (.lst xs) ∧ -(2 ^ 63) ≤ i ∧ i < 2 ^ 63 ∧ seqIndex? i xs.length = some k ∧ xs[k]? = some y ∧ Q y (upd H l (.lst (xs.eraseIdx k)))
theorem mt_popAt : MtM X "list.pop" rPopAt := by
  intro pins s σ H x vs v us Q I rx rv h
  obtain ⟨l, xs, i, k, y, rfl, rfl, hH, h1, h2, hk, hy, q⟩ := h
  cases rx
  obtain ⟨u, rfl, ru⟩ := rv.one
  obtain ⟨t, rfl⟩ := ru
  obtain ⟨z, its, n, r, hl, e⟩ := I.lstM hH
  obtain ⟨w, hw, rw'⟩ := r.get hy
  refine call_meets F.slot_list_pop ⟨_, e, rfl⟩ F.entry_list_pop (F.args_list_pop_2 _ _)
    (MeetsSeq.list_pop_at l its.toArray n i t k w (fitsIndex_both h1 h2) (by rw [List.size_toArray, ← hl]; exact hk) (by rw [← Array.getElem?_toList]; exact hw) (by rw [List.size_toArray]; omega)) ⟨e, ?_⟩
  refine ⟨y, _, I.lset (its' := its.eraseIdx k) hH e ?_ (r.eraseIdx k) ?_, rw', q⟩
  · show its.toArray.eraseIdxIfInBounds k = (its.eraseIdx k).toArray
    rw [List.eraseIdxIfInBounds_toArray]
  · have := len_erase xs k
    omega

def rReverse : V → List V → Hp → VK → Prop := fun x vs H Q => ∃ l xs, x = .ref l ∧ vs = [] ∧ H l = some (.lst xs) ∧ Q .non (upd H l (.lst xs.reverse))
theorem mt_reverse : MtM X "list.reverse" rReverse := by
  intro pins s σ H x vs v us Q I rx rv h
  obtain ⟨l, xs, rfl, rfl, hH, q⟩ := h
  cases rx
  have hus := rv.zero
  subst hus
  obtain ⟨z, its, n, r, hl, e⟩ := I.lstM hH
  refine call_meets F.slot_list_reverse ⟨_, e, rfl⟩ F.entry_list_reverse (F.args_list_reverse_1 _) (AutoSeq1.list_reverse_list_0 l its.toArray n (by rw [List.size_toArray]; omega)) ⟨e, ?_⟩
  refine ⟨.non, _, I.lset (its' := its.reverse) hH e (by simp) r.reverse ?_, rfl, q⟩
  rw [List.length_reverse]
  omega

def rClear : V → List V → Hp → VK → Prop := fun x vs H Q => ∃ l xs, x = .ref l ∧ vs = [] ∧ H l = some (.lst xs) ∧ Q .non (upd H l (.lst []))
theorem mt_clear : MtM X "list.clear" rClear := by
  intro pins s σ H x vs v us Q I rx rv h
  obtain ⟨l, xs, rfl, rfl, hH, q⟩ := h
  cases rx
  have hus := rv.zero
  subst hus
  obtain ⟨z, its, n, r, hl, e⟩ := I.lstM hH
  refine call_meets F.slot_list_clear ⟨_, e, rfl⟩ F.entry_list_clear (F.args_list_clear_1 _) (AutoSeq1.list_clear_list_0 l its.toArray n (by rw [List.size_toArray]; omega)) ⟨e, ?_⟩
  exact ⟨.non, _, I.lset (its' := []) (ys := []) hH e rfl .nil (Nat.zero_le _), rfl, q⟩

/-! ### list + list, list += list, list * int -/
def rCat : R2 := fun x y H Q => ∃ l b xs zs, x = .ref l ∧ y = .ref b ∧ H l = some (.lst xs) ∧ H b = some (.lst zs) ∧ xs.length + zs.length ≤ sizeLine ∧ ∀ p, H p = none → Q (.ref p) (upd H p (.lst (xs ++ zs)))
theorem op_cat : OpR X (binaryOp .Add) rCat := by
  intro pins s σ H x y v u Q I rx ry h
  obtain ⟨l, b, xs, zs, rfl, rfl, hH, hB, hz, q⟩ := h
  cases rx
  cases ry
  obtain ⟨z, its, n, r, hl, e⟩ := I.lstM hH
  obtain ⟨z2, its2, n2, r2, hl2, e2⟩ := I.lstM hB
  refine PySem.P.add_list e e2 ?_ (by rw [List.size_toArray, List.size_toArray]; omega)
  have ea : its.toArray ++ its2.toArray = (its ++ its2).toArray := by simp
  rw [ea]
  exact ⟨.ref _, _, I.lnew (t' := s.toks) (r.append r2) (by rw [List.length_append]; omega), rfl, q _ I.fresh⟩
/-- a list times an int (a negative one is nothing) -/
def rRep : R2 := fun x y H Q => ∃ l k xs, x = .ref l ∧ y = .int k ∧ H l = some (.lst xs) ∧ -(2 ^ 63) ≤ k ∧ k < 2 ^ 63 ∧ xs.length * k.toNat ≤ sizeLine ∧
  ∀ p, H p = none → Q (.ref p) (upd H p (.lst (List.replicate k.toNat xs).flatten))
theorem len_rep {α : Type} (xs : List α) (k : Nat) : (List.replicate k xs).flatten.length = k * xs.length := by
  induction k with
  | zero => simp
  | succ k ih => rw [List.replicate_succ, List.flatten_cons, List.length_append, ih, Nat.succ_mul, Nat.add_comm]
theorem op_rep : OpR X (binaryOp .Mult) rRep := by
  intro pins s σ H x y v u Q I rx ry h
  obtain ⟨l, k, xs, rfl, rfl, hH, h1, h2, hz, q⟩ := h
  cases rx
  obtain ⟨t, rfl⟩ := ry
  obtain ⟨z, its, n, r, hl, e⟩ := I.lstM hH
  have hlen : its.toArray.size * k.toNat ≤ sizeLine := by rw [List.size_toArray, ← hl]; exact hz
  have hcap : ¬ its.toArray.size * k.toNat > (2 ^ 63 - 1) / 8 := by
    have : (sizeLine : Nat) ≤ (2 ^ 63 - 1) / 8 := by decide
    omega
  have hfit : ¬ (!Builtin.List.listFitsIndex k) = true := by
    rw [fitsIndex_both h1 h2]
    exact Bool.false_ne_true
  have hlong : ¬ Builtin.List.listTooLong (its.toArray.size * k.toNat) = true := by
    rw [notLongL hlen]
    exact Bool.false_ne_true
  have hnew : List.foldl (fun x1 x2 => x1 ++ x2) #[] (List.replicate (if its.toArray.isEmpty = true then 0 else k.toNat) its.toArray) = (List.replicate k.toNat its).flatten.toArray := by
    have f0 : ∀ m : Nat, List.foldl (fun x1 x2 => x1 ++ x2) #[] (List.replicate m its.toArray) = (List.replicate m its).flatten.toArray := fun m => by
      have := foldl_rep its m []
      rw [List.nil_append] at this
      exact this
    rw [f0]
    cases its with
    | nil => simp
    | cons a r' => rw [if_neg (by simp)]
  refine wpAny_binaryOp_repeat_ref (T := "list") (U := "int") (by decide) ⟨_, e, rfl⟩ (fun s' => typeIs_int s' k t) noFill_list_mul F.fills_int_mul F.slot_int_rmul repeat_list F.slot_int_index.lookup
    (call_meets F.slot_int_rmul (typeIs_int s k t) F.entry_int_rmul (F.args_int_rmul_2 _ _) (int___rmul___int_list k t l its.toArray n)
      ⟨e, rfl, ⟨_, e, rfl⟩, call_meets F.slot_list_mul ⟨_, e, rfl⟩ F.entry_list_mul (F.args_list_mul_2 _ _) (AutoListH.list___mul___list_int_3 l its.toArray n k t hfit hcap hlong) ⟨e, ?_⟩⟩)
  rw [hnew]
  exact ⟨.ref _, _, I.lnew (t' := s.toks) (r.rep k.toNat) (by rw [len_rep, Nat.mul_comm]; exact hz), rfl, q _ I.fresh⟩

/-! ### del xs[i] -/
theorem del_list {pins : List (Addr × Obj)} {s : Shared} {σ : St} {H : Hp} {l : Addr} {xs : List V} {i : Int} {t : Tok} {k : Nat} {Q : Unit → Shared → Prop} (I : Inv X pins σ H s) (hH : H l = some (.lst xs))
    (h1 : -(2 ^ 63) ≤ i) (h2 : i < 2 ^ 63) (hk : seqIndex? i xs.length = some k) (h : ∀ s', Inv X pins σ (upd H l (.lst (xs.eraseIdx k))) s' → Q () s') :
    wpAny (model X.prog X.w) X.A (delItem (.ref l) (.int i t)) Q X.xe s := by
  obtain ⟨z, its, n, r, hl, e⟩ := I.lstM hH
  refine PySem.P.delItem_list (k := k) e (fitsIndex_both h1 h2) (by rw [List.size_toArray, ← hl]; exact hk) (h _ ?_) (by rw [List.size_toArray]; omega)
  refine I.lset (its' := its.eraseIdx k) (t' := s.toks) hH e ?_ (r.eraseIdx k) ?_
  · show its.toArray.eraseIdxIfInBounds k = (its.eraseIdx k).toArray
    rw [List.eraseIdxIfInBounds_toArray]
  · have := len_erase xs k
    omega
end

/-! ### xs[a:b] = ys -/
section
variable {prog : Program} {w : World} {A : Around} {E : Value → Shared → Prop} {s : Shared}
theorem splice_eq (its its2 : List Value) (a c : Nat) : its.toArray.extract 0 a ++ its2.toArray ++ its.toArray.extract c its.toArray.size = (its.take a ++ its2 ++ its.drop c).toArray := by
  apply Array.toList_inj.mp
  first
    | (simp
       exact List.take_of_length_le (by simp))
    | simp [List.take_of_length_le]
    | simp
theorem bounds_run {a c n : Nat} (hac : a ≤ c) (hc : c ≤ n) : sliceBounds (some (a : Int)) (some (c : Int)) none n = ((a : Int), (c : Int), 1) := by
  simp only [sliceBounds, Option.getD_none]
  have h1 : ¬ ((a : Int) < 0) := by omega
  have h2 : ¬ ((c : Int) < 0) := by omega
  simp only [h1, h2, if_false, show (1 : Int) > 0 by decide, if_true]
  congr 1
  · omega
  · congr 1; omega
set_option maxRecDepth 100000 in
/-- list.__setitem__ with a slice of step one and another list -/
theorem setItem_slice {l b sl : Addr} {items new : Array Value} {n n2 : Nat} {vl vu : Value} {a c : Nat} {Q : Unit → Shared → Prop}
    (e : s.heap.get? l = some { cls := .type "list", data := .seq items n }) (e2 : s.heap.get? b = some { cls := .type "list", data := .seq new n2 }) (hne : l ≠ b)
    (hs : s.heap.IsSliceOf sl vl vu .none) (pl : IsPart vl (some (a : Int))) (pu : IsPart vu (some (c : Int))) (hac : a ≤ c) (hc : c ≤ items.size)
    (hsz : items.size + new.size ≤ sizeLine) (h : Q () { s with heap := s.heap.update l (Obj.mapSeq fun xs => xs.extract 0 a ++ new ++ xs.extract c xs.size) }) :
    wpAny (model prog w) A (setItem (.ref l) (.ref sl) (.ref b)) Q E s := by
  have hl : s.heap.IsList l items := PySem.IsL.isList e
  have hb : s.heap.IsList b new := PySem.IsL.isList e2
  obtain ⟨os, hos, hcs, hds⟩ := id hs
  have hTs : s.TypeIs (.ref sl) "slice" := ⟨os, hos, hcs⟩
  have hstep : ¬ ((rawPart none == rawInt 0) = true) := Bool.false_ne_true
  have hsame : Builtin.List.listSameRef (.ref l) (.ref b) = false := by
    unfold Builtin.List.listSameRef
    exact beq_eq_false_iff_ne.mpr hne
  have hmax : (max (a : Int) (c : Int)).toNat = c := by omega
  have hz' : ((fun xs : Array Value => xs.extract 0 a ++ new ++ xs.extract c xs.size) items).size ≤ sizeLine + 1 := by
    simp only [Array.size_append, Array.size_extract]
    omega
  unfold setItem
  try with_reducible refine wpAny_holding ?_
  first | refine wpAny_bind (wpAny_pure ?_) | skip
  refine wpAny_bind (wpAny_sequenceKey hl.typeIs (by decide) ?_)
  refine wpAny_bind (wpAny_callSpecial?_slot (name := Str.ofString "__setitem__") hl.typeIs slot_list_setitem
    (wpAny_call_entry slot_list_setitem hl.typeIs entry_list_setitem ?_ (args_list_setitem _ _ _)))
  show wpAny _ _ (Builtin.List.listSubscript? (.ref sl) >>= _) _ _ s
  refine wpAny_bind ?_
  unfold Builtin.List.listSubscript?
  refine wpAny_bind (wpAny_specialOf hTs slice_no_index ?_)
  simp only [Option.isNone_none, if_true]
  refine wpAny_pure ?_
  show wpAny _ _ (typeOf (.ref sl) >>= _) _ _ s
  refine wpAny_bind (wpAny_typeOf hTs ?_)
  first
    | rw [if_neg (by decide)]
    | refine PySem.W.KFB.if_not (by decide) ?_
  rw [listSliceParts_eq]
  refine wpAny_bind (wpAny_bind (wpAny_field hos hds (x := .none) rfl (wpAny_bind (wpAny_listPart .none ?_))))
  rw [if_neg hstep]
  refine wpAny_bind (wpAny_field hos hds (x := vl) rfl (wpAny_bind (wpAny_listPart pl ?_)))
  refine wpAny_bind (wpAny_field hos hds (x := vu) rfl (wpAny_bind (wpAny_listPart pu (wpAny_pure ?_))))
  first
    | simp only [hsame, Bool.false_eq_true, if_false]
    | refine PySem.W.KFB.if_not hsame ?_
    | (dsimp only
       rw [if_neg (by rw [hsame]; exact Bool.false_ne_true)])
  refine wpAny_bind (m := Builtin.List.listAllItems (.ref b) "must assign iterable to extended slice") ?_
  unfold Builtin.List.listAllItems
  refine wpAny_bind (wpAny_typeOf hb.typeIs ?_)
  first
    | refine PySem.W.KFB.if_so (by decide) ?_
    | rw [if_pos (by decide)]
    | simp only [beq_self_eq_true, Bool.true_or, if_true]
  unfold Builtin.List.listItems
  refine wpAny_bind (wpAny_seqItems e2 rfl (wpAny_pure ?_))
  refine wpAny_bind (wpAny_bind (wpAny_seqItems e rfl (wpAny_pure ?_)))
  refine wpAny_bind (wpAny_of_eq ((sliceIndices_raw (some (a : Int)) (some (c : Int)) none items.size (by simp)).trans (congrArg (pure : Int × Int × Int → Sem (Int × Int × Int)) (bounds_run hac hc))) ?_)
  show wpAny _ _ (if ((1 : Int) == 1) = true then _ else _) _ _ s
  rw [if_pos (by decide)]
  refine wpAny_bind (wpAny_rule ?_)
  first
    | simp only [notLongL hsz, Bool.false_eq_true, if_false]
    | refine PySem.W.KFB.if_not (notLongL hsz) ?_
  first | refine wpAny_bind (wpAny_pure ?_) | skip
  show wpAny _ _ (updateSeq l (fun xs => xs.extract 0 ((a : Int)).toNat ++ new ++ xs.extract (max (a : Int) (c : Int)).toNat xs.size) >>= _) _ _ s
  rw [hmax, Int.toNat_natCast]
  refine wpAny_bind (wpAny_updateSeq (hz := Nat.le_trans (Nat.le_add_right _ _) hsz) (_hz' := hz') e rfl ?_)
  refine wpAny_bind (wpAny_letGo ?_)
  first
    | exact wpAny_bind (wpAny_pure (wpAny_pure ⟨.none, rfl, wpAny_pure h⟩))
    | exact wpAny_pure ⟨.none, rfl, wpAny_pure h⟩
end

section
variable {X : Cx}
/-- xs[a:c] = ys of another list, at the value level: sl is the slice object that was just made -/
theorem set_slice {pins : List (Addr × Obj)} {s : Shared} {σ : St} {H : Hp} {l b sl : Addr} {xs ys : List V} {a c : Int} {vl vu : Value} {Q : Unit → Shared → Prop} (I : Inv X pins σ H s)
    (hH : H l = some (.lst xs)) (hB : H b = some (.lst ys)) (hne : l ≠ b) (hs : s.heap.IsSliceOf sl vl vu .none) (ra : RelV (.int a) vl) (rc : RelV (.int c) vu) (h0 : 0 ≤ a) (hac : a ≤ c) (hc : c ≤ xs.length)
    (hz : xs.length + ys.length ≤ sizeLine) (h : ∀ s', Inv X pins σ (upd H l (.lst (xs.take a.toNat ++ ys ++ xs.drop c.toNat))) s' → Q () s') :
    wpAny (model X.prog X.w) X.A (setItem (.ref l) (.ref sl) (.ref b)) Q X.xe s := by
  obtain ⟨ta, rfl⟩ := ra
  obtain ⟨tc, rfl⟩ := rc
  obtain ⟨z, its, n, r, hl, e⟩ := I.lstM hH
  obtain ⟨z2, its2, n2, r2, hl2, e2⟩ := I.lstM hB
  obtain ⟨a', rfl⟩ := Int.eq_ofNat_of_zero_le h0
  obtain ⟨c', rfl⟩ := Int.eq_ofNat_of_zero_le (Int.le_trans h0 hac)
  simp only [Int.toNat_natCast] at h
  refine setItem_slice (a := a') (c := c') e e2 hne hs (.int _ _) (.int _ _) (by omega) (by rw [List.size_toArray]; omega) (by rw [List.size_toArray, List.size_toArray]; omega) (h _ ?_)
  refine I.lset (its' := its.take a' ++ its2 ++ its.drop c') (t' := s.toks) hH e ?_ (Vals.append (Vals.append (r.take _) r2) (r.drop _)) ?_
  · exact splice_eq its its2 a' c'
  · rw [List.length_append, List.length_append, List.length_take, List.length_drop]
    omega
end
end L2

namespace Att
open PySem PySem.W PySem.Calls PyProof.Rows

/-! ### the script -/
theorem ints_of_wellAll {P : Params} {h : Heap} : ∀ (ns : List Int) (vs : List Value), WellAll P h vs (ns.map WData.int) → IntsAre vs ns := by
  intro ns
  induction ns with
  | nil =>
    intro vs w
    rw [List.map_nil] at w
    cases w
    exact .nil
  | cons n ns ih =>
    intro vs w
    rw [List.map_cons] at w
    cases w with
    | cons a b =>
      cases a
      exact .cons _ _ (ih _ b)

theorem script_of {l : OpenLaw} {n : Nat} (hn : l.most = some n) {P : Params} {h : Heap} {args : List WData} {vals : List Value}
    (hpre : l.row.toRowW.claim.pre args = true) (hwl : WellAll P h vals args) :
    ∃ a vs ns, vals = [Value.ref a] ∧ args = [WData.list (ns.map WData.int)] ∧ h.get? a = some { cls := .type "list", data := .seq vs.toArray } ∧ IntsAre vs ns ∧ ns.length ≤ n := by
  have hsh : WShape.hasAll [] args [.list .int] = true := (pre_splitW hpre).1
  have hc : l.pre.holds [] { args := args } = true := (pre_splitW hpre).2
  obtain ⟨d, r, rfl, h1, h2⟩ := hasAllW_cons hsh
  obtain rfl := hasAllW_nil h2
  obtain ⟨xs, rfl, h3⟩ := hasW_list h1
  obtain ⟨ns, rfl⟩ := items_int h3
  have hlen : ns.length ≤ n := by
    unfold OpenLaw.pre at hc
    have h4 : (WTm.not (.lt (.lit (.int (n : Int))) (.len (.arg 0)))).holds [] { args := [.list (ns.map .int)] } = true := by
      have h4 := (holds_andW hc).1
      rw [hn] at h4
      exact h4
    have h5 := condW_of h4 (w_not (w_lt w_lit (w_len_list (w_arg rfl))))
    rw [List.length_map] at h5
    refine Nat.le_of_not_lt fun q => ?_
    have q' : (n : Int) < ((ns.length : Nat) : Int) := by omega
    first
      | (rw [decide_eq_true q'] at h5; exact absurd h5 (by decide))
      | (simp at h5; omega)
  cases hwl with
  | cons w1 w2 =>
    cases w2
    cases w1 with
    | list ho hall => exact ⟨_, _, ns, rfl, rfl, ho, ints_of_wellAll ns _ hall, hlen⟩

theorem post_true (l : OpenLaw) (args : List WData) : l.row.toRowW.claim.post args (.bool true) args = true :=
  postW_of (r := l.row.toRowW) (X := (true == true))
    (show WShape.has [] (.bool true) .bool = true by first | rfl | decide | simp [WShape.has, WShape.arms, WShape.armsAll])
    (show (WTm.eq .res (.lit (.bool true))).value [] { args := args, res := some (.bool true), after := args } = some (.bool (true == true)) from w_eq_bool (w_res rfl) w_lit) rfl

/-! ### the attachment: holds_open's last premise (the goal 'hc' behind k_head) from a wpAny of the law's body -/
theorem attach {l : OpenLaw} {n : Nat} {q : Program} {loose : List Str} {XP : (Str → Option Value) → Heap → Prop} {YP : World → Heap → Prop} {d : DefRec} {x : Str}
    (hn : l.most = some n) (hdf : d.params.defaults = [])
    (hbind : ∀ pm cd doc v : Value, bindArgs (docDef d.name d.params d.body d.scope pm cd doc) ⟨[v], []⟩ = pure [(x, v)])
    (hx : d.scope.names.lookup x = some .local ∨ d.scope.names.lookup x = some .cell)
    (hk : d.scope.kind = .function) (hco : d.scope.isCoroutine = false) (hgen : d.scope.isGenerator = false)
    (body : ∀ (w : World) (s₀ s₁ s : Shared) (mg mb : Str → Option Value) (fa : Addr) (o : Obj) (pm cd doc : Value) (a : Addr) (vs : List Value) (ns : List Int),
      Ground q loose [] XP w s₀ mg mb s₁.heap → YP w s₁.heap →
      s₁.heap.get? fa = some o → o.data = .func (docDef d.name d.params d.body d.scope pm cd doc) → s₁.heap.CodeRec cd d.name → mg d.name = some (.ref fa) →
      s₁.heap.get? a = some { cls := .type "list", data := .seq vs.toArray } → IntsAre vs ns → ns.length ≤ n →
      s.gens = #[] → s.os = s₁.os →
      Fr s₁.heap s₁.heap.objs.size s.heap (bindL (envOfC d.name d.scope s₁.heap.objs.size fa cd).kindOf [(x, .ref a)] fun _ => none) →
      Cl s₁.heap.objs.size (cellsFrom (s₁.heap.objs.size + 1) d.scope.names []) s.heap (bindC (envOfC d.name d.scope s₁.heap.objs.size fa cd).kindOf [(x, .ref a)] fun _ => none) →
      wpAny (model l.prog w) (callerA.deeper (envOfC d.name d.scope s₁.heap.objs.size fa cd)) (execs d.body (envOfC d.name d.scope s₁.heap.objs.size fa cd))
        (fun f s' => f = .ret (.bool true) ∧ OldK s₁.heap s'.heap ∧ s'.os = s₁.os ∧ AllBare s'.gens) (fun _ _ => False) s) :
    WalkO q loose XP YP l.row.toRowW d [] (fun f vs => PySem.call f vs) := by
  intro w s₀ s₁ mg mb G Y fa o pm cd doc dV kV ho hd hcd hD hmg hg args vals as hpre hlay hrd hwl hlo
  obtain rfl : dV = .none := Dflts.none hD hdf
  obtain rfl : kV = .none := Dflts.noKw hD
  obtain ⟨a, vs, ns, rfl, rfl, hobj, hints, hlen⟩ := script_of hn hpre hwl
  refine enter_call ?_
  refine call_cells_ret (o := o) (by rw [depth_caller]; decide) ho (fd_plain hd) G.T.nolimit hcd (hbind pm cd doc (.ref a)) (fun y hy => ?_) (fun h₁ tk F X => ?_) hco hgen hk
  · obtain rfl : y = (x, Value.ref a) := List.mem_singleton.mp hy
    rcases hx with e | e
    · exact .inl e
    · exact .inr ⟨e, cellsFrom_some _ _ _ (.inl e)⟩
  · refine wpAny_mono (body w s₀ s₁ { s₁ with heap := h₁, toks := tk } mg mb fa o pm cd doc a vs ns G Y ho (fd_plain hd) hcd hmg hobj hints hlen hg rfl F X) (fun f s' hq => ?_) (fun _ _ hq => hq)
    obtain ⟨rfl, h2, h3, h4⟩ := hq
    exact ⟨.inl ⟨.bool true, .bool true, [], rfl, fun _ => rfl, .bool true, post_true l _, fun _ => ⟨List.Pairwise.nil, fun _ hm => (nomatch hm)⟩⟩, h2, h3, h4⟩

/-- the same from a codeAny of the CALL (for a layer whose function contracts speak of calls) -/
theorem attach_call {l : OpenLaw} {n : Nat} {q : Program} {loose : List Str} {XP : (Str → Option Value) → Heap → Prop} {YP : World → Heap → Prop} {d : DefRec}
    (hn : l.most = some n) (hdf : d.params.defaults = [])
    (call : ∀ (w : World) (s₀ s₁ : Shared) (mg mb : Str → Option Value) (fa : Addr) (o : Obj) (pm cd doc : Value) (a : Addr) (vs : List Value) (ns : List Int),
      Ground q loose [] XP w s₀ mg mb s₁.heap → YP w s₁.heap →
      s₁.heap.get? fa = some o → o.data = .func (docDef d.name d.params d.body d.scope pm cd doc) → s₁.heap.CodeRec cd d.name → mg d.name = some (.ref fa) →
      s₁.heap.get? a = some { cls := .type "list", data := .seq vs.toArray } → IntsAre vs ns → ns.length ≤ n → s₁.gens = #[] →
      codeAny (model l.prog w) callerA (.call (.ref fa) ⟨[.ref a], []⟩) (fun r s' => r = .ok (.ret (.bool true)) ∧ OldK s₁.heap s'.heap ∧ s'.os = s₁.os ∧ AllBare s'.gens) s₁) :
    WalkO q loose XP YP l.row.toRowW d [] (fun f vs => PySem.call f vs) := by
  intro w s₀ s₁ mg mb G Y fa o pm cd doc dV kV ho hd hcd hD hmg hg args vals as hpre hlay hrd hwl hlo
  obtain rfl : dV = .none := Dflts.none hD hdf
  obtain rfl : kV = .none := Dflts.noKw hD
  obtain ⟨a, vs, ns, rfl, rfl, hobj, hints, hlen⟩ := script_of hn hpre hwl
  refine enter_call (codeAny_mono (call w s₀ s₁ mg mb fa o pm cd doc a vs ns G Y ho (fd_plain hd) hcd hmg hobj hints hlen hg) fun r s' hq => ?_)
  obtain ⟨rfl, h2, h3, h4⟩ := hq
  exact ⟨.inl ⟨.bool true, .bool true, [], rfl, fun _ => rfl, .bool true, post_true l _, fun _ => ⟨List.Pairwise.nil, fun _ hm => (nomatch hm)⟩⟩, h2, h3, h4⟩

/-- the same where the top left finished generators (o_head chose holds_openN): nothing may have changed at all and no generator may be left -/
theorem attachN {l : OpenLaw} {n : Nat} {q : Program} {loose : List Str} {XP : (Str → Option Value) → Heap → Prop} {YP : World → Heap → Prop} {d : DefRec} {x : Str}
    (hn : l.most = some n) (hdf : d.params.defaults = [])
    (hbind : ∀ pm cd doc v : Value, bindArgs (docDef d.name d.params d.body d.scope pm cd doc) ⟨[v], []⟩ = pure [(x, v)])
    (hx : d.scope.names.lookup x = some .local ∨ d.scope.names.lookup x = some .cell)
    (hk : d.scope.kind = .function) (hco : d.scope.isCoroutine = false) (hgen : d.scope.isGenerator = false)
    (body : ∀ (w : World) (s₀ s₁ s : Shared) (mg mb : Str → Option Value) (fa : Addr) (o : Obj) (pm cd doc : Value) (a : Addr) (vs : List Value) (ns : List Int),
      Ground q loose [] XP w s₀ mg mb s₁.heap → YP w s₁.heap →
      s₁.heap.get? fa = some o → o.data = .func (docDef d.name d.params d.body d.scope pm cd doc) → s₁.heap.CodeRec cd d.name → mg d.name = some (.ref fa) →
      s₁.heap.get? a = some { cls := .type "list", data := .seq vs.toArray } → IntsAre vs ns → ns.length ≤ n →
      s.gens = #[] → s.os = s₁.os →
      Fr s₁.heap s₁.heap.objs.size s.heap (bindL (envOfC d.name d.scope s₁.heap.objs.size fa cd).kindOf [(x, .ref a)] fun _ => none) →
      Cl s₁.heap.objs.size (cellsFrom (s₁.heap.objs.size + 1) d.scope.names []) s.heap (bindC (envOfC d.name d.scope s₁.heap.objs.size fa cd).kindOf [(x, .ref a)] fun _ => none) →
      wpAny (model l.prog w) (callerA.deeper (envOfC d.name d.scope s₁.heap.objs.size fa cd)) (execs d.body (envOfC d.name d.scope s₁.heap.objs.size fa cd))
        (fun f s' => f = .ret (.bool true) ∧ (∀ b o, s₁.heap.get? b = some o → s'.heap.get? b = some o) ∧ s'.os = s₁.os ∧ s'.gens = #[]) (fun _ _ => False) s) :
    WalkN q loose XP YP l.row.toRowW d [] (fun f vs => PySem.call f vs) := by
  intro w s₀ s₁ mg mb G Y fa o pm cd doc dV kV ho hd hcd hD hmg hg args vals as hpre hlay hrd hwl hlo
  obtain rfl : dV = .none := Dflts.none hD hdf
  obtain rfl : kV = .none := Dflts.noKw hD
  obtain ⟨a, vs, ns, rfl, rfl, hobj, hints, hlen⟩ := script_of hn hpre hwl
  refine enter_callW ?_
  refine call_cells_ret (o := o) (by rw [depth_caller]; decide) ho (fd_plain hd) G.T.nolimit hcd (hbind pm cd doc (.ref a)) (fun y hy => ?_) (fun h₁ tk F X => ?_) hco hgen hk
  · obtain rfl : y = (x, Value.ref a) := List.mem_singleton.mp hy
    rcases hx with e | e
    · exact .inl e
    · exact .inr ⟨e, cellsFrom_some _ _ _ (.inl e)⟩
  · refine wpAny_mono (body w s₀ s₁ { s₁ with heap := h₁, toks := tk } mg mb fa o pm cd doc a vs ns G Y ho (fd_plain hd) hcd hmg hobj hints hlen hg rfl F X) (fun f s' hq => ?_) (fun _ _ hq => hq)
    obtain ⟨rfl, h2, h3, h4⟩ := hq
    exact ⟨.inl ⟨.bool true, .bool true, [], rfl, fun _ => rfl, .bool true, post_true l _, fun _ => ⟨List.Pairwise.nil, fun _ hm => (nomatch hm)⟩⟩, h2, h3, h4⟩

/-! ### rules over ANY heap (no ledger) from facts about the written part K: the library's own take a ledger (News) for what they write -/
section
variable {prog : Program} {w : World} {A : Around} {E : Value → Shared → Prop} {s : Shared} {K : Frag}

/-- a def of the module, or a method (qual 'C.m'), entered: the frame is the next address; cells behind it -/
theorem call_fn {R : Result → Shared → Prop} {name qual : Str} {params : Arguments} {body : List Stmt} {scope : Scope} {dV kV doc pm cdv ct oc : Value} {an od : Option Addr} {osl : Array (Option Value)} {f : Addr} {args : Args} {binds : List (Str × Value)}
    (X : K.In s.heap) (hlim : s.heap.NoLimit) (ho : K.lookup f = some ⟨oc, od, .func (fnOf name qual params body scope dV kV doc pm an cdv ct), osl⟩) (hcd : codeIn K cdv qual = true) (hroom : A.depth < recursionLimit)
    (hbind : BindsTo s (fnOf name qual params body scope dV kV doc pm an cdv ct) args binds)
    (hkind : (binds.all fun y => scope.names.lookup y.1 == some .local || scope.names.lookup y.1 == some .cell) = true)
    (h : ∀ s₁, InCallC s s.heap.objs.size (bindL (envOfC qual scope s.heap.objs.size f cdv).kindOf binds fun _ => none) (cellsFrom (s.heap.objs.size + 1) scope.names [])
        (bindC (envOfC qual scope s.heap.objs.size f cdv).kindOf binds fun _ => none) s₁ →
      wpAny (model prog w) (A.deeper (envOfC qual scope s.heap.objs.size f cdv)) (execs body (envOfC qual scope s.heap.objs.size f cdv))
        (fun fl s' => R (.ok (.ret (match fl with | .ret v => v | _ => .none))) s')
        (fun e s' => wpAny (model prog w) (A.deeper (envOfC qual scope s.heap.objs.size f cdv)) (leaving (envOfC qual scope s.heap.objs.size f cdv) e) (fun _ s'' => R (.error e) s'') (fun e' s'' => R (.error e') s'') s') s₁)
    (hco : scope.isCoroutine = false) (hgen : scope.isGenerator = false) (hk : scope.kind = .function) : codeAny (model prog w) A (.call (.ref f) args) R s := by
  refine codeAny_call_function hroom (X _ _ ho) rfl hco hgen rfl (codeRec_of X hcd) (hbind _ _ _ _ ?_)
  refine wpAny_newFunctionEnv_cells hk (kindsX hkind _) fun env he s₁ x => ?_
  subst he
  exact ⟨hlim.keeps x.toInCall.keep, codeAny_func (h s₁ x)⟩

/-- C(..): dict at size, instance at size + 1, then __init__ -/
theorem make_obj {R : Result → Shared → Prop} {C fI : Addr} {rest : List Value} {kw : List (Str × Value)}
    (X : K.In s.heap) (hm : makesIn K C = true) (hi : findIn K (.ref C) "__init__" = some (some (.ref fI))) (hf : isFn K (.ref fI) = true)
    (h : codeAny (model prog w) (A.under (.builtin "type.__call__" ⟨.ref C :: rest, kw⟩)) (.call (.ref fI) ⟨.ref (s.heap.objs.size + 1) :: rest, kw⟩) (InitBack (s.heap.objs.size + 1) R)
      { s with heap := (s.heap.push emptyDict).push (instObj C s.heap.objs.size) }) : codeAny (model prog w) A (.call (.ref C) ⟨rest, kw⟩) R s := by
  obtain ⟨hh, g, d, t, os⟩ := s
  exact make_core (makes_of X hm) (looks_findIn X hi) (fun self => bind_fn X self (beq_iff_eq.mp hf)) (.inl rfl) h

/-- x.name where the instance's dict holds the name and the class does not -/
theorem get_field {x C : Addr} {ox : Obj} {es : List DictEntry} {n : Nat} {name : Str} {expr : Bool} {v : Value} {Q : Value → Shared → Prop}
    (X : K.In s.heap) (I : PySem.W.InstAt s.heap x ox C (some (dictOf es n))) (hg : plainGet K C name = true) (hh : hasDictIn K C = true) (ha : findIn K (.ref C) name = some none)
    (hl : getL name es = some (some v)) (hv : handedIn v = true) (h : Q v { s with toks := s.toks + 1 }) : wpAny (model prog w) A (getAttr (.ref x) name expr) Q E s :=
  get_value X I (plainGet_of hg).1 (findObj_own hh ha rfl hl) hv h

/-- x.m(..): the method found in the class -/
theorem get_method {x C f : Addr} {ox : Obj} {es : List DictEntry} {n : Nat} {name : Str} {pl : Sem Bool} {Q : Value × List Value → Shared → Prop}
    (X : K.In s.heap) (I : PySem.W.InstAt s.heap x ox C (some (dictOf es n))) (hg : plainGet K C name = true) (hf : findIn K (.ref C) name = some (some (.ref f))) (ht : isFn K (.ref f) = true)
    (hl : getL name es = some none) (h : Q (.ref f, [.ref x]) s) : wpAny (model prog w) A (getMethod (.ref x) name pl) Q E s :=
  method_fn X I (plainGet_of hg).1 (plainGet_of hg).2 hf (beq_iff_eq.mp ht) (by show (lookIn name (dictOf es n)).map _ = _; rw [lookIn_dict, hl]; rfl) h

/-! the whole heap as the ledger: makes every rule that writes through a ledger a rule over any heap -/
def noObjs (h : Heap) : Heap := { h with objs := #[] }
theorem noObjs_get (h : Heap) (b : Addr) : (noObjs h).get? b = none := by
  cases e : (noObjs h).get? b with
  | none => rfl
  | some o => exact absurd (Heap.lt_size e) (Nat.not_lt_zero _)
def ledger (h : Heap) (L d : Addr) : List (Addr × Obj) := (List.range h.objs.size).filterMap fun a => if a = L ∨ a = d then none else (h.get? a).map fun o => (a, o)
theorem mem_ledger {h : Heap} {L d a : Addr} {o : Obj} : (a, o) ∈ ledger h L d ↔ a ≠ L ∧ a ≠ d ∧ h.get? a = some o := by
  unfold ledger
  rw [List.mem_filterMap]
  constructor
  · rintro ⟨b, _, e⟩
    split at e
    · cases e
    · rename_i hb
      obtain ⟨o', ho, e'⟩ := Option.map_eq_some_iff.mp e
      cases e'
      exact ⟨fun q => hb (.inl q), fun q => hb (.inr q), ho⟩
  · rintro ⟨n1, n2, ho⟩
    refine ⟨a, List.mem_range.mpr (Heap.lt_size ho), ?_⟩
    rw [if_neg (show ¬ (a = L ∨ a = d) from fun q => q.elim n1 n2), ho] <;> rfl
theorem news_ledger {h : Heap} {L d : Addr} {od : Obj} (hne : d ≠ L) (ho : h.get? d = some od) : News (noObjs h) L h ([] ++ (d, od) :: ledger h L d) := by
  rintro ⟨a, o⟩ hp
  rcases List.mem_cons.mp hp with e | hp
  · cases e
    exact ⟨ho, hne, noObjs_get _ _⟩
  · obtain ⟨n1, n2, e⟩ := mem_ledger.mp hp
    exact ⟨e, n1, noObjs_get _ _⟩
theorem fr_all {h : Heap} {L : Addr} {m : Str → Option Value} (n : h.Ns L m) : Fr (noObjs h) L h m :=
  ⟨n, fun b o e => (by rw [noObjs_get] at e; cases e), Nat.zero_le _⟩
/-- Upd of the head entry (for append_K, setItem_K ..) -/
theorem upd_ledger {h : Heap} {L d : Addr} {o o' : Obj} : Upd d o o' ((d, o) :: ledger h L d) ((d, o') :: ledger h L d) :=
  .head fun ⟨_, _⟩ hp => (mem_ledger.mp hp).2.1

/-- x.name = v over any heap: L is any namespace of the heap (the frame's, say): its map stays, its object is not told; all else but the dict stays -/
theorem set_field {x C dx L : Addr} {ox : Obj} {m : Str → Option Value} {es es' : List DictEntry} {n n' : Nat} {name : Str} {v : Value} {Q : Unit → Shared → Prop}
    (X : K.In s.heap) (I : PySem.W.InstAt s.heap x ox C (some (dictOf es n))) (hd : ox.dict = some dx) (hL : s.heap.Ns L m) (hne : dx ≠ L)
    (hs : findIn K (.ref C) "__setattr__" = some (some (.builtin "object.__setattr__"))) (hp : plainOver K C = true) (ht : takerIn K C name = some none) (hh : hasDictIn K C = true) (hl : (getL name es).isSome = true)
    (e : (putL name (PyData.keyHash w.params name) (.str name (s.toks + 1)) v es, putN name es n) = (es', n')) (hz : es'.length ≤ 1000)
    (h : ∀ h' : Heap, h'.Ns L m → h'.get? dx = some (dictOf es' n') → (∀ b o, b ≠ dx → b ≠ L → s.heap.get? b = some o → h'.get? b = some o) → Q () { s with heap := h', toks := s.toks + 2 }) :
    wpAny (model prog w) A (setAttr (.ref x) name v) Q E s := by
  obtain ⟨e1, e2⟩ := Prod.mk.inj e
  have hdx : s.heap.get? dx = some (dictOf es n) := by
    have := I.dict
    rw [hd] at this
    exact this
  refine set_plain X I hs (osa_dict (s := { s with toks := s.toks + 1 }) (h₀ := noObjs s.heap) (L := L) (m := m) (od := dictOf es n) (od' := dictOf es' n') (es := es') (n := n') (pre := []) (post := ledger s.heap L dx)
    (fr_all hL) (news_ledger hne hdx) X I hd hp ht hh hl (fun _ q => nomatch q) (fun ⟨_, _⟩ q => (mem_ledger.mp q).2.1) (by rw [putName_dict, e1, e2]) rfl hz fun h' F' N' => ?_)
  exact h h' F'.ns (N'.get (List.Mem.head _)) fun b o n1 n2 ho => N'.get (List.Mem.tail _ (mem_ledger.mpr ⟨n2, n1, ho⟩))
end
end Att

namespace L2
open PySem PySem.Spec PyProof.Rows

theorem vals_ints : ∀ {vs : List Value} {ns : List Int}, IntsAre vs ns → Vals (ns.map V.int) vs
  | _, _, .nil => .nil
  | _, _, .cons n t h => .cons ⟨t, rfl⟩ (vals_ints h)

/-- nothing is tracked but the script, known to the object (or it is an object of the module) -/
def Only (H : Hp) : Prop := ∀ b, H b = none ∨ ∃ o xs, H b = some (.frz o (.lst xs))

/-- THE HEAD: the law's promise, at the heap behind the top. F, the promise of the law's def, may use that base is part of the heap (so K.In base, base.Ns mainGlobals mg stand in Mod) -/
theorem law_call {P : Program} {w : World} {K : PySem.W.Frag} {mg mb : Str → Option Value} {CX : CXT} {k : Nat} {fa a : Addr} {fd : FuncData} {x : Str} {sp : Sp} {s₁ : Shared} {vs : List Value} {ns : List Int}
    (KX : K.In s₁.heap) (hns : s₁.heap.Ns mainGlobals mg) (hb : s₁.heap.Ns builtinsNs mb) (hbb : ∀ x : Str, x ≠ "__name__" → mb x = bootBuiltins x) (hlim : s₁.heap.NoLimit) (hg : s₁.gens = #[])
    (ha : s₁.heap.get? a = some { cls := .type "list", data := .seq vs.toArray }) (hi : IntsAre vs ns) (hl : ns.length ≤ sizeLine) (hr : Room k callerA)
    (F : ∀ base : Heap, K.In base → base.Ns mainGlobals mg → FnOk P w K mg base CX k fa fd [x] sp) (hbind : ∀ (s : Shared) (u : Value), BindsTo s fd ⟨[u], []⟩ [(x, u)])
    (hsp : ∀ H : Hp, Only H → SqL K H a (ns.map V.int) → sp [.ref a] H (fun v _ => v = .bl true) fun _ _ _ => False)
    (hCX : ∀ H e s', CX [] H s₁ (fun _ _ _ => False) e s' → False) :
    codeAny (model P w) callerA (.call (.ref fa) ⟨[.ref a], []⟩) (fun r s' => r = .ok (.ret (.bool true)) ∧ OldK s₁.heap s'.heap ∧ s'.os = s₁.os ∧ AllBare s'.gens) s₁ := by
  have rv := vals_ints hi
  have lenV := hi.length
  -- from an abstract heap in which nothing but the script may be tracked
  have core : ∀ H : Hp, Only H → SqL K H a (ns.map V.int) → HOk P w H s₁.heap → (∀ b, H b ≠ none → b = a) → (H a ≠ none → K.lookup a = none) →
      codeAny (model P w) callerA (.call (.ref fa) ⟨[.ref a], []⟩) (fun r s' => r = .ok (.ret (.bool true)) ∧ OldK s₁.heap s'.heap ∧ s'.os = s₁.os ∧ AllBare s'.gens) s₁ := by
    intro H hO hS hok hA hK
    have base_of : ∀ {b : Addr} {o : Obj}, s₁.heap.get? b = some o → H b = none → (hidT s₁.heap H).get? b = some o := fun e n => hidT_get e n
    have noA : ∀ {b : Addr} {o : Obj} {es : Array DictEntry} {ep : Nat}, s₁.heap.get? b = some o → o.data = .dict es ep → H b = none := fun {b o es ep} e d => by
      cases q : H b with
      | none => rfl
      | some u =>
        have e' : b = a := hA b (by rw [q]; simp)
        subst e'
        rw [ha] at e; cases e
        have d' : Data.seq vs.toArray _ = Data.dict es ep := d
        cases d'
    have nsK : ∀ {b : Addr} {m : Str → Option Value}, s₁.heap.Ns b m → (hidT s₁.heap H).Ns b m := fun {b m} ⟨o, es, ep, e, d, r⟩ => ⟨o, es, ep, base_of e (noA e d), d, r⟩
    have hKb : K.In (hidT s₁.heap H) := fun b o e => base_of (KX b o e) (by
      cases q : H b with
      | none => rfl
      | some u =>
        have e' : b = a := hA b (by rw [q]; simp)
        subst e'
        rw [hK (by rw [q]; simp)] at e; cases e)
    have hM : Mod K mg (hidT s₁.heap H) := ⟨hKb, nsK hns, ⟨mb, nsK hb, hbb⟩, let ⟨mc, h1, h2⟩ := hlim; ⟨mc, nsK h1, h2⟩⟩
    have e0 : Env0 P w K mg (hidT s₁.heap H) callerA [] s₁ H := ⟨rfl, hM, fun b o e => of_hidT e, Nat.le_of_eq (hidT_size _ _), trivial, fun b hb => absurd (show b ∈ ([] : List Addr) from hb) (by simp), hok, .of_eq hg⟩
    refine codeAny_mono ((F _ hKb (nsK hns)).run callerA [] s₁ H ⟨[.ref a], []⟩ [.ref a] [.ref a] _ _ hr e0 (hbind s₁ (.ref a)) (.cons rfl .nil) (hsp H hO hS)) fun r s' h => ?_
    cases r with
    | error e => exact (hCX H e s' h).elim
    | ok fl =>
      cases fl with
      | next => exact False.elim h
      | brk => exact False.elim h
      | cont => exact False.elim h
      | ret u =>
        obtain ⟨v, H', os, bare, un, hok', r', q⟩ := h
        have q' : v = .bl true := q
        subst q'
        obtain rfl : u = Value.bool true := r'
        refine ⟨rfl, OldK.of_keep fun b o e => ?_, os, bare⟩
        cases q : H b with
        | none => exact un.keep b o e q (by intro z; exact absurd (show b ∈ ([] : List Addr) from z) (by simp)) (by simp)
        | some u =>
          rcases hO b with z | ⟨ob, xs, z⟩
          · rw [q] at z; cases z
          · have z2 := un.frzs b ob _ z
            obtain ⟨e1, _⟩ := hok b _ z
            obtain ⟨e2, _⟩ := hok' b _ z2
            rw [e] at e1; cases e1
            exact e2
  cases hk : K.lookup a with
  | some o =>
    -- the script is one of the module's own objects
    have e := KX a o hk
    rw [ha] at e
    cases e
    refine core (fun _ => none) (fun _ => .inl rfl) (.inr ⟨_, vs.toArray, _, hk, rfl, rfl, rfl, by rw [List.size_toArray, lenV]; exact hl, by simpa using rv⟩) (fun b u z => by have z' : (none : Option HO) = some u := z; cases z') (fun b z => absurd rfl z) fun z => absurd rfl z
  | none =>
    refine core (fun b => if b = a then some (.frz { cls := .type "list", data := .seq vs.toArray } (.lst (ns.map V.int))) else none) (fun b => ?_) (.inl (.inr ⟨{ cls := .type "list", data := .seq vs.toArray }, if_pos rfl⟩)) (fun b u z => ?_) (fun b z => ?_) fun _ => hk
    · by_cases hb : b = a
      · exact .inr ⟨_, _, if_pos hb⟩
      · exact .inl (if_neg hb)
    · by_cases hb : b = a
      · have z' := (if_pos hb).symm.trans z
        cases z'
        subst hb
        exact ⟨ha, by rw [List.length_map]; exact hl, vs, _, rv, ha⟩
      · have z' := (if_neg hb).symm.trans z
        cases z'
    · by_cases hb : b = a
      · exact hb
      · exact absurd (if_neg hb) z
end L2

namespace L2
open PySem PySem.Spec PyProof.Rows

abbrev KOf {K : PySem.W.Frag} {h : Heap} (_ : K.In h) : PySem.W.Frag := K

/-- the goal that k_head leaves (case hc), from the law's promise. F gives the function object fd (K's own) once, then the promise over every base -/
theorem walk_of {l : PySem.W.OpenLaw} {n k : Nat} {q : Program} {loose : List Str} {XP : (Str → Option Value) → Heap → Prop} {YP : World → Heap → Prop} {d : DefRec} {K : Params → PySem.W.Frag} {CX : World → CXT} {sp : World → Sp} {x : Str}
    (hn : l.most = some n) (hn2 : n ≤ sizeLine) (hdf : d.params.defaults = []) (hr : Room k callerA)
    (hY : ∀ (w : World) (h : Heap), YP w h → (K w.params).In h)
    (F : ∀ (w : World) (mg : Str → Option Value) (fa : Addr) (h : Heap), (K w.params).In h → h.Ns mainGlobals mg → mg d.name = some (.ref fa) →
      ∃ fd : FuncData, (∀ (s : Shared) (u : Value), BindsTo s fd ⟨[u], []⟩ [(x, u)]) ∧
        ∀ base : Heap, (K w.params).In base → base.Ns mainGlobals mg → FnOk l.prog w (K w.params) mg base (CX w) k fa fd [x] (sp w))
    (hsp : ∀ (w : World) (H : Hp) (a : Addr) (ns : List Int), ns.length ≤ n → Only H → SqL (K w.params) H a (ns.map V.int) → sp w [.ref a] H (fun v _ => v = .bl true) fun _ _ _ => False)
    (hCX : ∀ (w : World) (H : Hp) (s : Shared) (e : Value) (s' : Shared), CX w [] H s (fun _ _ _ => False) e s' → False) :
    PySem.W.WalkO q loose XP YP l.row.toRowW d [] (fun f vs => PySem.call f vs) := by
  refine Att.attach_call hn hdf fun w s₀ s₁ mg mb fa o pm cd doc a vs ns G Y ho hd hcd hmg hobj hints hlen hg => ?_
  have KX := hY w _ Y
  obtain ⟨fd, hb, hF⟩ := F w mg fa _ KX G.T.g hmg
  exact law_call KX G.T.g G.T.b G.T.builtins G.T.nolimit hg hobj hints (Nat.le_trans hlen hn2) hr hF hb (fun H hO hS => hsp w H a ns hlen hO hS) fun H e s' => hCX w H s₁ e s'
/-- the same where the promise hangs on the written part alone: (sp := My.sp_law), no hole under a binder -/
theorem walk_ofK {l : PySem.W.OpenLaw} {n k : Nat} {q : Program} {loose : List Str} {XP : (Str → Option Value) → Heap → Prop} {YP : World → Heap → Prop} {d : DefRec} {K : Params → PySem.W.Frag} {CX : CXT} {sp : PySem.W.Frag → Sp} {x : Str}
    (hn : l.most = some n) (hn2 : n ≤ sizeLine) (hdf : d.params.defaults = []) (hr : Room k callerA)
    (hY : ∀ (w : World) (h : Heap), YP w h → (K w.params).In h)
    (F : ∀ (w : World) (mg : Str → Option Value) (fa : Addr) (h : Heap), (K w.params).In h → h.Ns mainGlobals mg → mg d.name = some (.ref fa) →
      ∃ fd : FuncData, (∀ (s : Shared) (u : Value), BindsTo s fd ⟨[u], []⟩ [(x, u)]) ∧
        ∀ base : Heap, (K w.params).In base → base.Ns mainGlobals mg → FnOk l.prog w (K w.params) mg base CX k fa fd [x] (sp (K w.params)))
    (hsp : ∀ (K : PySem.W.Frag) (H : Hp) (a : Addr) (ns : List Int), ns.length ≤ n → Only H → SqL K H a (ns.map V.int) → sp K [.ref a] H (fun v _ => v = .bl true) fun _ _ _ => False)
    (hCX : ∀ (H : Hp) (s : Shared) (e : Value) (s' : Shared), CX [] H s (fun _ _ _ => False) e s' → False) :
    PySem.W.WalkO q loose XP YP l.row.toRowW d [] (fun f vs => PySem.call f vs) :=
  walk_of (K := K) (CX := fun _ => CX) (sp := fun w => sp (K w.params)) hn hn2 hdf hr hY F (fun w H a ns h1 h2 h3 => hsp (K w.params) H a ns h1 h2 h3) fun _ H s e s' => hCX H s e s'
end L2

/- THE LAST THEOREM (shape; LID, My.* are yours):
   My.Adr: a structure of the addresses that your layer names (classes, functions); My.Txt K t: a structure (Prop) of the equations over K;
   My.txt_mk : {K} {implicit addresses ..} (e1 : nsIn K mainGlobals "law" = some (some (.ref f))) (e2 : K.lookup f = some ⟨oc, od, .func (fnOf "law" "law" params body scope dV kV doc pm an cdv ct), sl⟩) (e3 : codeIn K cdv "law" = true) .. : ∃ t, My.Txt K t

set_option maxRecDepth 100000 in
set_option maxHeartbeats 0 in
theorem PySem.Challenge.cw_LID_holds : PySem.Challenge.rw_LID.Holds := by
  w_on; o_law; k_head; (case hw => w_witness2)
  k_fill
  refine L2.walk_of (l := PySem.Challenge.rw_LID) (n := 63) (k := 40) (x := "script") (CX := fun w => ..) (sp := fun _ => My.sp_law) rfl (by decide) rfl ⟨rfl, by decide, by decide⟩ (fun w h Y => PySem.W.kIn_of Y) ?F ?S ?C
  case F =>
    intro w mg fa h KX G hmg
    have T : ∃ t, My.Txt (L2.KOf KX) t := by
      dsimp only [L2.KOf]                          -- K must stand as «<heap const> w.params» for k_is
      refine' My.txt_mk ?e1 ?e2 ?e3 ..
      (case e1 => PySem.W.k_is)                    -- in the order: a name -> its address -> its object -> its parts
      (case e2 => PySem.W.k_is)
      ..
    obtain ⟨t, T⟩ := T
    have e0 := hmg.symm.trans (PySem.W.mg_of KX G T.law)
    cases e0                                       -- fa is the law's own address
    exact ⟨_, fun s u => .of_eq rfl, fun base kb nb => My.law_fn T kb nb⟩     -- if «.of_eq rfl» comes too early: refine' ⟨_, ?b, fun base kb nb => My.law_fn T kb nb⟩; exact fun s u => .of_eq rfl
  case S => exact fun w H a ns hl hO hS => ..
  case C => exact ..
(the tactic k_is has no namespace: write k_is) -/

/-! SHORT WORDS over the layer: a def of the text, its body, what a loop and a test want. -/
namespace L2
open PySem PySem.Spec PyProof.Rows

/-! ### the text by places -/
/-- the j-th statement of a class's body -/
def inClass (s : Stmt) (j : Nat) : Stmt := match s with
  | .ClassDef _ _ _ body _ _ _ _ _ _ _ => body.getD j (.Pass ⟨0, 0, 0, 0⟩)
  | _ => .Pass ⟨0, 0, 0, 0⟩
def defArgs (s : Stmt) : Arguments := match s with
  | .FunctionDef _ a _ _ _ _ _ _ _ _ => a
  | _ => { posonlyargs := [], args := [], vararg := none, kwonlyargs := [], kw_defaults := [], kwarg := none, defaults := [] }
def defBody (s : Stmt) : List Stmt := match s with
  | .FunctionDef _ _ b _ _ _ _ _ _ _ => b
  | _ => []
def defScope (s : Stmt) : Scope := match s with
  | .FunctionDef _ _ _ _ _ _ sc _ _ _ => sc
  | _ => { kind := .function, names := [], isGenerator := false, isCoroutine := false }

/-! ### no exception leaves a def -/
abbrev CX0 : CXT := fun _ _ _ _ _ _ => False
abbrev E0 : XK := fun _ _ _ => False
theorem pass0 {X : Cx} : Passes CX0 X E0 := fun _ _ _ _ _ _ _ h => h.elim

/-! ### a def (or method) of the text as it stands behind the top -/
structure Fun (K : PySem.W.Frag) (x qual : Str) (st : Stmt) (f : Addr) (fd : FuncData) : Prop where
  ex : ∃ (oc : Value) (od : Option Addr) (kV doc pm : Value) (an : Option Addr) (cdv ct : Value) (osl : Array (Option Value)),
    fd = PySem.W.fnOf x qual (defArgs st) (defBody st) (defScope st) .none kV doc pm an cdv ct ∧ K.lookup f = some ⟨oc, od, .func fd, osl⟩ ∧ PySem.W.codeIn K cdv qual = true
  kp : PySem.W.keepIn K (.ref f) = true
section
variable {P : Program} {w : World} {K : PySem.W.Frag} {mg : Str → Option Value} {base : Heap}
/-- THE RULE for a def: its body as a term of rules, and the reading of that term -/
theorem Fun.ok {x qual : Str} {st : Stmt} {f : Addr} {fd : FuncData} {N ps : List Str} {k : Nat} {sp : Sp} (F : Fun K x qual st f fd) (S : FnScope N ps (defScope st)) (len : ∀ vs H Q E, sp vs H Q E → vs.length = ps.length)
    (hbody : ∀ (cdv : Value) (A : Around) (outer : List Env) (s : Shared) (H : Hp) (vs : List V) (Q : VK) (E : XK), Room k (A.deeper (envOfC qual (defScope st) s.heap.objs.size f cdv)) → sp vs H Q E →
      ∃ t, PSs (cxOf CX0 P w K mg base N qual (defScope st) f cdv A outer s H E).nox (defBody st) t ∧ t { nx := fun _ H' => Q .non H', rt := Q } (start N vs) H) : FnOk P w K mg base CX0 (k + 1) f fd ps sp := by
  obtain ⟨oc, od, kV, doc, pm, an, cdv, ct, osl, rfl, lk, hcd⟩ := F.ex
  refine fn_of lk hcd S len fun A outer s H vs Q E hr hsp => ?_
  obtain ⟨t, h, q⟩ := hbody cdv A outer s H vs Q E hr hsp
  exact ⟨t, h.nox, q⟩
/-- how its arguments bind (no defaults): h is «fun _ _ _ _ _ _ us hl => match us, hl with | [_, _], _ => rfl», one _ a parameter -/
theorem Fun.binds {x qual : Str} {st : Stmt} {f : Addr} {fd : FuncData} {ps : List Str} (F : Fun K x qual st f fd)
    (h : ∀ (kV doc pm : Value) (an : Option Addr) (cdv ct : Value) (us : List Value), us.length = ps.length → bindArgs (PySem.W.fnOf x qual (defArgs st) (defBody st) (defScope st) .none kV doc pm an cdv ct) ⟨us, []⟩ = pure (ps.zip us)) : Binds K fd ps [] := by
  obtain ⟨oc, od, kV, doc, pm, an, cdv, ct, osl, rfl, lk, hcd⟩ := F.ex
  exact .all (h kV doc pm an cdv ct)
theorem fun_mk {x qual : Str} {st : Stmt} {f : Addr} {oc : Value} {od an : Option Addr} {osl : Array (Option Value)} {kV doc pm cdv ct : Value} (l : K.lookup f = some ⟨oc, od, .func (PySem.W.fnOf x qual (defArgs st) (defBody st) (defScope st) .none kV doc pm an cdv ct), osl⟩)
    (c : PySem.W.codeIn K cdv qual = true) (k : PySem.W.keepIn K (.ref f) = true) : Fun K x qual st f (PySem.W.fnOf x qual (defArgs st) (defBody st) (defScope st) .none kV doc pm an cdv ct) := ⟨⟨oc, od, kV, doc, pm, an, cdv, ct, osl, rfl, l, c⟩, k⟩
end
theorem hu_of {A : Around} {k : Nat} (hr : Room k A) : A.units + 1 < cLine := Nat.lt_of_le_of_lt (Nat.add_le_add_left (by decide : 1 ≤ 64) _) hr.units
theorem small1000 {n : Nat} (h : n ≤ 1000) : n < sizeLine := Nat.lt_of_le_of_lt h (by decide)

/-! ### expressions in short: the name that stands in the i-th slot -/
section
variable {X : Cx}
theorem pv (i : Nat) {x : Str} {pos : Pos} (hN : X.N[i]? = some x := by rfl) (hv : Vis X.env.scope x := by first | exact Or.inl rfl | exact Or.inr (Or.inl rfl) | exact Or.inr (Or.inr rfl)) (hd : (x == ("__debug__" : Str)) = false := by decide)
    (hcd : (x == ("__classdict__" : Str)) = false := by decide) : PE X (.Name x pos) (tVar i) := pe_var hN hv hd hcd
end

/-! ### tests -/
theorem iteF {A B : Prop} (h : B) : if false = true then A else B := by
  rw [if_neg Bool.false_ne_true]
  exact h
theorem iteT {A B : Prop} (h : A) : if true = true then A else B := by
  rw [if_pos rfl]
  exact h
theorem ite2 {c A B : Prop} [Decidable c] (h1 : c → A) (h2 : ¬ c → B) : if c then A else B := by
  by_cases h : c
  · rw [if_pos h]
    exact h1 h
  · rw [if_neg h]
    exact h2 h
theorem iteNS {c A B : Prop} [Decidable c] (hc : c) (h : B) : if (!decide c) = true then A else B := by
  rw [decide_eq_true hc]
  exact iteF h

/-! ### heaps -/
/-- all that was tracked is as it was -/
def Same (H H' : Hp) : Prop := ∀ b o, H b = some o → H' b = some o
theorem Same.refl (H : Hp) : Same H H := fun _ _ h => h
theorem Same.trans {H H1 H2 : Hp} (a : Same H H1) (b : Same H1 H2) : Same H H2 := fun c o h => b c o (a c o h)
theorem Same.free {H H' : Hp} (e : Same H H') {l : Addr} (h : H' l = Option.none) : H l = Option.none := by
  cases q : H l with
  | none => rfl
  | some o =>
    rw [e l o q] at h
    cases h
theorem Same.seq {K : PySem.W.Frag} {H H' : Hp} {a : Addr} {xs : List V} (e : Same H H') (h : SqL K H a xs) : SqL K H' a xs := by
  rcases h with (h | ⟨o, h⟩) | h
  · exact .inl (.inl (e _ _ h))
  · exact .inl (.inr ⟨o, e _ _ h⟩)
  · exact .inr h

end L2


namespace L2
open PySem PySem.Spec PyProof.Rows

/-! ### lists of pairs as tables -/
section
variable {κ : Type} [DecidableEq κ]
def valV (kvs : List (κ × V)) (k : κ) : Option V := (kvs.find? fun kv => decide (kv.1 = k)).map (·.2)
/-- in its place, or at the end -/
def putK (kvs : List (κ × V)) (k : κ) (v : V) : List (κ × V) :=
  if (kvs.any fun kv => decide (kv.1 = k)) = true then kvs.map (fun kv => if kv.1 = k then (kv.1, v) else kv) else kvs ++ [(k, v)]
def dropK (kvs : List (κ × V)) (k : κ) : List (κ × V) := kvs.filter fun kv => decide (kv.1 ≠ k)

theorem valV_nil {k : κ} : valV ([] : List (κ × V)) k = none := rfl
theorem valV_pos {p : κ × V} {r : List (κ × V)} {k : κ} (e : p.1 = k) : valV (p :: r) k = some p.2 := by simp [valV, List.find?_cons, e]
theorem valV_neg {p : κ × V} {r : List (κ × V)} {k : κ} (e : ¬ p.1 = k) : valV (p :: r) k = valV r k := by simp [valV, List.find?_cons, e]
theorem valV_any (k : κ) : ∀ kvs : List (κ × V), (kvs.any fun kv => decide (kv.1 = k)) = (valV kvs k).isSome
  | [] => rfl
  | p :: r => by
    rw [List.any_cons]
    by_cases e : p.1 = k
    · simp only [valV_pos e, decide_eq_true e, Bool.true_or, Option.isSome_some]
    · rw [valV_neg e, decide_eq_false e, Bool.false_or]; exact valV_any k r
theorem valV_map (k j : κ) (y : V) : ∀ kvs : List (κ × V), valV (kvs.map fun kv => if kv.1 = k then (kv.1, y) else kv) j = (valV kvs j).map fun x => if j = k then y else x
  | [] => rfl
  | p :: r => by
    have ih := valV_map k j y r
    rw [List.map_cons]
    by_cases h : p.1 = k
    · rw [if_pos h]
      by_cases e : p.1 = j
      · rw [valV_pos (p := (p.1, y)) e, valV_pos e, Option.map_some, if_pos (e.symm.trans h)]
      · rw [valV_neg (p := (p.1, y)) e, valV_neg e, ih]
    · rw [if_neg h]
      by_cases e : p.1 = j
      · rw [valV_pos (p := p) e, valV_pos e, Option.map_some, if_neg (fun z => h (e.trans z))]
      · rw [valV_neg (p := p) e, valV_neg e, ih]
theorem valV_snoc (k j : κ) (y : V) : ∀ kvs : List (κ × V), valV kvs k = none → valV (kvs ++ [(k, y)]) j = if j = k then some y else valV kvs j
  | [], _ => by
    by_cases e : k = j
    · rw [if_pos e.symm]; exact valV_pos (p := (k, y)) e
    · rw [if_neg (fun z => e z.symm)]; exact valV_neg (p := (k, y)) e
  | p :: r, hn => by
    rw [List.cons_append]
    have hk : ¬ p.1 = k := fun z => by rw [valV_pos z] at hn; cases hn
    rw [valV_neg hk] at hn
    have ih := valV_snoc k j y r hn
    by_cases e : p.1 = j
    · rw [valV_pos e, valV_pos e, if_neg (fun z => hk (e.trans z))]
    · rw [valV_neg e, valV_neg e, ih]
theorem valV_put (kvs : List (κ × V)) (k j : κ) (y : V) : valV (putK kvs k y) j = if j = k then some y else valV kvs j := by
  unfold putK
  by_cases a : (kvs.any fun kv => decide (kv.1 = k)) = true
  · rw [if_pos a, valV_map]
    rw [valV_any] at a
    by_cases e : j = k
    · obtain ⟨x, hx⟩ := Option.isSome_iff_exists.mp a
      rw [if_pos e, e, hx, Option.map_some, if_pos rfl]
    · rw [if_neg e]
      cases valV kvs j with
      | none => rfl
      | some x => rw [Option.map_some, if_neg e]
  · rw [if_neg a]
    refine valV_snoc k j y kvs ?_
    rw [valV_any] at a
    cases q : valV kvs k with
    | none => rfl
    | some x => rw [q] at a; exact (a rfl).elim
theorem length_putK (kvs : List (κ × V)) (k : κ) (v : V) : (putK kvs k v).length ≤ kvs.length + 1 := by
  unfold putK
  split
  · rw [List.length_map]; omega
  · rw [List.length_append, List.length_cons, List.length_nil]; omega
theorem putK_new {kvs : List (κ × V)} {k : κ} (v : V) (h : valV kvs k = none) : putK kvs k v = kvs ++ [(k, v)] := by
  unfold putK
  rw [valV_any, h]
  exact if_neg (by decide)

theorem RelO.isSome_eq {o : Option V} {u : Option Value} (r : RelO o u) : o.isSome = u.isSome := by
  cases o with
  | none => cases u with
    | none => rfl
    | some _ => exact (show False from r).elim
  | some _ => cases u with
    | none => exact (show False from r).elim
    | some _ => rfl
theorem RelO.getD {o : Option V} {u : Option Value} {d : V} {d' : Value} (r : RelO o u) (rd : RelV d d') : RelV (o.getD d) (u.getD d') := by
  cases o with
  | none => cases u with
    | none => exact rd
    | some _ => exact (show False from r).elim
  | some _ => cases u with
    | none => exact (show False from r).elim
    | some _ => exact r

/-- raw tables of the same keys -/
theorem KV.val {kvs : List (κ × V)} {vs : List (κ × Value)} (r : KV kvs vs) (k : κ) : RelO (valV kvs k) (valueAt vs k) := by
  unfold KV at r
  induction r with
  | nil => exact True.intro
  | @cons p q ps qs h t ih =>
    obtain ⟨h1, h2⟩ := h
    by_cases e : p.1 = k
    · have e' : q.1 = k := h1.symm.trans e
      have b : valueAt (q :: qs) k = some q.2 := by simp [valueAt, List.find?_cons, e']
      rw [valV_pos e, b]; exact h2
    · have e' : ¬ q.1 = k := fun z => e (h1.trans z)
      have b : valueAt (q :: qs) k = valueAt qs k := by simp [valueAt, List.find?_cons, e']
      rw [valV_neg e, b]; exact ih
theorem KV.any {kvs : List (κ × V)} {vs : List (κ × Value)} (r : KV kvs vs) (k : κ) : (kvs.any fun kv => decide (kv.1 = k)) = vs.any fun kv => decide (kv.1 = k) := by
  unfold KV at r
  induction r with
  | nil => rfl
  | cons h t ih => rw [List.any_cons, List.any_cons, ih, h.1]
theorem KV.repl {kvs : List (κ × V)} {vs : List (κ × Value)} (r : KV kvs vs) (k : κ) {y : V} {u : Value} (ry : RelV y u) :
    KV (kvs.map fun kv => if kv.1 = k then (kv.1, y) else kv) (vs.map fun kv => if kv.1 = k then (kv.1, u) else kv) := by
  unfold KV at r ⊢
  induction r with
  | nil => exact .nil
  | @cons p q ps qs h t ih =>
    rw [List.map_cons, List.map_cons]
    refine .cons ?_ ih
    obtain ⟨h1, h2⟩ := h
    by_cases e : p.1 = k
    · rw [if_pos e, if_pos (h1.symm.trans e)]; exact ⟨h1, ry⟩
    · rw [if_neg e, if_neg (fun z => e (h1.trans z))]; exact ⟨h1, h2⟩
theorem KV.put {kvs : List (κ × V)} {vs : List (κ × Value)} (r : KV kvs vs) (k : κ) {y : V} {u : Value} (ry : RelV y u) : KV (putK kvs k y) (stored vs k u) := by
  unfold putK stored
  rw [r.any k]
  by_cases e : (vs.any fun kv => decide (kv.1 = k)) = true
  · rw [if_pos e, if_pos e]; exact r.repl k ry
  · rw [if_neg e, if_neg e]; exact Paired.snoc r ⟨rfl, ry⟩
theorem KV.drop {kvs : List (κ × V)} {vs : List (κ × Value)} (r : KV kvs vs) (k : κ) : KV (dropK kvs k) (without vs k) := by
  unfold KV at r ⊢
  unfold dropK without
  induction r with
  | nil => exact .nil
  | @cons p q ps qs h t ih =>
    obtain ⟨h1, h2⟩ := h
    rw [List.filter_cons, List.filter_cons]
    by_cases e : p.1 = k
    · have a : ¬ decide (p.1 ≠ k) = true := by simp [e]
      have b : ¬ decide (q.1 ≠ k) = true := by simp [h1.symm.trans e]
      rw [if_neg a, if_neg b]; exact ih
    · have e' : ¬ q.1 = k := fun z => e (h1.trans z)
      have a : decide (p.1 ≠ k) = true := by simp [e]
      have b : decide (q.1 ≠ k) = true := by simp [e']
      rw [if_pos a, if_pos b]; exact .cons ⟨h1, h2⟩ ih
theorem KV.keys {kvs : List (κ × V)} {vs : List (κ × Value)} (r : KV kvs vs) : kvs.map (·.1) = vs.map (·.1) := by
  unfold KV at r
  induction r with
  | nil => rfl
  | cons h t ih => rw [List.map_cons, List.map_cons, ih, h.1]
theorem KV.length {kvs : List (κ × V)} {vs : List (κ × Value)} (r : KV kvs vs) : kvs.length = vs.length := Paired.length r
theorem dropK_le (kvs : List (κ × V)) (k : κ) : (dropK kvs k).length ≤ kvs.length := List.length_filter_le _ _
end


/-! ### a tracked dict, its keys ints and texts or tuples of these -/
theorem kV_is {P : Program} {w : World} {k : Key} {u : Value} (r : RelV (kV k) u) : (mixKind P w).is k u = true := by
  cases k with
  | inl i => obtain ⟨t, e⟩ := (show ∃ t, u = Value.int i t from r); subst e; exact mixKind_int P w i t
  | inr x => obtain ⟨t, e⟩ := (show ∃ t, u = Value.str x t from r); subst e; exact mixKind_str P w x t
theorem kV_inj {a b : Key} (e : kV a = kV b) : a = b := by
  cases a with
  | inl i => cases b with
    | inl j => have e' : V.int i = V.int j := e; injection e' with e'; rw [e']
    | inr y => exact nomatch (show V.int i = V.str y from e)
  | inr x => cases b with
    | inl j => exact nomatch (show V.str x = V.int j from e)
    | inr y => have e' : V.str x = V.str y := e; injection e' with e'; rw [e']
theorem kVs_inj : ∀ {a b : List Key}, a.map kV = b.map kV → a = b
  | [], [], _ => rfl
  | [], _ :: _, e => by simp at e
  | _ :: _, [], e => by simp at e
  | x :: xs, y :: ys, e => by
    rw [List.map_cons, List.map_cons] at e
    injection e with e1 e2
    rw [kV_inj e1, kVs_inj e2]
theorem items_are {P : Program} {w : World} : ∀ {ks : List Key} {us : List Value}, Vals (ks.map kV) us → ItemsAre (mixKind P w) ks us
  | [], _, r => by rw [List.map_nil] at r; cases r; exact .nil
  | k :: ks, _, r => by
    rw [List.map_cons] at r
    cases r with
    | cons h t => exact .cons (kV_is h) (items_are t)

/-- raw entries of a dict with tuple keys -/
abbrev KT (H : Hp) : List (List Key × V) → List (List Key × Addr × Value) → Prop := Paired fun p q => p.1 = q.1 ∧ H q.2.1 = some (.tup (p.1.map kV)) ∧ RelV p.2 q.2.2
theorem KT.val {H : Hp} {kvs : List (List Key × V)} {xs : List (List Key × Addr × Value)} (r : KT H kvs xs) (k : List Key) : RelO (valV kvs k) ((atKey xs k).map (·.2)) := by
  induction r with
  | nil => exact True.intro
  | @cons p q ps qs h t ih =>
    obtain ⟨h1, _, h2⟩ := h
    by_cases e : p.1 = k
    · have e' : q.1 = k := h1.symm.trans e
      have b : atKey (q :: qs) k = some q.2 := by simp [atKey, List.find?_cons, e']
      rw [valV_pos e, b]; exact h2
    · have e' : ¬ q.1 = k := fun z => e (h1.trans z)
      have b : atKey (q :: qs) k = atKey qs k := by simp [atKey, List.find?_cons, e']
      rw [valV_neg e, b]; exact ih
theorem KT.repl {H : Hp} {kvs : List (List Key × V)} {xs : List (List Key × Addr × Value)} (r : KT H kvs xs) (k : List Key) {y : V} {u : Value} (ry : RelV y u) :
    KT H (kvs.map fun kv => if kv.1 = k then (kv.1, y) else kv) (xs.map (putAt k u)) := by
  induction r with
  | nil => exact .nil
  | @cons p q ps qs h t ih =>
    rw [List.map_cons, List.map_cons]
    refine .cons ?_ ih
    obtain ⟨h1, h2, h3⟩ := h
    unfold putAt
    by_cases e : p.1 = k
    · rw [if_pos e, if_pos (h1.symm.trans e)]; exact ⟨h1, h2, ry⟩
    · rw [if_neg e, if_neg (fun z => e (h1.trans z))]; exact ⟨h1, h2, h3⟩
theorem KT.put {H : Hp} {kvs : List (List Key × V)} {xs : List (List Key × Addr × Value)} (r : KT H kvs xs) (k : List Key) {b : Addr} {y : V} {u : Value} (hb : H b = some (.tup (k.map kV))) (ry : RelV y u) :
    KT H (putK kvs k y) (storedH xs k b u) := by
  have e : (kvs.any fun kv => decide (kv.1 = k)) = (atKey xs k).isSome := by
    rw [valV_any, (r.val k).isSome_eq, Option.isSome_map]
  unfold putK storedH
  rw [e]
  by_cases q : (atKey xs k).isSome = true
  · rw [if_pos q, if_pos q]; exact r.repl k ry
  · rw [if_neg q, if_neg q]; exact Paired.snoc r ⟨rfl, hb, ry⟩
theorem KT.keeps {H H' : Hp} {kvs : List (List Key × V)} {xs : List (List Key × Addr × Value)} (r : KT H kvs xs) (ht : ∀ b ys, H b = some (.tup ys) → H' b = some (.tup ys)) : KT H' kvs xs :=
  Paired.mapP r fun _ _ z => ⟨z.1, ht _ _ z.2.1, z.2.2⟩

section
variable {P : Program} {w : World} {H : Hp} {h : Heap} {a : Addr}
theorem rd_of {u : HO} (ok : HOk P w H h) (e : Rd H a u) : ObjOk P w H h a u := e.ok ok
theorem dk_rd {kvs : List (Key × V)} (ok : HOk P w H h) (e : Rd H a (.dK kvs)) : kvs.length ≤ sizeLine ∧ (a == sysModules) = false ∧ ∃ vs, KV kvs vs ∧ h.DictOf (mixKind P w) a vs :=
  show ObjOk P w H h a (.dK kvs) from rd_of ok e
theorem dk_of {kvs : List (Key × V)} (ok : HOk P w H h) (e : H a = some (.dK kvs)) : kvs.length ≤ sizeLine ∧ (a == sysModules) = false ∧ ∃ vs, KV kvs vs ∧ h.DictOf (mixKind P w) a vs := dk_rd ok (.inl e)
/-- a tracked tuple of ints and texts is a key -/
theorem key_of {ks : List Key} (ok : HOk P w H h) (e : H a = some (.tup (ks.map kV))) : (tupleKind (mixKind P w)).is h ks a := by
  obtain ⟨_, its, r, o, h1, h2, n, h3⟩ := (show ObjOk P w H h a (.tup (ks.map kV)) from ok a _ e)
  exact ⟨o, its.toArray, n, h1, h2, h3, by simpa using items_are r⟩
theorem dt_rd {kvs : List (List Key × V)} (ok : HOk P w H h) (e : Rd H a (.dT kvs)) : kvs.length ≤ sizeLine ∧ (a == sysModules) = false ∧
    ∃ xs, KT H kvs xs ∧ h.DictOfH (tupleKind (mixKind P w)) a xs := by
  obtain ⟨z, y, xs, r, o, es, ep, h1, h2, h3, h4, h5⟩ := (show ObjOk P w H h a (.dT kvs) from rd_of ok e)
  refine ⟨z, y, xs, r, o, es, ep, h1, h2, h3, h4, fun x hx => ?_, h5⟩
  have all : ∀ {l : List (List Key × V)} {m : List (List Key × Addr × Value)}, KT H l m → ∀ x ∈ m, (tupleKind (mixKind P w)).is h x.1 x.2.1 := by
    intro l m q
    induction q with
    | nil => intro x hx; exact nomatch hx
    | @cons p q ps qs hq t ih =>
      intro x hx
      rcases List.mem_cons.mp hx with e | hx
      · subst e
        exact key_of ok (by rw [← hq.1]; exact hq.2.1)
      · exact ih x hx
  exact all r x hx
theorem dt_of {kvs : List (List Key × V)} (ok : HOk P w H h) (e : H a = some (.dT kvs)) : kvs.length ≤ sizeLine ∧ (a == sysModules) = false ∧
    ∃ xs, KT H kvs xs ∧ h.DictOfH (tupleKind (mixKind P w)) a xs := dt_rd ok (.inl e)
end

/-- what the dict at a holds at the key y -/
def DGet (H : Hp) (a : Addr) (y : V) (r : Option V) : Prop :=
  (∃ kvs k, Rd H a (.dK kvs) ∧ y = kV k ∧ r = valV kvs k) ∨ ∃ kvs k b, Rd H a (.dT kvs) ∧ y = .ref b ∧ H b = some (.tup (k.map kV)) ∧ r = valV kvs k
/-- the heap behind a[y] = v -/
def DPut (H : Hp) (a : Addr) (y v : V) (H' : Hp) : Prop :=
  (∃ kvs k, H a = some (.dK kvs) ∧ y = kV k ∧ kvs.length < sizeLine ∧ H' = upd H a (.dK (putK kvs k v))) ∨
  ∃ kvs k b, H a = some (.dT kvs) ∧ y = .ref b ∧ H b = some (.tup (k.map kV)) ∧ kvs.length < sizeLine ∧ H' = upd H a (.dT (putK kvs k v))
theorem DGet.k {H : Hp} {a : Addr} {kvs : List (Key × V)} {k : Key} (e : H a = some (.dK kvs)) : DGet H a (kV k) (valV kvs k) := .inl ⟨kvs, k, .inl e, rfl, rfl⟩
theorem DGet.t {H : Hp} {a b : Addr} {kvs : List (List Key × V)} {k : List Key} (e : H a = some (.dT kvs)) (eb : H b = some (.tup (k.map kV))) : DGet H a (.ref b) (valV kvs k) := .inr ⟨kvs, k, b, .inl e, rfl, eb, rfl⟩
theorem DPut.k {H : Hp} {a : Addr} {kvs : List (Key × V)} {k : Key} {v : V} (e : H a = some (.dK kvs)) (hl : kvs.length < sizeLine) : DPut H a (kV k) v (upd H a (.dK (putK kvs k v))) := .inl ⟨kvs, k, e, rfl, hl, rfl⟩
theorem DPut.t {H : Hp} {a b : Addr} {kvs : List (List Key × V)} {k : List Key} {v : V} (e : H a = some (.dT kvs)) (eb : H b = some (.tup (k.map kV))) (hl : kvs.length < sizeLine) :
    DPut H a (.ref b) v (upd H a (.dT (putK kvs k v))) := .inr ⟨kvs, k, b, e, rfl, eb, hl, rfl⟩


section
variable {X : Cx} {pins : List (Addr × Obj)} {σ : St} {H : Hp} {s : Shared} {a : Addr} {y v : V} {u r : Value} {o : Option V} {A : Around} {E : Value → Shared → Prop}

theorem Inv.big (I : Inv X pins σ H s) : sysModules < s.heap.objs.size := by
  have h : mainGlobals < s.heap.objs.size := (I.mod.glob.keeps I.bk).lt
  exact Nat.lt_trans (by decide) h

/-- d[y], there -/
theorem d_getItem {Q : Value → Shared → Prop} (hu : A.units + 1 < cLine) (I : Inv X pins σ H s) (g : DGet H a y (some v)) (ry : RelV y u) (h : ∀ w' s', Inv X pins σ H s' → RelV v w' → Q w' s') :
    wpAny (model X.prog X.w) A (getItem (.ref a) u) Q E s := by
  rcases g with ⟨kvs, k, e, ey, l⟩ | ⟨kvs, k, b, e, ey, eb, l⟩
  · subst ey
    obtain ⟨z, hd, vs, rel, dd⟩ := dk_rd I.hok e
    obtain ⟨w', hw, rw'⟩ := RelO.some_of (v := v) (o := valueAt vs k) (by rw [l]; exact rel.val k)
    exact wpAny_getItem_of (kV_is ry) dd.mapOf hw (h w' _ (I.tok _) rw')
  · subst ey
    cases (show u = Value.ref b from ry)
    obtain ⟨z, hd, xs, rel, dd⟩ := dt_rd I.hok e
    obtain ⟨w', hw, rw'⟩ := RelO.some_of (v := v) (o := (atKey xs k).map (·.2)) (by rw [l]; exact rel.val k)
    obtain ⟨p, hp, hp2⟩ := Option.map_eq_some_iff.mp hw
    refine wpAny_getItem_heap (tupleKind_room_in1 hu) (key_of I.hok eb) dd hp ?_
    rw [hp2]
    exact h w' _ (I.tok _) rw'
/-- y in d -/
theorem d_in {Q : Value → Shared → Prop} (hu : A.units + 1 < cLine) (I : Inv X pins σ H s) (g : DGet H a y o) (ry : RelV y u) (h : ∀ s', Inv X pins σ H s' → Q (.bool o.isSome) s') :
    wpAny (model X.prog X.w) A (compareOp .In u (.ref a)) Q E s := by
  rcases g with ⟨kvs, k, e, ey, l⟩ | ⟨kvs, k, b, e, ey, eb, l⟩
  · subst ey
    obtain ⟨z, hd, vs, rel, dd⟩ := dk_rd I.hok e
    refine wpAny_in_of (kV_is ry) hd dd.mapOf ?_
    rw [← (rel.val k).isSome_eq, ← l]
    exact h _ (I.tok _)
  · subst ey
    cases (show u = Value.ref b from ry)
    obtain ⟨z, hd, xs, rel, dd⟩ := dt_rd I.hok e
    refine wpAny_in_heap (tupleKind_room_in1 hu) (key_of I.hok eb) hd dd ?_
    have q := (rel.val k).isSome_eq
    rw [Option.isSome_map] at q
    rw [← q, ← l]
    exact h _ (I.tok _)
theorem d_notIn {Q : Value → Shared → Prop} (hu : A.units + 1 < cLine) (I : Inv X pins σ H s) (g : DGet H a y o) (ry : RelV y u) (h : ∀ s', Inv X pins σ H s' → Q (.bool (!o.isSome)) s') :
    wpAny (model X.prog X.w) A (compareOp .NotIn u (.ref a)) Q E s := by
  rcases g with ⟨kvs, k, e, ey, l⟩ | ⟨kvs, k, b, e, ey, eb, l⟩
  · subst ey
    obtain ⟨z, hd, vs, rel, dd⟩ := dk_rd I.hok e
    refine wpAny_notIn_of (kV_is ry) hd dd.mapOf ?_
    rw [← (rel.val k).isSome_eq, ← l]
    exact h _ (I.tok _)
  · subst ey
    cases (show u = Value.ref b from ry)
    obtain ⟨z, hd, xs, rel, dd⟩ := dt_rd I.hok e
    refine wpAny_notIn_heap (tupleKind_room_in1 hu) (key_of I.hok eb) hd dd ?_
    have q := (rel.val k).isSome_eq
    rw [Option.isSome_map] at q
    rw [← q, ← l]
    exact h _ (I.tok _)
/-- a dict's object is replaced -/
theorem d_write {h' : Heap} {t' : Nat} {ob : HO} (I : Inv X pins σ H s) (mu : Mut (H a)) (hs : Heap.SameBut a s.heap h') (he : ∃ q, h'.get? a = some q) (new : ObjOk X.prog X.w (upd H a ob) h' a ob) :
    Inv X pins σ (upd H a ob) { s with heap := h', toks := t' } :=
  I.write (x := a) (e := a) mu (.inl rfl) (fun b q hb z => (hs.2 b hb).trans z) he new
theorem dk_new {P : Program} {w : World} {H' : Hp} {h' : Heap} {kvs : List (Key × V)} {vs : List (Key × Value)} (z : kvs.length ≤ sizeLine) (hd : (a == sysModules) = false) (rel : KV kvs vs) (dd : h'.DictOf (mixKind P w) a vs) :
    ObjOk P w H' h' a (.dK kvs) := ⟨z, hd, vs, rel, dd⟩
/-- d[y] = v -/
theorem d_setItem {H' : Hp} {Q : Unit → Shared → Prop} (hu : A.units + 1 < cLine) (I : Inv X pins σ H s) (g : DPut H a y v H') (ry : RelV y u) (rv : RelV v r) (h : ∀ s', Inv X pins σ H' s' → Q () s') :
    wpAny (model X.prog X.w) A (setItem (.ref a) u r) Q E s := by
  rcases g with ⟨kvs, k, e, ey, l, eH⟩ | ⟨kvs, k, b, e, ey, eb, l, eH⟩
  · subst ey eH
    obtain ⟨z, hd, vs, rel, dd⟩ := dk_of I.hok e
    have hz : vs.length ≤ sizeLine := by rw [← rel.length]; exact z
    have hl : (putK kvs k v).length ≤ sizeLine := by have := length_putK kvs k v; omega
    refine wpAny_setItem_pairs (hsz := hz) (kV_is ry) dd fun h' dd' hs => h _ ?_
    have he : ∃ q, h'.get? a = some q := let ⟨q, _, _, hq, _⟩ := dd'; ⟨q, hq⟩
    exact d_write I (by rw [e]; exact True.intro) hs he (dk_new hl hd (rel.put k rv) dd')
  · subst ey eH
    cases (show u = Value.ref b from ry)
    obtain ⟨z, hd, xs, rel, dd⟩ := dt_of I.hok e
    have hz : xs.length ≤ sizeLine := by rw [← Paired.length rel]; exact z
    have hl : (putK kvs k v).length ≤ sizeLine := by have := length_putK kvs k v; omega
    refine wpAny_setItem_heap (hsz := hz) (tupleKind_room_in1 hu) (key_of I.hok eb) dd fun h' dd' hs => h _ ?_
    obtain ⟨q, es, ep, hq, h2, h3, h4, _, h5⟩ := dd'
    refine d_write I (by rw [e]; exact True.intro) hs ⟨q, hq⟩ ⟨hl, hd, _, (rel.put k eb rv).keeps fun c ys ec => ?_, q, es, ep, hq, h2, h3, h4, h5⟩
    rw [upd_ne (ne_of ec e (fun z => nomatch z))]
    exact ec
end

section
variable {X : Cx} {pins : List (Addr × Obj)} {σ : St} {H : Hp} {s : Shared} {a : Addr} {kvs : List (Key × V)} {k : Key} {u : Value} {A : Around} {E : Value → Shared → Prop}
/-- del d[k] -/
theorem d_delItem {Q : Unit → Shared → Prop} (I : Inv X pins σ H s) (e : H a = some (.dK kvs)) (ry : RelV (kV k) u) (l : (valV kvs k).isSome = true) (h : ∀ s', Inv X pins σ (upd H a (.dK (dropK kvs k))) s' → Q () s') :
    wpAny (model X.prog X.w) A (delItem (.ref a) u) Q E s := by
  obtain ⟨z, hd, vs, rel, dd⟩ := dk_of I.hok e
  refine wpAny_delItem_slot dd.typeIs (by decide) PySem.F.slot_dict_delitem
    (call_meetsIn PySem.F.slot_dict_delitem dd.typeIs PySem.F.entry_dict_delitem (PySem.F.args_dict_delitem_2 _ _) (meets_dict_delitem_pairs (mixKind X.prog X.w) a (kV_is ry)) ⟨vs, dd, by rw [← rel.length]; exact z, by rw [← (rel.val k).isSome_eq]; exact l, fun h' dd' hs => h _ ?_⟩)
  have he : ∃ q, h'.get? a = some q := let ⟨q, _, _, hq, _⟩ := dd'; ⟨q, hq⟩
  exact d_write I (by rw [e]; exact True.intro) hs he (dk_new (Nat.le_trans (dropK_le kvs k) z) hd (rel.drop k) dd')
/-- d.pop(k[, x]), there -/
theorem d_pop {v : V} {more : List Value} {Q : Value → Shared → Prop} (I : Inv X pins σ H s) (e : H a = some (.dK kvs)) (ry : RelV (kV k) u) (l : valV kvs k = some v) (hm : more = [] ∨ ∃ x, more = [x])
    (h : ∀ w' s', Inv X pins σ (upd H a (.dK (dropK kvs k))) s' → RelV v w' → Q w' s') : wpAny (model X.prog X.w) A (call (.builtin "dict.pop") (.ref a :: u :: more)) Q E s := by
  obtain ⟨z, hd, vs, rel, dd⟩ := dk_of I.hok e
  obtain ⟨w', hw, rw'⟩ := RelO.some_of (v := v) (o := valueAt vs k) (by rw [← l]; exact rel.val k)
  have hp : (keyPart u).isSome = true := by
    cases k with
    | inl i => obtain ⟨t, q⟩ := (show ∃ t, u = Value.int i t from ry); subst q; rfl
    | inr x => obtain ⟨t, q⟩ := (show ∃ t, u = Value.str x t from ry); subst q; rfl
  have ha : argsOk "dict.pop" ⟨.ref a :: u :: more, []⟩ := by
    rcases hm with q | ⟨x, q⟩
    · subst q; exact PySem.F.args_dict_pop_2 _ _
    · subst q; exact PySem.F.args_dict_pop_3 _ _ _
  refine call_meetsIn PySem.F.slot_dict_pop dd.typeIs PySem.F.entry_dict_pop ha (meets_dict_pop_there (mixKind X.prog X.w) a (kV_is ry) more hm hp)
    ⟨vs, w', dd, by rw [← rel.length]; exact z, hw, fun h' dd' hs => h w' _ ?_ rw'⟩
  have he : ∃ q, h'.get? a = some q := let ⟨q, _, _, hq, _⟩ := dd'; ⟨q, hq⟩
  exact d_write I (by rw [e]; exact True.intro) hs he (dk_new (Nat.le_trans (dropK_le kvs k) z) hd (rel.drop k) dd')
/-- d.pop(k, x), not there -/
theorem d_popD {r : Value} {Q : Value → Shared → Prop} (I : Inv X pins σ H s) (e : H a = some (.dK kvs)) (ry : RelV (kV k) u) (l : valV kvs k = none) (h : ∀ s', Inv X pins σ H s' → Q r s') :
    wpAny (model X.prog X.w) A (call (.builtin "dict.pop") [.ref a, u, r]) Q E s := by
  obtain ⟨z, hd, vs, rel, dd⟩ := dk_of I.hok e
  have hn : valueAt vs k = none := RelO.none_of (by rw [← l]; exact rel.val k)
  have hp : (keyPart u).isSome = true := by
    cases k with
    | inl i => obtain ⟨t, q⟩ := (show ∃ t, u = Value.int i t from ry); subst q; rfl
    | inr x => obtain ⟨t, q⟩ := (show ∃ t, u = Value.str x t from ry); subst q; rfl
  exact call_meetsIn PySem.F.slot_dict_pop dd.typeIs PySem.F.entry_dict_pop (PySem.F.args_dict_pop_3 _ _ _) (meets_dict_pop_default (mixKind X.prog X.w) a (kV_is ry) hd hp r) ⟨vs, dd, hn, h _ (I.tok _)⟩
/-- d.clear() -/
theorem d_clear {Q : Value → Shared → Prop} (I : Inv X pins σ H s) (e : H a = some (.dK kvs)) (h : ∀ s', Inv X pins σ (upd H a (.dK [])) s' → Q .none s') : wpAny (model X.prog X.w) A (call (.builtin "dict.clear") [.ref a]) Q E s := by
  obtain ⟨z, hd, vs, rel, dd⟩ := dk_of I.hok e
  refine call_meetsIn PySem.F.slot_dict_clear dd.typeIs PySem.F.entry_dict_clear (PySem.F.args_dict_clear_1 _) (meets_dict_clear (mixKind X.prog X.w) a) ⟨vs, dd, by rw [← rel.length]; exact z, fun h' dd' hs => h _ ?_⟩
  have he : ∃ q, h'.get? a = some q := let ⟨q, _, _, hq, _⟩ := dd'; ⟨q, hq⟩
  exact d_write (t' := s.toks) I (by rw [e]; exact True.intro) hs he (dk_new (Nat.zero_le _) hd .nil dd')
/-- len(d) -/
theorem d_len {Q : Value → Shared → Prop} (I : Inv X pins σ H s) (e : Rd H a (.dK kvs)) (h : ∀ t s', Inv X pins σ H s' → Q (.int kvs.length t) s') : wpAny (model X.prog X.w) A (call (.builtin "len") [.ref a]) Q E s := by
  obtain ⟨z, hd, vs, rel, dd⟩ := dk_rd I.hok e
  refine call_len_dict hd dd (by rw [← rel.length]; rw [sizeLine_eq] at z; omega) ?_
  rw [← rel.length]
  exact h _ _ (I.tok _)
/-- if d -/
theorem d_truth {Q : Bool → Shared → Prop} (I : Inv X pins σ H s) (e : Rd H a (.dK kvs)) (h : ∀ s', Inv X pins σ H s' → Q (!kvs.isEmpty) s') : wpAny (model X.prog X.w) A (truthy (.ref a)) Q E s := by
  obtain ⟨z, hd, vs, rel, dd⟩ := dk_rd I.hok e
  refine wpAny_truthy_dict hd dd (by rw [← rel.length]; rw [sizeLine_eq] at z; omega) ?_
  have q : kvs.isEmpty = vs.isEmpty := by cases rel <;> rfl
  rw [← q]
  exact h _ (I.tok _)
end


/-! ### readings and rules -/
/-- the element of a subscription, not a slice -/
def NoSl (i : Expr) : Prop := ∀ ov iv, subscripted i false ov iv = operate [ov, iv] (getItem ov iv)
theorem subD_of {prog : Program} {w : World} {A : Around} {E : Value → Shared → Prop} {s : Shared} {env : Env} {value slice : Expr} {pos : Pos} {T id : String} {Q : Value → Shared → Prop}
    (hl : typeLookup (.type T) "__getitem__" = pure (some (.builtin id))) (hs : NoSl slice)
    (h : wpAny (model prog w) A (eval value env) (fun o s₁ => wpAny (model prog w) A (eval slice env) (fun i s₂ => s₂.TypeIs o T ∧ wpAny (model prog w) A (getItem o i) Q E s₂) E s₁) E s) :
    wpAny (model prog w) A (eval (.Subscript value slice pos) env) Q E s := by
  refine Subscript_ (wpAny_mono h (fun o s₁ h₁ => wpAny_mono h₁ (fun i s₂ h₂ => ?_) fun _ _ x => x) fun _ _ x => x)
  obtain ⟨hT, h₂⟩ := h₂
  unfold subscriptTail
  refine wpAny_bind ?_
  rw [getitemInPython_of_ne hT.not_modules]
  refine wpAny_bind (wpAny_specialOf hT hl ?_)
  have fin : wpAny (model prog w) A (subscripted slice false o i) (fun r s₃ => wpAny (model prog w) A (letTemporaryGo value o r >>= fun _ => pure r) Q E s₃) E s₂ := by
    rw [hs o i]
    exact wpAny_operating (wpAny_mono h₂ (fun r s₃ h₃ => wpAny_bind (wpAny_letTemporaryGo (wpAny_pure h₃))) fun _ _ x => x)
  first
    | exact wpAny_pure (wpAny_bind fin)
    | exact wpAny_bind (wpAny_pure (wpAny_bind fin))
    | exact wpAny_bind fin

theorem dict_typeIs {X : Cx} {pins : List (Addr × Obj)} {σ : St} {H : Hp} {s : Shared} {a : Addr} {y : V} {o : Option V} (I : Inv X pins σ H s) (g : DGet H a y o) : s.TypeIs (.ref a) "dict" := by
  rcases g with ⟨kvs, k, e, _, _⟩ | ⟨kvs, k, b, e, _, _, _⟩
  · obtain ⟨_, _, vs, _, dd⟩ := dk_rd I.hok e
    exact dd.typeIs
  · obtain ⟨_, _, xs, _, dd⟩ := dt_rd I.hok e
    exact dd.typeIs
theorem dict_noDict {X : Cx} {pins : List (Addr × Obj)} {σ : St} {H : Hp} {s : Shared} {a : Addr} {y : V} {o : Option V} (I : Inv X pins σ H s) (g : DGet H a y o) :
    ∀ b, Value.ref a = .ref b → ∃ ob, s.heap.get? b = some ob ∧ ob.dict = none := fun b q => by
  cases q
  rcases g with ⟨kvs, k, e, _, _⟩ | ⟨kvs, k, b, e, _, _, _⟩
  · obtain ⟨_, _, vs, _, ob, _, _, h1, h2, _⟩ := dk_rd I.hok e
    exact ⟨ob, h1, h2.2.1⟩
  · obtain ⟨_, _, xs, _, ob, _, _, h1, h2, _⟩ := dt_rd I.hok e
    exact ⟨ob, h1, h2.2.1⟩

/-- d[y] -/
def tDGet (td ty : TE) : TE := fun σ H Q => td σ H fun x H1 => ty σ H1 fun y H2 => ∃ a v, x = .ref a ∧ DGet H2 a y (some v) ∧ Q v H2
/-- y in d, y not in d -/
def tDIn (ty td : TE) : TE := fun σ H Q => ty σ H fun y H1 => td σ H1 fun x H2 => ∃ a o, x = .ref a ∧ DGet H2 a y o ∧ Q (.bl o.isSome) H2
def tDNotIn (ty td : TE) : TE := fun σ H Q => ty σ H fun y H1 => td σ H1 fun x H2 => ∃ a o, x = .ref a ∧ DGet H2 a y o ∧ Q (.bl (!o.isSome)) H2
/-- d[y] = v -/
def sDPut (td ty tv : TE) : TS := fun D σ H => tv σ H fun v H1 => td σ H1 fun x H2 => ty σ H2 fun y H3 => ∃ a H4, x = .ref a ∧ DPut H3 a y v H4 ∧ D.nx σ H4
/-- d[y] op= v -/
def sDAug (td ty tv : TE) (rd : V → V → Hp → VK → Prop) : TS := fun D σ H => td σ H fun x H1 => ty σ H1 fun y H2 => ∃ a v, x = .ref a ∧ DGet H2 a y (some v) ∧
  tv σ H2 fun y2 H3 => rd v y2 H3 fun z H4 => ∃ H5, DPut H4 a y z H5 ∧ D.nx σ H5
/-- del d[y] -/
def sDDel (td ty : TE) : TS := fun D σ H => td σ H fun x H1 => ty σ H1 fun y H2 => ∃ a kvs k, x = .ref a ∧ H2 a = some (.dK kvs) ∧ y = kV k ∧ (valV kvs k).isSome = true ∧ D.nx σ (upd H2 a (.dK (dropK kvs k)))

section
variable {X : Cx} {o i e value : Expr} {pos pos' tpos : Pos} {td ty tv : TE}
theorem pe_dget (hu : X.A.units + 1 < cLine) (ho : PE X o td) (hi : PE X i ty) (hs : NoSl i) : PE X (.Subscript o i pos) (tDGet td ty) := by
  intro pins s σ H Q I h
  refine subD_of PySem.F.slot_dict_getitem.lookup hs (thn (ho pins s σ H _ I h) fun u s1 ⟨x, H1, I1, rx, q1⟩ => thn (hi pins s1 σ H1 _ I1 q1) fun iv s2 ⟨y, H2, I2, ry, a, v, ex, g, q2⟩ => ?_)
  subst ex
  obtain rfl : u = Value.ref a := rx
  exact ⟨dict_typeIs I2 g, d_getItem hu I2 g ry fun w' s3 I3 rw' => ⟨v, H2, I3, rw', q2⟩⟩
theorem pc_din (hu : X.A.units + 1 < cLine) (hi : PE X i ty) (ho : PE X o td) : PC X .In i o (tDIn ty td) := by
  intro pins s σ H Q I h
  refine thn (hi pins s σ H _ I h) fun iv s1 ⟨y, H1, I1, ry, q1⟩ => thn (ho pins s1 σ H1 _ I1 q1) fun u s2 ⟨x, H2, I2, rx, a, ov, ex, g, q2⟩ => ?_
  subst ex
  obtain rfl : u = Value.ref a := rx
  exact d_in hu I2 g ry fun s3 I3 => ⟨.bl ov.isSome, H2, I3, rfl, q2⟩
theorem pc_dnotin (hu : X.A.units + 1 < cLine) (hi : PE X i ty) (ho : PE X o td) : PC X .NotIn i o (tDNotIn ty td) := by
  intro pins s σ H Q I h
  refine thn (hi pins s σ H _ I h) fun iv s1 ⟨y, H1, I1, ry, q1⟩ => thn (ho pins s1 σ H1 _ I1 q1) fun u s2 ⟨x, H2, I2, rx, a, ov, ex, g, q2⟩ => ?_
  subst ex
  obtain rfl : u = Value.ref a := rx
  exact d_notIn hu I2 g ry fun s3 I3 => ⟨.bl (!ov.isSome), H2, I3, rfl, q2⟩
theorem ps_dput (hu : X.A.units + 1 < cLine) (ho : PE X o td) (hi : PE X i ty) (hv : PE X value tv) (hs : swapsWith value (some (.Subscript o i pos')) pos.line X.env = pure false) :
    PS X (.Assign [.Subscript o i pos'] value pos) (sDPut td ty tv) := by
  intro pins s σ H D I h
  refine wpAny_Assign_Subscript (thn (hv pins s σ H _ I h) fun r s1 ⟨v, H1, I1, rv, q1⟩ => thn (ho pins s1 σ H1 _ I1 q1) fun u s2 ⟨x, H2, I2, rx, q2⟩ => thn (hi pins s2 σ H2 _ I2 q2) fun iv s3 ⟨y, H3, I3, ry, a, H4, ex, g, q3⟩ => ?_) hs
  subst ex
  obtain rfl : u = Value.ref a := rx
  exact d_setItem hu I3 g ry rv fun s4 I4 => ⟨σ, H4, I4, q3⟩
theorem ps_daug {op : Operator} {rd : V → V → Hp → VK → Prop} (hu : X.A.units + 1 < cLine) (ho : PE X o td) (hi : PE X i ty) (hv : PE X value tv) (hop : InOp X op rd)
    (ha : ∀ ov iv new, augStore i ov iv new = (do holding [new, ov, iv] (setItem ov iv new); release [new, ov, iv] []; pure .next)) : PS X (.AugAssign (.Subscript o i tpos) op value pos) (sDAug td ty tv rd) := by
  intro pins s σ H D I h
  refine wpAny_AugAssign_SubscriptAny (thn (ho pins s σ H _ I h) fun u s1 ⟨x, H1, I1, rx, q1⟩ => thn (hi pins s1 σ H1 _ I1 q1) fun iv s2 ⟨y, H2, I2, ry, a, v, ex, g, q2⟩ => ?_) ha
  subst ex
  obtain rfl : u = Value.ref a := rx
  refine d_getItem hu I2 g ry fun w' s3 I3 rw' => thn (hv pins s3 σ H2 _ I3 q2) fun w2 s4 ⟨y2, H3, I4, ry2, q3⟩ => thn (hop pins s4 σ H3 v y2 w' w2 _ I4 rw' ry2 q3) fun w3 s5 ⟨z, H4, I5, rz, H5, g5, q4⟩ => ?_
  exact d_setItem hu I5 g5 ry rz fun s6 I6 => ⟨σ, H5, I6, q4⟩
theorem ps_ddel (ho : PE X o td) (hi : PE X i ty) : PS X (.Delete [.Subscript o i tpos] pos) (sDDel td ty) := by
  intro pins s σ H D I h
  refine wpAny_Delete (wpAny_deleteEach_cons (wpAny_delete_Subscript (thn (ho pins s σ H _ I h) fun u s1 ⟨x, H1, I1, rx, q1⟩ => thn (hi pins s1 σ H1 _ I1 q1) fun iv s2 ⟨y, H2, I2, ry, a, kvs, k, ex, e, ey, l, q2⟩ => ?_)))
  subst ex ey
  obtain rfl : u = Value.ref a := rx
  exact d_delItem I2 e ry l fun s3 I3 => wpAny_deleteEach_nil ⟨σ, _, I3, q2⟩
end


/-! ### displays -/
theorem dk_empty {P : Program} {w : World} {H : Hp} (h : Heap) (hb : sysModules < h.objs.size) : ObjOk P w H (h.push { cls := .type "dict", data := .dict #[] }) h.objs.size (.dK []) :=
  ⟨Nat.zero_le _, beq_eq_false_iff_ne.mpr (Ne.symm (Nat.ne_of_lt hb)), [], .nil, Heap.DictOf.new h⟩
theorem dt_empty {P : Program} {w : World} {H : Hp} (h : Heap) (hb : sysModules < h.objs.size) : ObjOk P w H (h.push { cls := .type "dict", data := .dict #[] }) h.objs.size (.dT []) :=
  ⟨Nat.zero_le _, beq_eq_false_iff_ne.mpr (Ne.symm (Nat.ne_of_lt hb)), [], .nil, _, #[], 0, Heap.get?_push_size _ rfl, ⟨rfl, rfl, rfl⟩, rfl, rfl, List.nodup_nil⟩
/-- {}, to be a dict of the kind that is wanted -/
def tDNewK : TE := fun _ H Q => ∀ p, H p = none → Q (.ref p) (upd H p (.dK []))
def tDNewT : TE := fun _ H Q => ∀ p, H p = none → Q (.ref p) (upd H p (.dT []))
section
variable {X : Cx} {pos : Pos}
theorem pe_dnewK : PE X (.Dict [] [] pos) tDNewK := fun pins s σ H Q I h =>
  wpAny_Dict_empty ⟨.ref s.heap.objs.size, _, I.laid (a := s.heap.objs.size) (o := .dK []) (t' := s.toks) (fun _ _ q => Heap.get?_push_of_some _ q) (Nat.le_refl _) (dk_empty s.heap I.big), rfl, h _ (I.hok.fresh (Nat.le_refl _))⟩
theorem pe_dnewT : PE X (.Dict [] [] pos) tDNewT := fun pins s σ H Q I h =>
  wpAny_Dict_empty ⟨.ref s.heap.objs.size, _, I.laid (a := s.heap.objs.size) (o := .dT []) (t' := s.toks) (fun _ _ q => Heap.get?_push_of_some _ q) (Nat.le_refl _) (dt_empty s.heap I.big), rfl, h _ (I.hok.fresh (Nat.le_refl _))⟩
end

/-- the pairs of a display, from the left -/
def tPairs : List (TE × TE) → St → Hp → (List (V × V) → Hp → Prop) → Prop
  | [], _, H, Q => Q [] H
  | (tk, tv) :: r, σ, H, Q => tk σ H fun x H1 => tv σ H1 fun y H2 => tPairs r σ H2 fun ps H3 => Q ((x, y) :: ps) H3
abbrev VV : List (V × V) → List (Value × Value) → Prop := Paired fun p q => RelV p.1 q.1 ∧ RelV p.2 q.2
def PPs (X : Cx) (pos : Pos) (keys : List (Option Expr)) (values : List Expr) (trs : List (TE × TE)) : Prop :=
  ∀ (pins : List (Addr × Obj)) (s : Shared) (σ : St) (H : Hp) (Q : List (V × V) → Hp → Prop), Inv X pins σ H s → tPairs trs σ H Q →
    wpAny (model X.prog X.w) X.A (evalPairs (pairTrees keys values X.env pos)) (fun vs s' => ∃ ps H', Inv X pins σ H' s' ∧ VV ps vs ∧ Q ps H') X.xe s
theorem pps_nil {X : Cx} {pos : Pos} : PPs X pos [] [] [] := fun pins s σ H Q I h => pairTrees_nil_walk ⟨[], H, I, .nil, h⟩
theorem pps_cons {X : Cx} {pos : Pos} {k v : Expr} {ks : List (Option Expr)} {vs : List Expr} {tk tv : TE} {trs : List (TE × TE)} (hk : PE X k tk) (hv : PE X v tv) (hr : PPs X pos ks vs trs) :
    PPs X pos (some k :: ks) (v :: vs) ((tk, tv) :: trs) := fun pins s σ H Q I h =>
  pairTrees_cons_walk (thn (hk pins s σ H _ I h) fun u s1 ⟨x, H1, I1, rx, q1⟩ => thn (hv pins s1 σ H1 _ I1 q1) fun w2 s2 ⟨y, H2, I2, ry, q2⟩ =>
    thn (hr pins s2 σ H2 _ I2 q2) fun ws s3 ⟨ps, H3, I3, rel, q3⟩ => ⟨(x, y) :: ps, H3, I3, .cons ⟨rx, ry⟩ rel, q3⟩)

def mergeK (kvs more : List (Key × V)) : List (Key × V) := more.foldl (fun acc kv => putK acc kv.1 kv.2) kvs
theorem KV.merge : ∀ {more : List (Key × V)} {rs : List (Key × Value)} {kvs : List (Key × V)} {vs : List (Key × Value)}, KV more rs → KV kvs vs → KV (mergeK kvs more) (merged vs rs) := by
  intro more rs kvs vs r
  unfold KV at r
  induction r generalizing kvs vs with
  | nil => intro q; exact q
  | @cons p q ps qs h t ih =>
    intro r0
    have e : KV (putK kvs p.1 p.2) (stored vs q.1 q.2) := by
      have := r0.put p.1 h.2
      rw [← h.1]; exact this
    exact ih e
theorem length_mergeK : ∀ (more kvs : List (Key × V)), (mergeK kvs more).length ≤ kvs.length + more.length
  | [], kvs => by show kvs.length ≤ kvs.length + 0; omega
  | p :: r, kvs => by
    have h1 := length_mergeK r (putK kvs p.1 p.2)
    have h2 := length_putK kvs p.1 p.2
    show (mergeK (putK kvs p.1 p.2) r).length ≤ _
    rw [List.length_cons]; omega
theorem carries_of {P : Program} {w : World} : ∀ {kvs : List (Key × V)} {ws : List (Value × Value)}, VV (kvs.map fun kv => (kV kv.1, kv.2)) ws → ∃ rs, Carries (mixKind P w) ws rs ∧ KV kvs rs
  | [], _, r => by rw [List.map_nil] at r; cases r; exact ⟨[], True.intro, .nil⟩
  | p :: kvs, _, r => by
    rw [List.map_cons] at r
    cases r with
    | @cons a b as bs h t =>
      obtain ⟨rs, c, q⟩ := carries_of (P := P) (w := w) t
      obtain ⟨b1, b2⟩ := b
      exact ⟨(p.1, b2) :: rs, ⟨kV_is h.1, rfl, c⟩, .cons ⟨rfl, h.2⟩ q⟩
/-- {k: v, ..} with keys ints and texts; the new dict stands empty while the pairs are made -/
def tDisp (trs : List (TE × TE)) : TE := fun σ H Q => ∀ p, H p = none → tPairs trs σ (upd H p (.dK [])) fun ps H2 => H2 p = some (.dK []) ∧ ∃ kvs : List (Key × V), ps = kvs.map (fun kv => (kV kv.1, kv.2)) ∧ kvs.length ≤ 15 ∧ Q (.ref p) (upd H2 p (.dK (mergeK [] kvs)))
theorem pe_disp {X : Cx} {pos : Pos} {keys : List (Option Expr)} {values : List Expr} {trs : List (TE × TE)} (h : PPs X pos keys values trs) (hall : keys.all (·.isSome) = true) (hl : keys.length = values.length) (h0 : keys ≠ [])
    (h15 : keys.length ≤ 15) : PE X (.Dict keys values pos) (tDisp trs) := by
  intro pins s σ H Q I q
  have hn := I.hok.fresh (Nat.le_refl s.heap.objs.size)
  have I1 := I.laid (a := s.heap.objs.size) (o := .dK []) (h' := s.heap.push { cls := .type "dict", data := .dict #[] }) (t' := s.toks) (fun _ _ q => Heap.get?_push_of_some _ q) (Nat.le_refl _) (dk_empty s.heap I.big)
  refine wpAny_Dict_walk (knd := mixKind X.prog X.w) hall hl h0 h15 (thn (h pins _ σ _ _ I1 (q _ hn)) fun ws s2 ⟨ps, H2, I2, rel, e, kvs, ep, lk, q2⟩ => ?_)
  subst ep
  obtain ⟨rs, c, rk⟩ := carries_of (P := X.prog) (w := X.w) rel
  obtain ⟨z, hd, vs0, r0, dd⟩ := dk_of I2.hok e
  cases r0
  refine ⟨rs, c, dd, fun h' dd' hs => ⟨.ref s.heap.objs.size, _, ?_, rfl, q2⟩⟩
  have hz : (mergeK [] kvs).length ≤ sizeLine := by
    have h1 := length_mergeK kvs []
    rw [List.length_nil] at h1
    rw [sizeLine_eq]; omega
  have he : ∃ q, h'.get? s.heap.objs.size = some q := let ⟨q, _, _, hq, _⟩ := dd'; ⟨q, hq⟩
  exact d_write I2 (by rw [e]; exact True.intro) hs he (dk_new hz hd (rk.merge .nil) dd')


/-! ### methods -/
/-- a method call o.m(e) of a built-in, with one argument: what must be seen of the text -/
structure M1 (X : Cx) (o : Expr) (m : Str) (apos : Pos) (e : Expr) (cpos : Pos) : Prop where
  base : attributeBase o m X.env (eval o X.env) = eval o X.env
  few : ((backTo cpos (starEach [e] X.env)).all (fun x => !x.1) && (backToKw cpos (keywordEach [] X.env)).all (fun x => x.1.isSome)
    && decide (([e] : List Expr).length + ([] : List Keyword).length + (if ([] : List Keyword).isEmpty then 0 else 1) < 30)) = true
  line : (apos.endLine == cpos.line) = true
  trees : backTo cpos (starEach [e] X.env) = [(false, eval e X.env)]
structure M2 (X : Cx) (o : Expr) (m : Str) (apos : Pos) (e f : Expr) (cpos : Pos) : Prop where
  base : attributeBase o m X.env (eval o X.env) = eval o X.env
  few : ((backTo cpos (starEach [e, f] X.env)).all (fun x => !x.1) && (backToKw cpos (keywordEach [] X.env)).all (fun x => x.1.isSome)
    && decide (([e, f] : List Expr).length + ([] : List Keyword).length + (if ([] : List Keyword).isEmpty then 0 else 1) < 30)) = true
  line : (apos.endLine == cpos.line) = true
  trees : backTo cpos (starEach [e, f] X.env) = [(false, eval e X.env), (false, eval f X.env)]

/-- a is a dict, whatever its keys -/
def IsD (H : Hp) (a : Addr) : Prop := (∃ kvs, Rd H a (.dK kvs)) ∨ ∃ kvs, Rd H a (.dT kvs)
theorem isD_at {X : Cx} {pins : List (Addr × Obj)} {σ : St} {H : Hp} {s : Shared} {a : Addr} (I : Inv X pins σ H s) (d : IsD H a) :
    s.TypeIs (.ref a) "dict" ∧ (∀ b, Value.ref a = .ref b → ∃ ob, s.heap.get? b = some ob ∧ ob.dict = none) ∧ (a == sysModules) = false := by
  rcases d with ⟨kvs, e⟩ | ⟨kvs, e⟩
  · obtain ⟨_, hd, vs, _, dd⟩ := dk_rd I.hok e
    refine ⟨dd.typeIs, fun b q => ?_, hd⟩
    cases q
    obtain ⟨ob, _, _, h1, h2, _⟩ := dd
    exact ⟨ob, h1, h2.2.1⟩
  · obtain ⟨_, hd, xs, _, dd⟩ := dt_rd I.hok e
    refine ⟨dd.typeIs, fun b q => ?_, hd⟩
    cases q
    obtain ⟨ob, _, _, h1, h2, _⟩ := dd
    exact ⟨ob, h1, h2.2.1⟩

section
variable {X : Cx} {pins : List (Addr × Obj)} {σ : St} {H : Hp} {s : Shared} {a : Addr} {y d : V} {u r : Value} {o : Option V} {A : Around} {E : Value → Shared → Prop}
/-- d.get(y) -/
theorem d_get1 {Q : Value → Shared → Prop} (hu : A.units + 1 < cLine) (I : Inv X pins σ H s) (g : DGet H a y o) (ry : RelV y u) (h : ∀ w' s', Inv X pins σ H s' → RelV (o.getD .non) w' → Q w' s') :
    wpAny (model X.prog X.w) A (call (.builtin "dict.get") [.ref a, u]) Q E s := by
  rcases g with ⟨kvs, k, e, ey, l⟩ | ⟨kvs, k, b, e, ey, eb, l⟩
  · subst ey
    obtain ⟨z, hd, vs, rel, dd⟩ := dk_rd I.hok e
    refine call_meetsIn PySem.F.slot_dict_get dd.typeIs PySem.F.entry_dict_get (PySem.F.args_dict_get_2 _ _) (meets_dict_get (mixKind X.prog X.w) a (kV_is ry) hd) ⟨_, dd.mapOf, h _ _ (I.tok _) ?_⟩
    rw [l]
    exact (rel.val k).getD rfl
  · subst ey
    cases (show u = Value.ref b from ry)
    obtain ⟨z, hd, xs, rel, dd⟩ := dt_rd I.hok e
    refine call_meetsIn PySem.F.slot_dict_get dd.typeIs PySem.F.entry_dict_get (PySem.F.args_dict_get_2 _ _) (meetsH_dict_get (tupleKind (mixKind X.prog X.w)) a b hd) ⟨tupleKind_room_in1 hu, k, xs, key_of I.hok eb, dd, h _ _ (I.tok _) ?_⟩
    rw [l]
    exact (rel.val k).getD rfl
/-- d.get(y, x) -/
theorem d_get2 {Q : Value → Shared → Prop} (hu : A.units + 1 < cLine) (I : Inv X pins σ H s) (g : DGet H a y o) (ry : RelV y u) (rd : RelV d r) (h : ∀ w' s', Inv X pins σ H s' → RelV (o.getD d) w' → Q w' s') :
    wpAny (model X.prog X.w) A (call (.builtin "dict.get") [.ref a, u, r]) Q E s := by
  rcases g with ⟨kvs, k, e, ey, l⟩ | ⟨kvs, k, b, e, ey, eb, l⟩
  · subst ey
    obtain ⟨z, hd, vs, rel, dd⟩ := dk_rd I.hok e
    refine call_meetsIn PySem.F.slot_dict_get dd.typeIs PySem.F.entry_dict_get (PySem.F.args_dict_get_3 _ _ _) (meets_dict_get_default (mixKind X.prog X.w) a (kV_is ry) hd r) ⟨_, dd.mapOf, h _ _ (I.tok _) ?_⟩
    rw [l]
    exact (rel.val k).getD rd
  · subst ey
    cases (show u = Value.ref b from ry)
    obtain ⟨z, hd, xs, rel, dd⟩ := dt_rd I.hok e
    refine call_meetsIn PySem.F.slot_dict_get dd.typeIs PySem.F.entry_dict_get (PySem.F.args_dict_get_3 _ _ _) (meetsH_dict_get_default (tupleKind (mixKind X.prog X.w)) a b hd r) ⟨tupleKind_room_in1 hu, k, xs, key_of I.hok eb, dd, h _ _ (I.tok _) ?_⟩
    rw [l]
    exact (rel.val k).getD rd
end

def tDGet1 (td ty : TE) : TE := fun σ H Q => td σ H fun x H1 => ∃ a, x = .ref a ∧ IsD H1 a ∧ ty σ H1 fun y H2 => ∃ o, DGet H2 a y o ∧ Q (o.getD .non) H2
def tDGet2 (td ty tx : TE) : TE := fun σ H Q => td σ H fun x H1 => ∃ a, x = .ref a ∧ IsD H1 a ∧ ty σ H1 fun y H2 => tx σ H2 fun z H3 => ∃ o, DGet H3 a y o ∧ Q (o.getD z) H3
/-- d.pop(k): there; d.pop(k, x): there or not -/
def tDPop1 (td ty : TE) : TE := fun σ H Q => td σ H fun x H1 => ∃ a, x = .ref a ∧ IsD H1 a ∧ ty σ H1 fun y H2 => ∃ kvs k v, H2 a = some (.dK kvs) ∧ y = kV k ∧ valV kvs k = some v ∧ Q v (upd H2 a (.dK (dropK kvs k)))
def tDPop2 (td ty tx : TE) : TE := fun σ H Q => td σ H fun x H1 => ∃ a, x = .ref a ∧ IsD H1 a ∧ ty σ H1 fun y H2 => tx σ H2 fun z H3 => ∃ kvs k, H3 a = some (.dK kvs) ∧ y = kV k ∧
  (∀ v, valV kvs k = some v → Q v (upd H3 a (.dK (dropK kvs k)))) ∧ (valV kvs k = none → Q z H3)
section
variable {X : Cx} {o e f : Expr} {apos cpos : Pos} {td ty tx : TE}
theorem pe_dget1 (hu : X.A.units + 1 < cLine) (ho : PE X o td) (he : PE X e ty) (m : M1 X o "get" apos e cpos) : PE X (.Call (.Attribute o "get" apos) [e] [] cpos) (tDGet1 td ty) := by
  intro pins s σ H Q I h
  refine wpAny_Call_method m.base m.few m.line PySem.F.plainAttrs_dict PySem.F.slot_dict_get PySem.F.type_dict_get (thn (ho pins s σ H _ I h) fun u s1 ⟨x, H1, I1, rx, a, ex, d, q1⟩ => ?_)
  subst ex
  obtain rfl : u = Value.ref a := rx
  obtain ⟨t1, t2, _⟩ := isD_at I1 d
  refine ⟨t1, t2, ?_⟩
  rw [m.trees]
  refine Calls.callWith_builtin rfl (Calls.evalArgs_plain (Calls.spliced_cons (thn (he pins s1 σ H1 _ I1 q1) fun iv s2 ⟨y, H2, I2, ry, ov, g, q2⟩ => Calls.spliced_nil ?_)))
  exact d_get1 hu I2 g ry fun w' s3 I3 rw' => ⟨_, H2, I3, rw', q2⟩
theorem pe_dget2 (hu : X.A.units + 1 < cLine) (ho : PE X o td) (he : PE X e ty) (hf : PE X f tx) (m : M2 X o "get" apos e f cpos) : PE X (.Call (.Attribute o "get" apos) [e, f] [] cpos) (tDGet2 td ty tx) := by
  intro pins s σ H Q I h
  refine wpAny_Call_method m.base m.few m.line PySem.F.plainAttrs_dict PySem.F.slot_dict_get PySem.F.type_dict_get (thn (ho pins s σ H _ I h) fun u s1 ⟨x, H1, I1, rx, a, ex, d, q1⟩ => ?_)
  subst ex
  obtain rfl : u = Value.ref a := rx
  obtain ⟨t1, t2, _⟩ := isD_at I1 d
  refine ⟨t1, t2, ?_⟩
  rw [m.trees]
  refine Calls.callWith_builtin rfl (Calls.evalArgs_plain (Calls.spliced_cons (thn (he pins s1 σ H1 _ I1 q1) fun iv s2 ⟨y, H2, I2, ry, q2⟩ =>
    Calls.spliced_cons (thn (hf pins s2 σ H2 _ I2 q2) fun fv s3 ⟨z, H3, I3, rz, ov, g, q3⟩ => Calls.spliced_nil ?_))))
  exact d_get2 hu I3 g ry rz fun w' s4 I4 rw' => ⟨_, H3, I4, rw', q3⟩
theorem pe_dpop1 (ho : PE X o td) (he : PE X e ty) (m : M1 X o "pop" apos e cpos) : PE X (.Call (.Attribute o "pop" apos) [e] [] cpos) (tDPop1 td ty) := by
  intro pins s σ H Q I h
  refine wpAny_Call_method m.base m.few m.line PySem.F.plainAttrs_dict PySem.F.slot_dict_pop PySem.F.type_dict_pop (thn (ho pins s σ H _ I h) fun u s1 ⟨x, H1, I1, rx, a, ex, d, q1⟩ => ?_)
  subst ex
  obtain rfl : u = Value.ref a := rx
  obtain ⟨t1, t2, _⟩ := isD_at I1 d
  refine ⟨t1, t2, ?_⟩
  rw [m.trees]
  refine Calls.callWith_builtin rfl (Calls.evalArgs_plain (Calls.spliced_cons (thn (he pins s1 σ H1 _ I1 q1) fun iv s2 ⟨y, H2, I2, ry, kvs, k, v, ea, ey, l, q2⟩ => Calls.spliced_nil ?_)))
  subst ey
  exact d_pop I2 ea ry l (.inl rfl) fun w' s3 I3 rw' => ⟨v, _, I3, rw', q2⟩
theorem pe_dpop2 (ho : PE X o td) (he : PE X e ty) (hf : PE X f tx) (m : M2 X o "pop" apos e f cpos) : PE X (.Call (.Attribute o "pop" apos) [e, f] [] cpos) (tDPop2 td ty tx) := by
  intro pins s σ H Q I h
  refine wpAny_Call_method m.base m.few m.line PySem.F.plainAttrs_dict PySem.F.slot_dict_pop PySem.F.type_dict_pop (thn (ho pins s σ H _ I h) fun u s1 ⟨x, H1, I1, rx, a, ex, d, q1⟩ => ?_)
  subst ex
  obtain rfl : u = Value.ref a := rx
  obtain ⟨t1, t2, _⟩ := isD_at I1 d
  refine ⟨t1, t2, ?_⟩
  rw [m.trees]
  refine Calls.callWith_builtin rfl (Calls.evalArgs_plain (Calls.spliced_cons (thn (he pins s1 σ H1 _ I1 q1) fun iv s2 ⟨y, H2, I2, ry, q2⟩ =>
    Calls.spliced_cons (thn (hf pins s2 σ H2 _ I2 q2) fun fv s3 ⟨z, H3, I3, rz, kvs, k, ea, ey, q3, q4⟩ => Calls.spliced_nil ?_))))
  subst ey
  cases l : valV kvs k with
  | some v => exact d_pop I3 ea ry l (.inr ⟨fv, rfl⟩) fun w' s4 I4 rw' => ⟨v, _, I4, rw', q3 v l⟩
  | none => exact d_popD I3 ea ry l fun s4 I4 => ⟨z, H3, I4, rz, q4 l⟩
end

/-! ### dict(d): a copy -/
section
variable {X : Cx} {pins : List (Addr × Obj)} {σ : St} {H : Hp} {s : Shared} {a : Addr} {kvs : List (Key × V)} {A : Around} {E : Value → Shared → Prop}
theorem d_copyOf {Q : Value → Shared → Prop} (I : Inv X pins σ H s) (e : Rd H a (.dK kvs)) (h : ∀ p s', H p = none → Inv X pins σ (upd H p (.dK kvs)) s' → Q (.ref p) s') : wpAny (model X.prog X.w) A (call (.type "dict") [.ref a]) Q E s := by
  obtain ⟨z, hd, vs, rel, dd⟩ := dk_rd I.hok e
  refine kt_call_dict hd dd (by rw [← rel.length]; exact z) fun h' dd' hs => ?_
  refine h _ _ (I.hok.fresh (Nat.le_refl _)) (I.laid (a := s.heap.objs.size) (o := .dK kvs) (t' := s.toks) (fun b q hq => ?_) (Nat.le_refl _) (dk_new z (beq_eq_false_iff_ne.mpr (Ne.symm (Nat.ne_of_lt I.big))) rel dd'))
  exact (hs.2 b (Nat.ne_of_lt (Heap.lt_size hq))).trans (Heap.get?_push_of_some _ hq)
end


section
variable {X : Cx} {pins : List (Addr × Obj)} {σ : St} {H : Hp} {s : Shared} {a : Addr} {y : V} {u : Value} {A : Around} {E : Value → Shared → Prop}
/-- d[y], not there: a KeyError -/
theorem d_missing {Q : Value → Shared → Prop} (hu : A.units + 1 < cLine) (hh : A.handled = none) (I : Inv X pins σ H s) (g : DGet H a y none) (ry : RelV y u)
    (h : ∀ h' e t', Heap.NewExc s.heap h' e "KeyError" → E (.ref e) { s with heap := h', toks := t' }) : wpAny (model X.prog X.w) A (getItem (.ref a) u) Q E s := by
  rcases g with ⟨kvs, k, e, ey, l⟩ | ⟨kvs, k, b, e, ey, eb, l⟩
  · subst ey
    obtain ⟨z, hd, vs, rel, dd⟩ := dk_rd I.hok e
    have hn : valueAt vs k = none := RelO.none_of (by rw [l]; exact rel.val k)
    exact wpAny_getItem_missing_of (kV_is ry) hd hh dd.mapOf hn fun h' ex ne => h h' ex _ ne
  · subst ey
    cases (show u = Value.ref b from ry)
    obtain ⟨z, hd, xs, rel, dd⟩ := dt_rd I.hok e
    have hn : (atKey xs k).map (·.2) = none := RelO.none_of (by rw [l]; exact rel.val k)
    exact wpAny_getItem_missing_heap (tupleKind_room_in1 hu) (key_of I.hok eb) hd hh dd (Option.map_eq_none_iff.mp hn) fun h' ex ne => h h' ex _ ne
end
end L2

namespace L2
open PySem PySem.Spec PyProof.Rows
section
variable {X : Cx}
theorem call_lenD : CallR X (.builtin "len") (fun xs H Q => ∃ a kvs, xs = [V.ref a] ∧ H a = some (.dK kvs) ∧ Q (.int kvs.length) H) := by
  intro pins s σ H xs us Q I r h
  obtain ⟨a, kvs, rfl, ha, q⟩ := h
  obtain ⟨u, rfl, ru⟩ := vals1 r
  cases ru
  exact d_len I (.inl ha) fun t s' I' => ⟨.int kvs.length, H, I', ⟨t, rfl⟩, q⟩
end
/-! ### a dict's pairs: keys that differ -/
section
variable {κ : Type} [DecidableEq κ]
theorem valV_not {kvs : List (κ × V)} {k : κ} (h : valV kvs k = none) : ¬ k ∈ kvs.map (·.1) := by
  intro m
  obtain ⟨p, hp, e⟩ := List.mem_map.mp m
  have q : (kvs.any fun kv => decide (kv.1 = k)) = true := List.any_eq_true.mpr ⟨p, hp, decide_eq_true e⟩
  rw [valV_any, h] at q
  exact absurd q (by simp)
theorem valV_in {kvs : List (κ × V)} {k : κ} {v : V} (h : valV kvs k = some v) : k ∈ kvs.map (·.1) := by
  have q : (kvs.any fun kv => decide (kv.1 = k)) = true := by
    rw [valV_any, h]
    all_goals rfl
  obtain ⟨p, hp, e⟩ := List.any_eq_true.mp q
  exact List.mem_map.mpr ⟨p, hp, of_decide_eq_true e⟩
theorem nd_snoc : ∀ {l : List κ} {k : κ}, l.Nodup → ¬ k ∈ l → (l ++ [k]).Nodup
  | [], k, _, _ => by simp
  | a :: r, k, h, hk => by
    obtain ⟨h1, h2⟩ := List.nodup_cons.mp h
    show (a :: (r ++ [k])).Nodup
    refine List.nodup_cons.mpr ⟨fun m => ?_, nd_snoc h2 fun m => hk (List.mem_cons.mpr (Or.inr m))⟩
    rcases List.mem_append.mp m with q | q
    · exact h1 q
    · exact hk (List.mem_cons.mpr (Or.inl (List.mem_singleton.mp q).symm))
theorem nd_putK {kvs : List (κ × V)} {k : κ} (v : V) (hn : (kvs.map (·.1)).Nodup) (h : valV kvs k = none) : ((putK kvs k v).map (·.1)).Nodup := by
  rw [putK_new v h, List.map_append]
  exact nd_snoc hn (valV_not h)
theorem dropK_pos {p : κ × V} {r : List (κ × V)} {k : κ} (e : p.1 = k) : dropK (p :: r) k = dropK r k := by
  unfold dropK
  rw [List.filter_cons, if_neg (by simp [e])]
theorem dropK_neg {p : κ × V} {r : List (κ × V)} {k : κ} (e : ¬ p.1 = k) : dropK (p :: r) k = p :: dropK r k := by
  unfold dropK
  rw [List.filter_cons, if_pos (by simp [e])]
theorem dropK_no : ∀ {kvs : List (κ × V)} {k : κ}, ¬ k ∈ kvs.map (·.1) → dropK kvs k = kvs
  | [], _, _ => rfl
  | p :: r, k, h => by
    have h' : ¬ k ∈ r.map (·.1) := fun m => by
      obtain ⟨q, hq, e⟩ := List.mem_map.mp m
      exact h (List.mem_map.mpr ⟨q, List.mem_cons.mpr (Or.inr hq), e⟩)
    rw [dropK_neg fun e => h (List.mem_map.mpr ⟨p, List.mem_cons.mpr (Or.inl rfl), e⟩), dropK_no h']
theorem dropK_mem {kvs : List (κ × V)} {k : κ} {p : κ × V} (h : p ∈ dropK kvs k) : p ∈ kvs := (List.mem_filter.mp h).1
theorem nd_dropK : ∀ {kvs : List (κ × V)} {k : κ}, (kvs.map (·.1)).Nodup → ((dropK kvs k).map (·.1)).Nodup
  | [], _, _ => List.nodup_nil
  | p :: r, k, h => by
    have h : (p.1 :: r.map (·.1)).Nodup := h
    obtain ⟨h1, h2⟩ := List.nodup_cons.mp h
    by_cases e : p.1 = k
    · rw [dropK_pos e]
      exact nd_dropK h2
    · rw [dropK_neg e]
      show (p.1 :: (dropK r k).map (·.1)).Nodup
      refine List.nodup_cons.mpr ⟨fun m => h1 ?_, nd_dropK h2⟩
      obtain ⟨q, hq, eq⟩ := List.mem_map.mp m
      exact List.mem_map.mpr ⟨q, dropK_mem hq, eq⟩
theorem dropK_len : ∀ {kvs : List (κ × V)} {k : κ}, (kvs.map (·.1)).Nodup → k ∈ kvs.map (·.1) → (dropK kvs k).length + 1 = kvs.length
  | [], _, _, m => by simp at m
  | p :: r, k, h, m => by
    have h : (p.1 :: r.map (·.1)).Nodup := h
    have m : k = p.1 ∨ k ∈ r.map (·.1) := List.mem_cons.mp m
    obtain ⟨h1, h2⟩ := List.nodup_cons.mp h
    by_cases e : p.1 = k
    · subst e
      rw [dropK_pos rfl, dropK_no h1]
      all_goals rfl
    · have m' : k ∈ r.map (·.1) := m.resolve_left fun z => e z.symm
      have q := dropK_len h2 m'
      rw [dropK_neg e, List.length_cons, List.length_cons]
      omega
end
end L2

set_option Elab.async false
set_option maxRecDepth 100000
namespace L2
open PySem PySem.Spec PyProof.Rows

/-! ### d.setdefault(k, v) -/
section
variable {X : Cx}
def rSetd : V → List V → Hp → VK → Prop := fun x vs H Q => ∃ a kvs k d, x = .ref a ∧ vs = [kV k, d] ∧ H a = some (.dK kvs) ∧ kvs.length < sizeLine ∧
  (∀ v, valV kvs k = some v → Q v H) ∧ (valV kvs k = none → Q d (upd H a (.dK (putK kvs k d))))
theorem mt_setd : MtR X "dict.setdefault" rSetd := by
  intro pins s σ H x vs v us Q I rx rv h
  obtain ⟨a, kvs, k, d, rfl, rfl, hH, hz, h1, h2⟩ := h
  cases rx
  obtain ⟨u, r, rfl, ru, rr⟩ := vals2 rv
  obtain ⟨z, hd, ws, rel, dd⟩ := dk_of I.hok hH
  have hz' : ws.length ≤ sizeLine := by rw [← rel.length]; exact z
  refine call_meetsIn PySem.F.slot_dict_setdefault dd.typeIs PySem.F.entry_dict_setdefault (PySem.F.args_dict_setdefault_3 _ _ _) (PySem.kt_meets_setdefault (mixKind X.prog X.w) a (kV_is ru) hd r)
    ⟨ws, dd, hz', fun w' hw => ?_, fun hn h' dd' hs => ?_⟩
  · have q := rel.val k
    rw [hw] at q
    cases e : valV kvs k with
    | none => rw [e] at q; exact False.elim q
    | some y => rw [e] at q; exact ⟨y, H, I.tok _, q, h1 y e⟩
  · have q := rel.val k
    rw [hn] at q
    cases e : valV kvs k with
    | some y => rw [e] at q; exact False.elim q
    | none =>
      have he : ∃ q, h'.get? a = some q := let ⟨q, _, _, hq, _⟩ := dd'; ⟨q, hq⟩
      have hl : (putK kvs k d).length ≤ sizeLine := by have := length_putK kvs k d; omega
      exact ⟨d, _, d_write I (by rw [hH]; exact True.intro) hs he (dk_new hl hd (rel.put k rr) dd'), rr, h2 e⟩
end

/-! ### for x in reversed(xs) -/
def Itv (K : PySem.W.Frag) (a : Addr) (n : Nat) : It :=
  ⟨fun i H => i < n ∧ ∃ xs, SqL K H a xs ∧ xs.length = n, fun i H x H' => H' = H ∧ ∀ xs, SqL K H a xs → xs[n - 1 - i]? = some x, fun i _ => i = n⟩
theorem turn_rev {P : Program} {w : World} {K : PySem.W.Frag} {tg : Expr} (a it : Addr) (n : Nat) : Turn P w K tg (Itv K a n) [it] it (fun i h => h.IsRevIter it a ((n : Int) - 1 - (i : Int))) where
  mem := by simp
  obj := fun i h st b hb => by
    have e : b = it := by simpa using hb
    subst e
    obtain ⟨o, e, c, d⟩ := st
    exact ⟨o, e, fun v z => by rw [d] at z; cases z⟩
  keep := fun i h h' st k => st.at fun o e => k it (by simp) o e
  item := by
    intro X hP hw hK hc i pins s σ H E I hf st hg
    subst hP hw hK
    obtain ⟨hi, xs, hq, hn⟩ := hg
    obtain ⟨its, rv, p, hz⟩ := I.list hq
    have hx : xs[n - 1 - i]? = some (xs[n - 1 - i]'(by omega)) := List.getElem?_eq_getElem (by omega)
    obtain ⟨u, hu, ru⟩ := rv.get hx
    obtain ⟨f0, f1, f2, f3, f4, f5⟩ := hf it (by simp)
    have e1 : (n : Int) - 1 - (i : Int) = ((n - 1 - i : Nat) : Int) := by omega
    have st1 := st
    rw [e1] at st1
    refine wpAny_pyNext_rev_item st1 p.isList (x := u) (by simpa using hu) fun h' st' sb => ?_
    have e2 : ((n - 1 - i : Nat) : Int) - 1 = (n : Int) - 1 - ((i + 1 : Nat) : Int) := by omega
    rw [e2] at st'
    have I1 : Inv X pins σ H { s with heap := h' } := I.turned (t' := s.toks) (fun b o hb e => (sb.2 b hb).trans e) f0 f1 f3 f4 f5
    obtain ⟨o, e, c, d⟩ := id st'
    exact ⟨u, rfl, go_of (s := { s with heap := h' }) e c d (by decide) ⟨_, H, I1, ru, ⟨rfl, fun ys hy => by rw [I.list_inj hy hq]; exact hx⟩, st', fun b hb => (hf b hb).1⟩⟩
  done := by
    intro X hP hw hK hc i pins s σ H E I hf st hg
    subst hP hw hK
    have hg : i = n := hg
    subst hg
    have e1 : (i : Int) - 1 - (i : Int) = -1 := by omega
    rw [e1] at st
    obtain ⟨f0, f1, f2, f3, f4, f5⟩ := hf it (by simp)
    exact wpAny_pyNext_rev_end (I.ok.hd hc) st fun h' eb => ⟨rfl, I.turned (t' := s.toks) (fun b o hb e => eb b o hb e) f0 f1 f3 f4 f5⟩
  self := fun _ _ _ _ _ st h => wpAny_pyIter_revIter st h
section
variable {X : Cx} {tg : Expr}
def iRev (K : PySem.W.Frag) (ta : TA) : TI := fun σ H R => ta σ H fun vs H1 => ∃ a xs, vs = [.ref a] ∧ SqL K H1 a xs ∧ R (Itv K a xs.length) H1
theorem pi_rev {a : Expr} {ta : TA} {p pos : Pos} (hg : Gl X "reversed") (hm : X.mg "reversed" = none) (ha : PA X [a] ta) (hs : starEach [a] X.env = [(false, eval a X.env)] := by rfl) : PI X tg (.Call (.Name "reversed" p) [a] [] pos) (iRev X.K ta) := by
  intro pins s σ H R I h
  refine Call_ (ld_blt I hg hm boot_reversed (PyProof.Rows.callWith_type1 (thn (ha pos pins s σ H _ I h) fun us s1 ⟨vs, H1, I1, r1, q1⟩ => ?_) hs rfl))
  obtain ⟨a, xs, e, hq, q⟩ := q1
  subst e
  cases r1 with
  | cons r rr =>
    cases rr
    cases r
    obtain ⟨its, rv, p, hz⟩ := I1.list hq
    refine call_reversed_list p.isList ?_
    have I2 : Inv X pins σ H1 { s1 with heap := s1.heap.push (revObj a ((its.toArray.size : Int) - 1)) } := I1.kept (t' := s1.toks) fun b o e => Heap.get?_push_of_some _ e
    have st : Heap.IsRevIter (s1.heap.push (revObj a ((its.toArray.size : Int) - 1))) s1.heap.objs.size a ((its.toArray.size : Int) - 1) := ⟨_, Heap.get?_push_size _ rfl, rfl, rfl⟩
    refine wpAny_pyIter_revIter st ?_
    refine ⟨s1.heap.objs.size, [s1.heap.objs.size], _, _, H1, rfl, I2, turn_rev a _ xs.length, ?_, fun b hb => ?_, q⟩
    · have e : ((xs.length : Int) - 1 - ((0 : Nat) : Int)) = (its.toArray.size : Int) - 1 := by rw [rv.length]; simp
      show Heap.IsRevIter _ _ _ ((xs.length : Int) - 1 - ((0 : Nat) : Int))
      rw [e]
      exact st
    · have e : b = s1.heap.objs.size := by simpa using hb
      subst e
      exact I1.fpOk (Nat.le_refl _) (I1.hok.fresh (Nat.le_refl _))
end
theorem for_rev {K : PySem.W.Frag} {a : Addr} {xs : List V} {g : TG} {tb : TS} {D : Ends} {σ : St} {H : Hp} (Pv : Nat → St → Hp → Prop) (h0 : Pv 0 σ H) (hl : ∀ i σ H, i ≤ xs.length → Pv i σ H → SqL K H a xs)
    (hs : ∀ i x σ H, i < xs.length → xs[xs.length - 1 - i]? = some x → Pv i σ H → g x σ H fun σ2 H2 => tb { D with nx := Pv (i + 1), ct := Pv (i + 1), bk := D.nx } σ2 H2) (hd : ∀ σ H, Pv xs.length σ H → D.nx σ H) :
    ∃ W : Nat → Nat → St → Hp → Prop, (∃ m, W 0 m σ H) ∧ ∀ i m σ H, W i m σ H →
      ((Itv K a xs.length).stop i H ∧ D.nx σ H) ∨ ((Itv K a xs.length).go i H ∧ ∃ N : St → Hp → Prop, (∀ σ' H', N σ' H' → ∃ m', m' < m ∧ W (i + 1) m' σ' H') ∧ ∀ x H', (Itv K a xs.length).yld i H x H' → g x σ H' fun σ2 H2 => tb { D with nx := N, ct := N, bk := D.nx } σ2 H2) := by
  refine ⟨fun i m σ H => m = xs.length - i ∧ i ≤ xs.length ∧ Pv i σ H, ⟨xs.length, by simp, Nat.zero_le _, h0⟩, ?_⟩
  rintro i m σ H ⟨rfl, hi, p⟩
  have q := hl i σ H hi p
  by_cases hlt : i < xs.length
  · refine .inr ⟨⟨hlt, xs, q, rfl⟩, Pv (i + 1), fun σ' H' p' => ⟨xs.length - (i + 1), by omega, rfl, hlt, p'⟩, fun x H' y => ?_⟩
    obtain ⟨e, y⟩ := y
    subst e
    exact hs i x σ H' hlt (y xs q) p
  · have e : i = xs.length := by omega
    subst e
    exact .inl ⟨rfl, hd σ H p⟩

/-! ### xs != [] -/
section
variable {X : Cx}
def rNeE (K : PySem.W.Frag) : R2 := fun x y H Q => ∃ a b xs, x = .ref a ∧ y = .ref b ∧ SqL K H a xs ∧ SqL K H b [] ∧ Q (.bl (!xs.isEmpty)) H
theorem op_neE (hu : X.A.units < cLine) : OpR X (compareOp .NotEq) (rNeE X.K) := by
  intro pins s σ H x y v u Q I rx ry h
  obtain ⟨a, b, xs, rfl, rfl, ha, hb, q⟩ := h
  cases rx
  cases ry
  obtain ⟨its, rv, p, hz⟩ := I.list ha
  obtain ⟨its2, rv2, p2, hz2⟩ := I.list hb
  cases rv2
  cases xs with
  | nil =>
    cases rv
    exact SeqAt.RcNeAt.lists (e := fun _ => true) p.isList p2.isList rfl hu (fun j h1 _ => absurd h1 (Nat.not_lt_zero j)) _ _ _ _ ⟨.bl _, H, I, rfl, q⟩
  | cons x r =>
    cases rv
    exact SeqAt.RcNeAt.lists_lengths p.isList p2.isList (by simp) hu _ _ _ _ ⟨.bl _, H, I, rfl, q⟩
/-! ### isinstance(x, T), T a built-in type -/
def rIsi (K : PySem.W.Frag) : List V → Hp → VK → Prop := fun xs H Q => ∃ x n t b, xs = [x, .ty n] ∧ TyOf K H x t ∧ PySem.W.kitOne K t (.type n) = some b ∧ Q (.bl b) H
theorem call_isi : CallR X (.builtin "isinstance") (rIsi X.K) := by
  intro pins s σ H xs us Q I r h
  obtain ⟨x, n, t, b, rfl, ty, e, q⟩ := h
  obtain ⟨u, w', rfl, ru, rw'⟩ := vals2 r
  cases rw'
  exact isinst_ok I ru ty e fun tk => ⟨.bl b, H, I.tok tk, rfl, q⟩
end
end L2

set_option Elab.async false
set_option maxRecDepth 100000
namespace L2
open PySem PySem.Spec PyProof.Rows

/-! ### a lambda of a def's body: its code object at c, its function object at f -/
def CodeF (c : Addr) (qual : Str) (h : Heap) : Prop := h.CodeRec (.ref c) qual
def LamF (f c : Addr) (qual : Str) (params : Arguments) (body : Expr) (scope : Scope) (cl : List (Str × Addr)) (h : Heap) : Prop :=
  ∃ name pm ctv, h.get? f = some (PySem.W.kla_obj name qual params body scope cl pm c ctv)
theorem codeF_at {c : Addr} {qual : Str} {h1 h2 : Heap} (x : CodeF c qual h1) (k : ∀ o, h1.get? c = some o → h2.get? c = some o) : CodeF c qual h2 := by
  obtain ⟨c2, oc, vs, t, e, ho, r⟩ := x
  cases e
  exact ⟨c, oc, vs, t, rfl, k _ ho, r⟩
theorem lamF_at {f c : Addr} {qual : Str} {params : Arguments} {body : Expr} {scope : Scope} {cl : List (Str × Addr)} {h1 h2 : Heap} (x : LamF f c qual params body scope cl h1) (k : ∀ o, h1.get? f = some o → h2.get? f = some o) :
    LamF f c qual params body scope cl h2 := let ⟨n, p, t, e⟩ := x; ⟨n, p, t, k _ e⟩

/-- what stands for a frame's code: its record, its table -/
structure CodeOk (X : Cx) (P : Addr) : Prop where
  code : ∃ c, X.env.code = .ref c ∧ PySem.W.CodeHd X.base c P
  blt : ∃ bm ob, X.mg "__builtins__" = some (.ref bm) ∧ bm ≠ builtinsNs ∧ X.base.get? bm = some ob ∧ ob.cls = .type "module" ∧ ob.dict = some builtinsNs ∧ ob.data = .plain

/-- the table is well formed, and what it has for this place is known -/
structure LamTab (H : Hp) (P : Addr) (pos : Pos) (qual : Str) (ps : Array Value) : Prop where
  at_ : H P = some (.tbl ps)
  ok : TriplesOk ps.toList
  known : codeAmong pos ps.toList = none ∨ ∃ c, codeAmong pos ps.toList = some (.ref c) ∧ H c = some (.ext (CodeF c qual))

def tLam (P : Addr) (pos : Pos) (qual : Str) (params : Arguments) (body : Expr) (scope : Scope) (cl : List (Str × Addr)) : TE := fun _ H Q =>
  ∃ ps, LamTab H P pos qual ps ∧
    ∀ f c H', (∀ b o, H b = some o → b ≠ P → H' b = some o) → H f = none → H' f = some (.ext (LamF f c qual params body scope cl)) → H' c = some (.ext (CodeF c qual)) → (∃ ps', LamTab H' P pos qual ps') →
      (∀ b, H' b ≠ none → H b ≠ none ∨ b = f ∨ b = c) → Q (.ref f) H'

theorem kept_slots {o : Obj} {h' : Heap} {b : Addr} (e : h'.get? b = some o) : ∃ sl, h'.get? b = some { o with slots := sl } := ⟨o.slots, e⟩

section
variable {X : Cx} {pins : List (Addr × Obj)} {σ : St} {H : Hp} {s : Shared}
/-- objects laid (two of them tracked by what is true of them), the table grown or not -/
theorem Inv.lam {P f c : Addr} {ps ps' : Array Value} {h' : Heap} {tk : Nat} {φ ψ : Heap → Prop} (I : Inv X pins σ H s) (hP : H P = some (.tbl ps)) (hx : Heap.ExtBut P s.heap h')
    (hf : s.heap.objs.size ≤ f) (hc : (H c = some (.ext ψ)) ∨ s.heap.objs.size ≤ c) (hfc : f ≠ c) (hps : ∃ more, ps' = ps ++ more) (htab : h'.get? P = some (PySem.W.tabObj ps'))
    (of : φ h' ∧ (∃ o, h'.get? f = some o) ∧ ∀ h1 h2 : Heap, φ h1 → (∀ o, h1.get? f = some o → h2.get? f = some o) → φ h2)
    (oc : ψ h' ∧ (∃ o, h'.get? c = some o) ∧ ∀ h1 h2 : Heap, ψ h1 → (∀ o, h1.get? c = some o → h2.get? c = some o) → ψ h2) :
    Inv X pins σ (upd (upd (upd H P (.tbl ps')) c (.ext ψ)) f (.ext φ)) { s with heap := h', toks := tk } := by
  have lt : ∀ {b o}, H b = some o → b < s.heap.objs.size := fun e => I.hok.lt e
  have fne : ∀ {b o}, H b = some o → b ≠ f := fun e => Nat.ne_of_lt (Nat.lt_of_lt_of_le (lt e) hf)
  have hPc : P ≠ c := by
    rcases hc with hc | hc
    · exact ne_of hP hc (by intro z; cases z)
    · exact Nat.ne_of_lt (Nat.lt_of_lt_of_le (lt hP) hc)
  have keepH : ∀ b o, H b = some o → b ≠ P → upd (upd (upd H P (.tbl ps')) c (.ext ψ)) f (.ext φ) b = some o := fun b o e hb => by
    rw [upd_ne (fne e)]
    by_cases q : b = c
    · subst q
      rcases hc with hc | hc
      · rw [upd_same]; rw [e] at hc; exact hc.symm
      · exact absurd (Nat.lt_of_lt_of_le (lt e) hc) (Nat.lt_irrefl _)
    · rw [upd_ne q, upd_ne hb]; exact e
  have atP : upd (upd (upd H P (.tbl ps')) c (.ext ψ)) f (.ext φ) P = some (.tbl ps') := by
    rw [upd_ne (fne hP), upd_ne hPc, upd_same]
  have freeH : ∀ b o, s.heap.get? b = some o → H b = none → upd (upd (upd H P (.tbl ps')) c (.ext ψ)) f (.ext φ) b = none := fun b o e n => by
    have l := Heap.lt_size e
    rw [upd_ne (Nat.ne_of_lt (Nat.lt_of_lt_of_le l hf)), upd_ne ?_, upd_ne ?_]
    · exact n
    · intro z; rw [z, hP] at n; cases n
    · intro z
      rcases hc with hc | hc
      · rw [z, hc] at n; cases n
      · exact absurd (Nat.lt_of_lt_of_le l (z ▸ hc)) (Nat.lt_irrefl _)
  have nP : ∀ {b}, H b = none → b ≠ P := fun n z => by rw [z, hP] at n; cases n
  refine I.un (Un.mk (fun b o e n _ _ => hx b o (nP n) e) (fun b o e n _ _ => kept_slots (hx b o (nP n) e)) (fun b o e n _ => freeH b o e n) (fun b o e _ => ?_) (fun b xs e => keepH b _ e (ne_of e hP (by intro z; cases z)))
    (fun b o u e => keepH b _ e (ne_of e hP (by intro z; cases z))) (fun b qs e => ?_)) ?_
  · by_cases q : b = P
    · exact ⟨_, q ▸ htab⟩
    · exact ⟨o, hx b o q e⟩
  · by_cases q : b = P
    · subst q
      rw [hP] at e
      cases e
      obtain ⟨more, rfl⟩ := hps
      exact ⟨more, atP⟩
    · exact ⟨#[], by rw [Array.append_empty]; exact keepH b _ e q⟩
  · intro a o e
    by_cases qf : a = f
    · subst qf
      rw [upd_same] at e
      cases e
      exact of
    · rw [upd_ne qf] at e
      by_cases qc : a = c
      · subst qc
        rw [upd_same] at e
        cases e
        exact oc
      · rw [upd_ne qc] at e
        by_cases qP : a = P
        · subst qP
          rw [upd_same] at e
          cases e
          exact htab
        · rw [upd_ne qP] at e
          refine (I.hok a o e).stay (fun b u hb eb => hx b u ?_ eb) (fun b eb => keepH b _ eb (ne_of eb hP (by intro z; cases z))) fun b xs eb => keepH b _ eb (ne_of eb hP (by intro z; cases z))
          rcases hb with hb | hb
          · rw [hb]; exact qP
          · exact ne_of hb hP (by intro z; cases z)

theorem pe_lam {P : Addr} {params : Arguments} {body : Expr} {scope : Scope} {pos : Pos} {cl : List (Str × Addr)} (C : CodeOk X P) (hcl : closureFor scope X.env = pure cl) (hdef : defaultsOf params X.env = ([], [])) :
    PE X (.Lambda params body scope pos) (tLam P pos (X.env.qual ++ "<lambda>") params body scope cl) := by
  intro pins s σ H Q I h
  obtain ⟨ps, T, h⟩ := h
  obtain ⟨cc, hcode, hd⟩ := C.code
  obtain ⟨bm, ob, b1, b2, b3, b4, b5, b6⟩ := C.blt
  have hP : s.heap.get? P = some (PySem.W.tabObj ps) := I.hok P _ T.at_
  have hg : s.heap.Ns mainGlobals X.mg := I.mod.glob.keeps I.bk
  have hgP : mainGlobals ≠ P := fun q => by
    obtain ⟨o, es, ep, e, hd, _⟩ := hg
    rw [q, hP] at e; cases e; cases hd
  have hbP : bm ≠ P := fun q => by
    have e := I.bk _ _ b3
    rw [q, hP] at e; cases e; cases b4
  have hbG : bm ≠ mainGlobals := fun q => by
    obtain ⟨o, es, ep, e, hd, _⟩ := I.mod.glob
    rw [q, e] at b3; cases b3; rw [hd] at b6; cases b6
  have B : s.heap.BuiltinsAt X.mg P := ⟨bm, ob, b1, b2, hbG, hbP, I.bk _ _ b3, b4, b5, b6⟩
  refine PySem.W.kla_eval hdef ?_
  rcases T.known with hn | ⟨c', hk, hc'⟩
  · refine PySem.W.kla_makeFunction (mg := X.mg) hcl I.ok.glob hg hcode (hd.keeps I.bk) hP T.ok hn hgP B fun c' ctv h' tk hx hge hlt hrec htb => ?_
    have key : Inv X pins σ (upd (upd (upd H P (.tbl (ps ++ #[rawInt pos.line, rawInt pos.col, .ref c']))) c' (.ext (CodeF c' (X.env.qual ++ "<lambda>")))) h'.objs.size (.ext (LamF h'.objs.size c' (X.env.qual ++ "<lambda>") params body scope cl)))
        { s with heap := h'.push (PySem.W.kla_obj "<lambda>" (X.env.qual ++ "<lambda>") params body scope cl ((X.mg "__name__").getD .none) c' ctv), toks := tk } := by
      refine I.lam T.at_ (fun b o hb e => Heap.get?_push_of_some _ (hx b o hb e)) (Nat.le_of_lt (Nat.lt_of_le_of_lt hge hlt)) (.inr hge) (Nat.ne_of_gt hlt) ⟨_, rfl⟩ (Heap.get?_push_of_some _ htb)
        ⟨⟨_, _, _, Heap.get?_push_size _ rfl⟩, ⟨_, Heap.get?_push_size _ rfl⟩, fun h1 h2 a b => lamF_at a b⟩ ⟨codeF_at hrec fun o e => Heap.get?_push_of_some _ e, ?_, fun h1 h2 a b => codeF_at a b⟩
      obtain ⟨c2, oc, vs, t, e, ho, r⟩ := hrec
      cases e
      exact ⟨oc, Heap.get?_push_of_some _ ho⟩
    have hPc : P ≠ c' := Nat.ne_of_lt (Nat.lt_of_lt_of_le (I.hok.lt T.at_) hge)
    have hPf : P ≠ h'.objs.size := Nat.ne_of_lt (Nat.lt_of_lt_of_le (I.hok.lt T.at_) (Nat.le_of_lt (Nat.lt_of_le_of_lt hge hlt)))
    have hcf : c' ≠ h'.objs.size := Nat.ne_of_lt hlt
    refine ⟨.ref h'.objs.size, _, key, rfl, h h'.objs.size c' _ (fun b o e hb => ?_) (I.hok.fresh (Nat.le_of_lt (Nat.lt_of_le_of_lt hge hlt))) upd_same (by rw [upd_ne hcf, upd_same]) ⟨_, by rw [upd_ne hPf, upd_ne hPc, upd_same], ?_, .inr ⟨c', ?_, by rw [upd_ne hcf, upd_same]⟩⟩ fun b hb => ?_⟩
    · have l := I.hok.lt e
      rw [upd_ne (Nat.ne_of_lt (Nat.lt_of_lt_of_le l (Nat.le_of_lt (Nat.lt_of_le_of_lt hge hlt)))), upd_ne (Nat.ne_of_lt (Nat.lt_of_lt_of_le l hge)), upd_ne hb]
      exact e
    · rw [Array.toList_append]
      exact TriplesOk_snoc _ _ _ _ T.ok
    · rw [Array.toList_append]
      exact codeAmong_snoc _ T.ok hn
    · by_cases q1 : b = h'.objs.size
      · exact .inr (.inl q1)
      · by_cases q2 : b = c'
        · exact .inr (.inr q2)
        · rw [upd_ne q1, upd_ne q2] at hb
          by_cases q3 : b = P
          · exact .inl (by rw [q3, T.at_]; simp)
          · rw [upd_ne q3] at hb; exact .inl hb
  · refine PySem.W.kla_makeFunctionHit (mg := X.mg) hcl I.ok.glob hg hcode (hd.keeps I.bk) hP T.ok hk B fun ctv h' tk hx hsz => ?_
    have oc := I.hok c' _ hc'
    have hcl' : c' < s.heap.objs.size := I.hok.lt hc'
    have key : Inv X pins σ (upd (upd (upd H P (.tbl ps)) c' (.ext (CodeF c' (X.env.qual ++ "<lambda>")))) h'.objs.size (.ext (LamF h'.objs.size c' (X.env.qual ++ "<lambda>") params body scope cl)))
        { s with heap := h'.push (PySem.W.kla_obj "<lambda>" (X.env.qual ++ "<lambda>") params body scope cl ((X.mg "__name__").getD .none) c' ctv), toks := tk } := by
      refine I.lam T.at_ (fun b o hb e => Heap.get?_push_of_some _ (hx b o e)) hsz (.inl hc') (Nat.ne_of_gt (Nat.lt_of_lt_of_le hcl' hsz)) ⟨#[], by rw [Array.append_empty]⟩ (Heap.get?_push_of_some _ (hx _ _ hP))
        ⟨⟨_, _, _, Heap.get?_push_size _ rfl⟩, ⟨_, Heap.get?_push_size _ rfl⟩, fun h1 h2 a b => lamF_at a b⟩ ⟨codeF_at oc.1 fun o e => Heap.get?_push_of_some _ (hx _ _ e), ?_, fun h1 h2 a b => codeF_at a b⟩
      obtain ⟨o, ho⟩ := oc.2.1
      exact ⟨o, Heap.get?_push_of_some _ (hx _ _ ho)⟩
    have hPc : P ≠ c' := ne_of T.at_ hc' (by intro z; cases z)
    have hPf : P ≠ h'.objs.size := Nat.ne_of_lt (Nat.lt_of_lt_of_le (I.hok.lt T.at_) hsz)
    have hcf : c' ≠ h'.objs.size := Nat.ne_of_lt (Nat.lt_of_lt_of_le hcl' hsz)
    refine ⟨.ref h'.objs.size, _, key, rfl, h h'.objs.size c' _ (fun b o e hb => ?_) (I.hok.fresh hsz) upd_same (by rw [upd_ne hcf, upd_same]) ⟨ps, by rw [upd_ne hPf, upd_ne hPc, upd_same], T.ok, .inr ⟨c', hk, by rw [upd_ne hcf, upd_same]⟩⟩ fun b hb => ?_⟩
    · have l := I.hok.lt e
      rw [upd_ne (Nat.ne_of_lt (Nat.lt_of_lt_of_le l hsz))]
      by_cases q : b = c'
      · subst q; rw [upd_same]; rw [e] at hc'; exact hc'.symm
      · rw [upd_ne q, upd_ne hb]; exact e
    · by_cases q1 : b = h'.objs.size
      · exact .inr (.inl q1)
      · by_cases q2 : b = c'
        · exact .inr (.inr q2)
        · rw [upd_ne q1, upd_ne q2] at hb
          by_cases q3 : b = P
          · exact .inl (by rw [q3, T.at_]; simp)
          · rw [upd_ne q3] at hb; exact .inl hb
end

/-! ### a call of a lambda -/
/-- the context of a lambda's body -/
def cxLam (X : Cx) (N : List Str) (qual : Str) (scope : Scope) (f : Addr) (cd : Value) (cl : List (Str × Addr)) (s : Shared) (H : Hp) : Cx where
  prog := X.prog
  w := X.w
  K := X.K
  mg := X.mg
  base := X.base
  A := X.A.deeper (PySem.W.envX qual scope s.heap.objs.size f cd cl)
  N := N
  s₀ := s
  H₀ := H
  env := PySem.W.envX qual scope s.heap.objs.size f cd cl
  outer := X.stack
  stack := PySem.W.envX qual scope s.heap.objs.size f cd cl :: X.stack
  ex := []
  calm := true
  fn := fun _ => false
  pn := []
  xe := fun _ _ => False

structure LamScope (ps : List Str) (scope : Scope) (cl : List (Str × Addr)) : Prop where
  kind : scope.kind = .function
  co : scope.isCoroutine = false
  gen : scope.isGenerator = false
  nd : ps.Nodup
  par : ∀ x ∈ ps, scope.names.lookup x = some .local
  nocell : ∀ y ∈ scope.names, y.2 ≠ .cell
  free : ∀ x, scope.names.lookup x = some .free → ∃ c, cl.lookup x = some c
  inj : ∀ x y c, cl.lookup x = some c → cl.lookup y = some c → x = y

theorem lookup_zip_rev {ps : List Str} {us : List Value} {i : Nat} {x : Str} {u : Value} (nd : ps.Nodup) (h1 : ps[i]? = some x) (h2 : us[i]? = some u) : (ps.zip us).reverse.lookup x = some u := by
  have hm : (x, u) ∈ ps.zip us := by
    rw [List.mem_iff_getElem?]
    exact ⟨i, by rw [List.getElem?_zip_eq_some]; exact ⟨h1, h2⟩⟩
  have key : ∀ (l : List (Str × Value)), (∀ v, (x, v) ∈ l → v = u) → (x, u) ∈ l → l.lookup x = some u := by
    intro l
    induction l with
    | nil => intro _ h; simp at h
    | cons p r ih =>
      intro h h'
      obtain ⟨y, v⟩ := p
      by_cases q : x = y
      · subst q
        rw [List.lookup_cons_self, h v (List.mem_cons_self)]
      · have b : (x == y) = false := by simpa using q
        rw [List.lookup_cons, b]
        refine ih (fun v hv => h v (List.mem_cons_of_mem _ hv)) ?_
        rcases List.mem_cons.mp h' with e | e
        · cases e; exact absurd rfl q
        · exact e
  refine key _ (fun v hv => ?_) (List.mem_reverse.mpr hm)
  have hv' := List.mem_reverse.mp hv
  obtain ⟨j, hj⟩ := List.mem_iff_getElem?.mp hv'
  rw [List.getElem?_zip_eq_some] at hj
  have e := nodup_ix nd h1 hj.1
  subst e
  rw [h2] at hj
  exact (Option.some.inj hj.2).symm

section
variable {X : Cx} {pins : List (Addr × Obj)} {σ : St} {H : Hp} {s : Shared}
theorem call_lam {k : Nat} {f c : Addr} {qual : Str} {params : Arguments} {body : Expr} {scope : Scope} {cl : List (Str × Addr)} {ps N : List Str} {us : List Value} {vs : List V} {Q : VK} {σ₀ : St}
    (I : Inv X pins σ H s) (hcalm : X.calm = true) (hr : Room (k + 1) X.A) (S : LamScope ps scope cl) (hf : H f = some (.ext (LamF f c qual params body scope cl))) (hc : H c = some (.ext (CodeF c qual)))
    (hcell : ∀ x a, cl.lookup x = some a → H a = none ∧ ∃ v, s.heap.IsCell a v)
    (hb : ∀ (name : Str) (pm ctv : Value), bindArgs (PySem.W.kla_fn name qual params body scope cl pm (.ref c) ctv) ⟨us, []⟩ = pure (ps.zip us)) (rv : Vals vs us)
    (hlen : σ₀.length = N.length)
    (hσ : ∀ (i : Nat) (x : Str) (v : V), N[i]? = some x → σ₀[i]? = some (some v) → (∃ j : Nat, ps[j]? = some x ∧ vs[j]? = some v) ∨ (scope.names.lookup x = some .free ∧ ∃ a u, cl.lookup x = some a ∧ RelV v u ∧ s.heap.IsCell a (some u)))
    (hbody : Room k (X.A.deeper (PySem.W.envX qual scope s.heap.objs.size f (.ref c) cl)) → ∃ t, PE (cxLam X N qual scope f (.ref c) cl s H) body t ∧ t σ₀ H Q) :
    wpAny (model X.prog X.w) X.A (call (.ref f) us) (EP X pins σ Q) X.xe s := by
  obtain ⟨⟨name, pm, ctv, ho⟩, _⟩ := (show ObjOk X.prog X.w H s.heap f (.ext (LamF f c qual params body scope cl)) from I.hok f _ hf)
  obtain ⟨hcd, _⟩ := (show ObjOk X.prog X.w H s.heap c (.ext (CodeF c qual)) from I.hok c _ hc)
  obtain ⟨t, ht, q⟩ := hbody (hr.deeper _)
  refine wpAny_call (codeAny_mono (R := fun r s' => ∃ u, r = .ok (.ret u) ∧ CE X.stack X.prog X.w H s Q u s') ?_ fun r s' hq => ?_)
  · refine PySem.W.kla_callFunE hr.depth ho rfl S.co S.gen rfl hcd ?_
    rw [hb _ _ _]
    refine wpAny_pure (wpAny_newFunctionEnv S.nocell (fun y hy => S.par y.1 (List.of_mem_zip hy).1) (fun h₁ hns hsb => ⟨(I.nolimit).fresh _ hsb, ?_⟩) S.kind)
    show codeAny _ _ (.expr body (PySem.W.envX qual scope s.heap.objs.size f (.ref c) cl)) _ _
    have hk₁ : ∀ b o, s.heap.get? b = some o → h₁.get? b = some o := fun b o e => hsb.extBut b o (Nat.ne_of_lt (Heap.lt_size e)) (Heap.get?_push_of_some _ e)
    have noA : ∀ b : Addr, b ∉ (cxLam X N qual scope f (.ref c) cl s H).ex := fun b z => absurd (show b ∈ ([] : List Addr) from z) (by simp)
    have J : Inv (cxLam X N qual scope f (.ref c) cl s H) [] σ₀ H { s with heap := h₁, toks := s.toks + (ps.zip us).length } := by
      refine ⟨⟨I.mod, S.kind, rfl, rfl, Nat.le_refl _, S.inj, fun x hx => ?_, fun x a z => absurd z Bool.false_ne_true, fun _ => I.ok.hd hcalm, Around.frames_deeper I.ok.frames, .inr ⟨rfl, rfl⟩, fun b z => absurd z (noA b), I.bs, Nat.le_trans I.ok.bsz I.sz, fun b _ _ => noA b, fun b z => absurd z (noA b), I.stack, I.stkFree⟩,
        rfl, I.bare, Un.kept hk₁, ⟨_, hns, fun i x v h1 h2 h3 => ?_⟩, fun x a e => ?_, I.hok.fresh (Nat.le_refl _), fun x a e => (hcell x a e).1, fun p hp => absurd (show p ∈ ([] : List (Addr × Obj)) from hp) (by simp), I.hok.kept hk₁, hlen⟩
      · have hx : scope.names.lookup x = some .cell ∨ scope.names.lookup x = some .free := hx
        rcases hx with hx | hx
        · exact absurd rfl (S.nocell _ (PySem.mem_of_lookup hx))
        · exact S.free x hx
      · rcases hσ i x v h1 h2 with ⟨j, hj, hv⟩ | ⟨hx, a, u, ha, ru, hcl⟩
        · obtain ⟨u, hu, ru⟩ := rv.get hv
          exact ⟨u, ru, .inl ⟨S.par x (List.mem_of_getElem? hj), lookup_zip_rev S.nd hj hu⟩⟩
        · obtain ⟨o, ho, hd⟩ := hcl
          exact ⟨u, ru, .inr ⟨.inr hx, a, ha, o, hk₁ _ _ ho, hd⟩⟩
      · obtain ⟨_, v, o, ho, hd⟩ := hcell x a e
        exact ⟨v, o, hk₁ _ _ ho, hd⟩
    refine PySem.W.kla_codeExpr (wpAny_mono (ht [] _ σ₀ H Q J q) (fun u s' hu => ?_) fun e s' z => False.elim z)
    obtain ⟨v, H', J', ru, q'⟩ := hu
    exact ⟨u, rfl, v, H', J'.os, J'.bare, J'.base, J'.hok, ru, q'⟩
  · obtain ⟨u, rfl, hq⟩ := hq
    exact I.after hq

/-- make(e), make a local name with a lambda in it -/
theorem pe_callV {i : Nat} {x : Str} {p pos : Pos} {e : Expr} {es : List Expr} {t : TA} {r : Addr → List V → Hp → VK → Prop}
    (hx : PE X (.Name x p) (tVar i)) (ha : PA X (e :: es) t)
    (hc : ∀ (f : Addr) (pins : List (Addr × Obj)) (σ : St) (H : Hp) (s : Shared) (vs : List V) (us : List Value) (Q : VK), Inv X pins σ H s → Vals vs us → r f vs H Q → wpAny (model X.prog X.w) X.A (call (.ref f) us) (EP X pins σ Q) X.xe s)
    (hf : ∀ (f : Addr) (vs : List V) (H : Hp) (Q : VK), r f vs H Q → ∃ c qual params body scope cl, H f = some (.ext (LamF f c qual params body scope cl)))
    (he : starEach (e :: es) X.env = (false, eval e X.env) :: starEach es X.env := by rfl) (hpl : (backTo pos (starEach es X.env)).any (·.1) = false := by rfl) :
    PE X (.Call (.Name x p) (e :: es) [] pos) (fun σ H Q => ∃ f, σ[i]? = some (some (.ref f)) ∧ (∃ c qual params body scope cl, H f = some (.ext (LamF f c qual params body scope cl))) ∧ t σ H fun vs H1 => r f vs H1 Q) := by
  intro pins s σ H Q I h
  obtain ⟨f, hi, ⟨c, qual, params, body, scope, cl, hH⟩, h⟩ := h
  refine wpAny_Call_Name_kw (thn (hx pins s σ H (fun v H' => v = .ref f ∧ H' = H) I ⟨.ref f, hi, rfl, rfl⟩) fun u s1 h1 => ?_)
  obtain ⟨v, H1, I1, ru, rfl, rfl⟩ := h1
  cases ru
  have fnAt : ∀ {σ' : St} {H' : Hp} {s' : Shared}, Inv X pins σ' H' s' → (∃ c qual params body scope cl, H' f = some (.ext (LamF f c qual params body scope cl))) → PySem.W.FnAt f s'.heap := fun {σ' H' s'} J ⟨c, qual, params, body, scope, cl, e⟩ => by
    obtain ⟨⟨name, pm, ctv, ho⟩, _⟩ := (show ObjOk X.prog X.w H' s'.heap f (.ext (LamF f c qual params body scope cl)) from J.hok f _ e)
    exact ⟨_, _, _, _, ho⟩
  refine PySem.W.callWith_F (fnAt I1 ⟨c, qual, params, body, scope, cl, hH⟩) (thn (ha pos pins s1 σ H1 _ I1 h) fun us s2 ⟨vs, H2, I2, r2, q2⟩ => ⟨fnAt I2 (hf f vs H2 Q q2), ?_⟩) he hpl
  exact hc f pins σ H2 s2 vs us Q I2 r2 q2
end

/-! ### a def's run where what it is promised hangs on the state -/
theorem fn_run {CX : CXT} {P : Program} {w : World} {K : PySem.W.Frag} {mg : Str → Option Value} {base : Heap} {k : Nat} {f : Addr} {name qual : Str} {params : Arguments} {body : List Stmt} {scope : Scope} {dV kV doc pm cdv ct oc : Value} {an od : Option Addr}
    {osl : Array (Option Value)} {N ps : List Str} (lk : K.lookup f = some ⟨oc, od, .func (PySem.W.fnOf name qual params body scope dV kV doc pm an cdv ct), osl⟩) (hcd : PySem.W.codeIn K cdv qual = true) (S : FnScope N ps scope)
    {A : Around} {outer : List Env} {s : Shared} {H : Hp} {args : Args} {us : List Value} {vs : List V} {Q : VK} {E : XK} (hr : Room (k + 1) A) (e0 : Env0 P w K mg base A outer s H)
    (hb : BindsTo s (PySem.W.fnOf name qual params body scope dV kV doc pm an cdv ct) args (ps.zip us)) (r : Vals vs us) (hl : vs.length = ps.length)
    (hbody : Room k (A.deeper (envOfC qual scope s.heap.objs.size f cdv)) → ∃ t, PSs (cxOf CX P w K mg base N qual scope f cdv A outer s H E) body t ∧ t { nx := fun _ H' => Q .non H', rt := Q } (start N vs) H) :
    codeAny (model P w) A (.call (.ref f) args) (CR CX outer P w H s Q E) s := by
  have KX : K.In s.heap := e0.mod.kin.keeps fun b o e => (e0.bs b o e).1
  have lim : s.heap.NoLimit := e0.mod.nolimit.keeps fun b o e => (e0.bs b o e).1
  have hkind : ∀ y ∈ ps.zip us, scope.names.lookup y.1 = some .local ∨ (scope.names.lookup y.1 = some .cell ∧ ((cellsFrom (s.heap.objs.size + 1) scope.names []).lookup y.1).isSome = true) := fun ⟨n, v⟩ hy => by
    rcases S.par n (List.of_mem_zip hy).1 with q | q
    · exact .inl q
    · exact .inr ⟨q, PySem.W.cellsFrom_some _ _ _ (.inl q)⟩
  refine codeAny_call_function hr.depth (KX _ _ lk) rfl S.co S.gen rfl (PySem.W.codeRec_of KX hcd) (hb _ _ _ _ ?_)
  refine wpAny_newFunctionEnv_cells S.kind hkind fun env he s1 x => ?_
  subst he
  refine ⟨lim.keeps x.toInCall.keep, codeAny_func ?_⟩
  obtain ⟨t, ht, hq⟩ := hbody (hr.deeper _)
  have I : Inv (cxOf CX P w K mg base N qual scope f cdv A outer s H E) [] (start N vs) H s1 := inv_start S hr.hd e0 hl r x
  refine wpAny_mono (ht [] s1 (start N vs) H _ I hq) (fun fl s' hs => ?_) fun e s' hs => hs
  have fin : ∀ {σ' : St} {H' : Hp} {v : V} {u : Value}, Inv (cxOf CX P w K mg base N qual scope f cdv A outer s H E) [] σ' H' s' → RelV v u → Q v H' → CE outer P w H s Q u s' :=
    fun {σ' H' v u} J rv q => ⟨v, H', J.os, J.bare, J.base, J.hok, rv, q⟩
  cases fl with
  | ret u =>
    obtain ⟨v, σ', H', J, rv, q⟩ := hs
    exact fin J rv q
  | next =>
    obtain ⟨σ', H', J, q⟩ := hs
    exact fin (v := V.non) (u := Value.none) J rfl q
  | brk =>
    obtain ⟨_, _, _, q⟩ := hs
    exact False.elim q
  | cont =>
    obtain ⟨_, _, _, q⟩ := hs
    exact False.elim q

section
variable {X : Cx} {f : Addr} {x : Str} {p pos : Pos} {e : Expr} {es : List Expr} {t : TA}
/-- f(e, ..) of a def of the text, by what its run gives in this very state -/
theorem pe_callS {sp : St → List V → Hp → VK → Prop} (hg : Gl X x) (hm : X.mg x = some (.ref f)) (hk : PySem.W.keepIn X.K (.ref f) = true)
    (run : ∀ (pins : List (Addr × Obj)) (σ : St) (H : Hp) (s : Shared) (vs : List V) (us : List Value) (Q : VK), Inv X pins σ H s → Vals vs us → sp σ vs H Q → codeAny (model X.prog X.w) X.A (.call (.ref f) ⟨us, []⟩) (CR CX0 X.stack X.prog X.w H s Q E0) s)
    (ha : PA X (e :: es) t) (hdb : (x == ("__debug__" : Str)) = false := by decide) (he : starEach (e :: es) X.env = (false, eval e X.env) :: starEach es X.env := by rfl) (hpl : (backTo pos (starEach es X.env)).any (·.1) = false := by rfl) :
    PE X (.Call (.Name x p) (e :: es) [] pos) (fun σ H Q => t σ H fun vs H1 => sp σ vs H1 Q) := by
  intro pins s σ H Q I h
  refine wpAny_Call_Name_kw (ld_glob I hg hm ?_ hdb)
  refine PySem.W.callWith_K (h₀ := X.base) I.ok.mod.kin hk (thn (ha pos pins s σ H _ I h) fun us s1 ⟨vs, H1, I1, r, q⟩ => ⟨I1.kIn, ?_⟩) he hpl
  refine wpAny_call (codeAny_mono (run pins σ H1 s1 vs us Q I1 r q) fun r s' hq => ?_)
  cases r with
  | error e => exact False.elim hq
  | ok fl =>
    cases fl with
    | ret u => exact I1.after hq
    | next => exact False.elim hq
    | brk => exact False.elim hq
    | cont => exact False.elim hq
end
section
variable {P : Program} {w : World} {K : PySem.W.Frag} {mg : Str → Option Value} {base : Heap}
/-- a def of the text run in this very state -/
theorem Fun.run {x qual : Str} {st : Stmt} {f : Addr} {fd : FuncData} {N ps : List Str} {k : Nat} (F : Fun K x qual st f fd) (S : FnScope N ps (defScope st)) {A : Around} {outer : List Env} {s : Shared} {H : Hp} {us : List Value} {vs : List V} {Q : VK}
    (hr : Room (k + 1) A) (e0 : Env0 P w K mg base A outer s H) (hb : Binds K fd ps []) (r : Vals vs us) (hl : vs.length = ps.length)
    (hbody : ∀ cdv : Value, Room k (A.deeper (envOfC qual (defScope st) s.heap.objs.size f cdv)) →
      ∃ t, PSs (cxOf CX0 P w K mg base N qual (defScope st) f cdv A outer s H E0).nox (defBody st) t ∧ t { nx := fun _ H' => Q .non H', rt := Q } (start N vs) H) :
    codeAny (model P w) A (.call (.ref f) ⟨us, []⟩) (CR CX0 outer P w H s Q E0) s := by
  obtain ⟨oc, od, kV, doc, pm, an, cdv, ct, osl, rfl, lk, hcd⟩ := F.ex
  have KX : K.In s.heap := e0.mod.kin.keeps fun b o e => (e0.bs b o e).1
  have hlu : us.length = ps.length := by rw [← r.length]; exact hl
  have hb' := hb s us KX (by rw [List.append_nil]; exact hlu)
  rw [List.append_nil] at hb'
  refine fn_run lk hcd S hr e0 hb' r hl fun hr' => ?_
  obtain ⟨t, h, q⟩ := hbody cdv hr'
  exact ⟨t, h.nox, q⟩
/-- a def whose code is known -/
theorem Fun.okC {x qual : Str} {st : Stmt} {f c : Addr} {fd : FuncData} {N ps : List Str} {k : Nat} {sp : Sp} (F : Fun K x qual st f fd) (hc : fd.code = .ref c) (S : FnScope N ps (defScope st)) (len : ∀ vs H Q E, sp vs H Q E → vs.length = ps.length)
    (hbody : ∀ (A : Around) (outer : List Env) (s : Shared) (H : Hp) (vs : List V) (Q : VK) (E : XK), Room k (A.deeper (envOfC qual (defScope st) s.heap.objs.size f (.ref c))) → sp vs H Q E →
      ∃ t, PSs (cxOf CX0 P w K mg base N qual (defScope st) f (.ref c) A outer s H E).nox (defBody st) t ∧ t { nx := fun _ H' => Q .non H', rt := Q } (start N vs) H) : FnOk P w K mg base CX0 (k + 1) f fd ps sp := by
  obtain ⟨oc, od, kV, doc, pm, an, cdv, ct, osl, rfl, lk, hcd⟩ := F.ex
  have hc' : cdv = .ref c := hc
  subst hc'
  refine fn_of lk hcd S len fun A outer s H vs Q E hr hsp => ?_
  obtain ⟨t, h, q⟩ := hbody A outer s H vs Q E hr hsp
  exact ⟨t, h.nox, q⟩
end
end L2

set_option Elab.async false
set_option maxRecDepth 100000
namespace L2
open PySem PySem.Spec PyProof.Rows

/-! ### [elt for x in iter] -/
/-- the context of a comprehension's block -/
def cxComp (X : Cx) (N : List Str) (scope : Scope) (cl : List (Str × Addr)) (C : Addr) (fp : List Addr) (s : Shared) (H : Hp) : Cx where
  prog := X.prog
  w := X.w
  K := X.K
  mg := X.mg
  base := X.base
  A := X.A
  N := N
  s₀ := s
  H₀ := H
  env := compEnvC scope cl C X.env
  outer := X.stack
  stack := X.stack
  ex := fp
  calm := true
  fn := fun _ => false
  pn := []
  xe := fun _ _ => False

structure CompScope (X : Cx) (x : Str) (ys : List Str) (sl : List Nat) (scope : Scope) (cl : List (Str × Addr)) : Prop where
  kind : scope.kind = .function
  nocell : ∀ y ∈ scope.names, y.2 ≠ .cell
  names : ∀ y ∈ scope.names, y.2 = .local → scope.names.lookup y.1 = some .local
  var : scope.names.lookup x = some .local
  nd : (x :: ys).Nodup
  clos : closureFor scope X.env = pure cl
  has : ∀ y, ((relabel scope X.env).names.lookup y = some .cell ∨ (relabel scope X.env).names.lookup y = some .free) → ∃ c, cl.lookup y = some c
  sub : ∀ y c, cl.lookup y = some c → X.env.cells.lookup y = some c
  slots : ∀ (i : Nat) (y : Str), ys[i]? = some y → ∃ j, sl[i]? = some j ∧ X.N[j]? = some y ∧ Vis X.env.scope y ∧ ((X.env.kindOf y = some .cell ∨ X.env.kindOf y = some .free)) ∧ ((relabel scope X.env).names.lookup y = some .cell ∨ (relabel scope X.env).names.lookup y = some .free)
  len : ys.length = sl.length

def tComp (wi : TI) (te : TE) (sl : List Nat) : TE := fun σ H Q => wi σ H fun J H1 => ∀ D, H1 D = none → ∃ W : Nat → Nat → List V → Hp → Prop, (∃ m, W 0 m [] (upd H1 D (.lst []))) ∧
  ∀ i m ys H, W i m ys H → H D = some (.lst ys) ∧ ((J.stop i H ∧ Q (.ref D) H) ∨
    (J.go i H ∧ ys.length < sizeLine ∧ ∀ x H', J.yld i H x H' → te (some x :: sl.map (fun j => σ.getD j none)) H' fun v H2 => H2 D = some (.lst ys) ∧ ∃ m', m' < m ∧ W (i + 1) m' (ys ++ [v]) (upd H2 D (.lst (ys ++ [v])))))

section
variable {X : Cx}
theorem pe_comp {elt iter : Expr} {x : Str} {px : Pos} {scope : Scope} {cl : List (Str × Addr)} {pos : Pos} {ys : List Str} {sl : List Nat} {wi : TI} {te : TE} (S : CompScope X x ys sl scope cl) (hcalm : X.calm = true)
    (hi : PI X (.Name x px) iter wi) (ht : ∀ C fp s H, PE (cxComp X (x :: ys) scope cl C fp s H) elt te) (hs : ∀ v, foldedSetIterable iter X.env v = pure v := by intro _; rfl) :
    PE X (.ListComp elt [⟨.Name x px, iter, [], 0⟩] scope pos) (tComp wi te sl) := by
  intro pins s σ H Q I h
  rw [eval_ListComp]
  refine wpAny_comprehension_free (use := none) rfl hs S.clos S.kind S.names (thn (hi pins s σ H _ I h) fun xv s1 h1 => thn h1 fun itv s2 h2 => ?_)
  obtain ⟨it, fp, tn, J, H2, rfl, I2, T, st2, f2, R2⟩ := h2
  refine wpAny_newObj_type (wpAny_newFunctionEnv S.nocell (by intro y hy; simp at hy) (fun h₁ hns hsb => ?_) S.kind)
  dsimp only at hns hsb ⊢
  have I3 : Inv X pins σ (upd H2 s2.heap.objs.size (.lst [])) { s2 with heap := s2.heap.push { cls := .type "list", data := .seq ([] : List Value).toArray }, toks := s2.toks } := I2.lnew .nil (Nat.zero_le _)
  obtain ⟨W, ⟨m0, w0⟩, step⟩ := R2 s2.heap.objs.size I2.fresh
  generalize hD : s2.heap.objs.size = D at *
  generalize hH3 : upd H2 D (.lst []) = H3 at *
  generalize hh3 : s2.heap.push { cls := .type "list", data := .seq ([] : List Value).toArray } = h3 at *
  have hC : h3.objs.size = D + 1 := by rw [← hh3, Heap.size_push, hD]
  have old3 : ∀ b o, s2.heap.get? b = some o → h3.get? b = some o := fun b o e => by rw [← hh3]; exact Heap.get?_push_of_some _ e
  have hk₁ : ∀ b o, h3.get? b = some o → h₁.get? b = some o := fun b o e => hsb.extBut b o (Nat.ne_of_lt (Heap.lt_size e)) (Heap.get?_push_of_some _ e)
  have fpl : ∀ b ∈ fp, b < D := fun b hb => by
    obtain ⟨o, e, _⟩ := T.obj _ _ st2 b hb
    rw [← hD]
    exact Heap.lt_size e
  have ltC : ∀ {b : Addr}, b < D → b < h3.objs.size := fun {b} h => by rw [hC]; exact Nat.lt_succ_of_lt h
  have f3 : ∀ b ∈ fp, FpOk X pins H3 b := fun b hb => ⟨by rw [← hH3, upd_ne (Nat.ne_of_lt (fpl b hb))]; exact (f2 b hb).1, (f2 b hb).2⟩
  have cellLt : ∀ y c, X.env.cells.lookup y = some c → c < D := fun y c e => by
    obtain ⟨v, q⟩ := I2.cell y c e
    rw [← hD]
    exact q.lt
  have locLt : X.env.locals < D := by rw [← hD]; exact I2.lt
  -- the block's context at its entry
  have J4 : Inv (cxComp X (x :: ys) scope cl h3.objs.size fp { s2 with heap := h3, toks := s2.toks } H3) [] (none :: sl.map (fun j => σ.getD j none)) H3 { s2 with heap := h₁, toks := s2.toks + ([] : List (Str × Value)).length } := by
    refine ⟨⟨I3.mod, S.kind, I3.ok.glob, I3.ok.blt, Nat.le_refl _, fun a b c h1 h2 => I3.ok.inj a b c (S.sub a c h1) (S.sub b c h2), S.has, fun a c z => absurd z Bool.false_ne_true, fun _ => I3.ok.hd hcalm, I3.ok.frames, .inl rfl, fun b hb => ⟨?_, fun a c e => ?_⟩,
        I3.bs, Nat.le_trans I3.ok.bsz I3.sz, fun b o e hb => ?_, fun b hb z => ?_, I3.stack, I3.stkFree⟩,
      rfl, I3.bare, Un.kept hk₁, ⟨_, hns, fun i y v h1 h2 h3 => ?_⟩, fun a c e => ?_, ?_, fun a c e => I3.freeC a c (S.sub a c e), fun p hp => absurd (show p ∈ ([] : List (Addr × Obj)) from hp) (by simp), I3.hok.kept hk₁, ?_⟩
    · exact Nat.ne_of_lt (ltC (fpl b hb))
    · exact (f3 b hb).2.2.2.2.1 a c (S.sub a c e)
    · rcases (f3 b hb).2.2.2.1 with z | z
      · exact I3.ok.noex b o e z
      · exact absurd (Nat.lt_of_lt_of_le (Heap.lt_size e) (Nat.le_trans I3.ok.bsz z)) (Nat.lt_irrefl _)
    · rcases List.mem_cons.mp (I3.stkSub b z) with e | e
      · exact (f3 b hb).2.1 e
      · exact (f3 b hb).2.2.1 e
    · cases i with
      | zero => exact absurd h2 (by simp)
      | succ i =>
        have h1 : ys[i]? = some y := h1
        obtain ⟨j, hj, hN, hv, hk, hr⟩ := S.slots i y h1
        have h2 : (sl.map (fun j => σ.getD j none))[i]? = some (some v) := h2
        rw [List.getElem?_map, hj] at h2
        have e2 : σ.getD j none = some v := Option.some.inj h2
        have e3 : σ[j]? = some (some v) := by
          rw [List.getD_eq_getElem?_getD] at e2
          cases q : σ[j]? with
          | none => rw [q] at e2; cases e2
          | some o => rw [q] at e2; rw [show o = some v from e2]
        obtain ⟨m, hns3, hl3⟩ := I3.loc
        obtain ⟨u, ru, lk⟩ := hl3 j y v hN e3 hv
        refine ⟨u, ru, .inr ⟨hr, ?_⟩⟩
        rcases lk with ⟨lk, _⟩ | ⟨_, c, hc, o, ho, hd⟩
        · rcases hk with hk | hk <;> (rw [lk] at hk; cases hk)
        · obtain ⟨c', hc'⟩ := S.has y hr
          have e := S.sub y c' hc'
          rw [hc] at e
          cases e
          exact ⟨c, hc', o, hk₁ _ _ ho, hd⟩
    · obtain ⟨v, o, ho, hd⟩ := I3.cell a c (S.sub a c e)
      exact ⟨v, o, hk₁ _ _ ho, hd⟩
    · show H3 h3.objs.size = none
      exact I3.hok.fresh (Nat.le_refl _)
    · show (none :: sl.map (fun j => σ.getD j none)).length = (x :: ys).length
      rw [List.length_cons, List.length_cons, List.length_map, S.len]
  have st4 : tn 0 h₁ := T.keep _ _ _ st2 fun b _ o e => hk₁ b o (old3 b o e)
  have stat : ∀ {H' : Hp}, (∀ b ∈ fp, H' b = none) → ∀ b ∈ fp, FpOk (cxComp X (x :: ys) scope cl h3.objs.size fp { s2 with heap := h3, toks := s2.toks } H3) [] H' b := fun {H'} hn b hb => by
    refine ⟨hn b hb, ?_, fun z => ?_, .inl hb, fun a c e => (f3 b hb).2.2.2.2.1 a c (S.sub a c e), fun p hp => absurd (show p ∈ ([] : List (Addr × Obj)) from hp) (by simp)⟩
    · exact Nat.ne_of_lt (ltC (fpl b hb))
    · rcases List.mem_cons.mp (I3.stkSub b z) with e | e
      · exact (f3 b hb).2.1 e
      · exact (f3 b hb).2.2.1 e
  have hg : PG (cxComp X (x :: ys) scope cl h3.objs.size fp { s2 with heap := h3, toks := s2.toks } H3) (.Name x px) (gName 0) := pg_name (i := 0) S.nd rfl (.inl (lookup_relabel_local S.var)) (.inr (lookup_relabel_local S.var))
  have hte : PE (cxComp X (x :: ys) scope cl h3.objs.size fp { s2 with heap := h3, toks := s2.toks } H3) elt te := ht _ _ _ _
  -- back to the frame
  have back : ∀ {σ' : St} {H' : Hp} {s' : Shared}, Inv (cxComp X (x :: ys) scope cl h3.objs.size fp { s2 with heap := h3, toks := s2.toks } H3) [] σ' H' s' → Q (.ref D) H' → compPost (model X.prog X.w) X.A X.xe none (EP X pins σ Q) (.ref D) h3.objs.size (.ok .next) s' := fun {σ' H' s'} J' q => by
    have hfree : H' h3.objs.size = none := J'.free
    obtain ⟨m, hns', _⟩ := J'.loc
    have J1 : Inv X pins σ H' s' := I3.call' (s' := s') (ch := fp) J'.os J'.base J'.hok J'.bare fun b hb => ⟨(f3 b hb).2.2.2.1, (f3 b hb).2.1, (f3 b hb).2.2.2.2.1, (f3 b hb).2.2.2.2.2⟩
    refine ⟨m, hns', fun h' sb => ⟨.ref D, H', ?_, rfl, q⟩⟩
    refine J1.turned (t' := s'.toks) (it := h3.objs.size) (fun b o hb e => (sb.2 b hb).trans e) hfree (Nat.ne_of_gt (ltC locLt)) (.inr ?_) (fun a c e z => ?_) fun p hp z => ?_
    · exact I3.sz
    · exact absurd (ltC (cellLt a c e)) (by rw [z]; exact Nat.lt_irrefl _)
    · have h1 : p.1 < h3.objs.size := Heap.lt_size (I3.pin p hp).1
      rw [z] at h1
      exact absurd h1 (Nat.lt_irrefl _)
  have loop : codeAny (model X.prog X.w) X.A (.compLoop (.ListComp elt [⟨.Name x px, iter, [], 0⟩] scope pos) 0 (.ref it) (.ref D) (compEnvC scope cl h3.objs.size X.env)) (compPost (model X.prog X.w) X.A X.xe none (EP X pins σ Q) (.ref D) h3.objs.size)
      { s2 with heap := h₁, toks := s2.toks + ([] : List (Str × Value)).length } := by
    refine codeAny_loop rfl (fun n s' => ∃ i o H' zs, Inv (cxComp X (x :: ys) scope cl h3.objs.size fp { s2 with heap := h3, toks := s2.toks } H3) [] (o :: sl.map (fun j => σ.getD j none)) H' s' ∧ tn i s'.heap ∧ (∀ b ∈ fp, H' b = none) ∧ W i n zs H') (fun n s' hI => ?_) m0 ⟨0, none, H3, [], J4, st4, fun b hb => (f3 b hb).1, w0⟩
    obtain ⟨i, o, H', zs, J5, st5, fr5, w5⟩ := hI
    show wpAny _ _ ((compTurn (.ListComp elt [⟨.Name x px, iter, [], 0⟩] scope pos) 0 (.ref it) (.ref D) (compEnvC scope cl h3.objs.size X.env)).onRaise (fun x => do noteFrame x (compEnvC scope cl h3.objs.size X.env); theTreesLotGoes x)) _ _ s'
    refine wpAny_noted ?_
    rw [compTurn_list1]
    refine wpAny_bind (wpAny_standAt (wpAny_bind ?_))
    obtain ⟨hDl, ⟨stop, q⟩ | ⟨go, hz, stepx⟩⟩ := step i n zs H' w5
    · refine thn (T.done (cxComp X (x :: ys) scope cl h3.objs.size fp { s2 with heap := h3, toks := s2.toks } H3) rfl rfl rfl rfl i [] s' _ H' _ J5 (stat fr5) st5 stop) fun r s6 ⟨hr, J6⟩ => ?_
      subst hr
      exact wpAny_pure (back J6 q)
    · refine thn (T.item (cxComp X (x :: ys) scope cl h3.objs.size fp { s2 with heap := h3, toks := s2.toks } H3) rfl rfl rfl rfl i [] s' _ H' _ J5 (stat fr5) st5 go) fun r s6 ⟨u, hr, h6⟩ => ?_
      subst hr
      refine wpAny_bind (thn h6 fun _ s7 ⟨xv, H7, J7, r7, y7, st7, fr7⟩ => ?_)
      have J7' := J7.pinned (stat fr7) (T.obj _ _ st7)
      refine wpAny_bind (wpAny_mono (hg _ s7 _ H7 xv u (fun σ' H'' => σ' = some xv :: sl.map (fun j => σ.getD j none) ∧ H'' = H7) J7' r7 ⟨rfl, rfl⟩) (fun _ s8 h8 => ?_) fun _ _ z => False.elim z)
      obtain ⟨σ8, H8, J8, rfl, rfl⟩ := h8
      refine wpAny_bind (wpAny_bind (wpAny_mono (hte _ s8 _ H8 _ J8 (stepx xv H8 y7)) (fun v s9 h9 => ?_) fun _ _ z => False.elim z))
      obtain ⟨y, H9, J9, r9, hD9, m', hm', w9⟩ := h9
      refine wpAny_bind (wpAny_mono (mt_append (X := (cxComp X (x :: ys) scope cl h3.objs.size fp { s2 with heap := h3, toks := s2.toks } H3)) _ s9 _ H9 (.ref D) [y] (.ref D) [v] (fun _ H'' => H'' = upd H9 D (.lst (zs ++ [y]))) J9 rfl (.cons r9 .nil) ⟨D, zs, y, rfl, rfl, hD9, hz, rfl⟩) (fun _ s10 h10 => ?_) fun _ _ z => False.elim z)
      obtain ⟨_, H10, J10, _, rfl⟩ := h10
      refine wpAny_pure (wpAny_pure ⟨rfl, m', hm', i + 1, _, _, zs ++ [y], J10.unpinned, T.keep _ _ _ st7 fun b hb ob e => (J10.pin (b, ob) (List.mem_append_right _ (List.mem_append_right _ (mem_pinsAt hb e)))).1, fun b hb => ?_, w9⟩)
      obtain ⟨ob, e, d⟩ := T.obj _ _ st7 b hb
      exact (J10.pin (b, ob) (List.mem_append_right _ (List.mem_append_right _ (mem_pinsAt hb e)))).2.1
  exact codeAny_compStart_list loop (T.self _ 0 _ _ _ st4 loop)
end
end L2

set_option Elab.async false
set_option maxRecDepth 100000
namespace L2
open PySem PySem.Spec PyProof.Rows

/-! ### the law's promise where defs of the text make lambdas: their codes' tables are tracked from the start -/
structure OnlyT (tabs : List (Addr × Addr)) (H : Hp) : Prop where
  only : ∀ b, H b = none ∨ (∃ o xs, H b = some (.frz o (.lst xs))) ∨ (b ∈ tabs.map (·.2) ∧ H b = some (.tbl #[]))
  tabs : ∀ q ∈ tabs, H q.2 = some (.tbl #[])

structure BMain (mg : Str → Option Value) (h : Heap) : Prop where
  ex : ∃ bm ob, mg "__builtins__" = some (.ref bm) ∧ bm ≠ builtinsNs ∧ h.get? bm = some ob ∧ ob.cls = .type "module" ∧ ob.dict = some builtinsNs ∧ ob.data = .plain

theorem law_callT {P : Program} {w : World} {K : PySem.W.Frag} {mg mb : Str → Option Value} {CX : CXT} {k : Nat} {fa a : Addr} {fd : FuncData} {x : Str} {sp : Sp} {s₁ : Shared} {vs : List Value} {ns : List Int} {tabs : List (Addr × Addr)}
    (KX : K.In s₁.heap) (hns : s₁.heap.Ns mainGlobals mg) (hb : s₁.heap.Ns builtinsNs mb) (hbb : ∀ x : Str, x ≠ "__name__" → mb x = bootBuiltins x) (hlim : s₁.heap.NoLimit) (hg : s₁.gens = #[])
    (hT : PySem.W.TabsAt tabs s₁.heap) (hnt : PySem.W.noTabs K = true) (hbm : BMain mg s₁.heap)
    (ha : s₁.heap.get? a = some { cls := .type "list", data := .seq vs.toArray }) (hi : IntsAre vs ns) (hl : ns.length ≤ sizeLine) (hr : Room k callerA)
    (F : ∀ base : Heap, K.In base → base.Ns mainGlobals mg → (∀ q ∈ tabs, PySem.W.CodeHd base q.1 q.2) → BMain mg base → FnOk P w K mg base CX k fa fd [x] sp) (hbind : ∀ (s : Shared) (u : Value), BindsTo s fd ⟨[u], []⟩ [(x, u)])
    (hsp : ∀ H : Hp, OnlyT tabs H → SqL K H a (ns.map V.int) → sp [.ref a] H (fun v _ => v = .bl true) fun _ _ _ => False)
    (hCX : ∀ H e s', CX [] H s₁ (fun _ _ _ => False) e s' → False) :
    codeAny (model P w) callerA (.call (.ref fa) ⟨[.ref a], []⟩) (fun r s' => r = .ok (.ret (.bool true)) ∧ OldK s₁.heap s'.heap ∧ s'.os = s₁.os ∧ AllBare s'.gens) s₁ := by
  have rv := vals_ints hi
  have lenV := hi.length
  have tabObjAt : ∀ b, b ∈ tabs.map (·.2) → s₁.heap.get? b = some (PySem.W.tabObj #[]) := fun b hb => by
    obtain ⟨q, hq, rfl⟩ := List.mem_map.mp hb
    exact (hT q hq).2
  have noTabK : ∀ b o, K.lookup b = some o → b ∉ tabs.map (·.2) := fun b o e hb => by
    have e1 := KX b o e
    rw [tabObjAt b hb] at e1
    cases e1
    have h2 := List.all_eq_true.mp hnt (b, _) (PySem.W.mem_of_lookupK e)
    exact absurd (show false = true from h2) Bool.false_ne_true
  have aNo : a ∉ tabs.map (·.2) := fun z => by
    have e := tabObjAt a z
    rw [ha] at e
    cases e
  have core : ∀ H : Hp, OnlyT tabs H → SqL K H a (ns.map V.int) → HOk P w H s₁.heap → (∀ b, H b ≠ none → b = a ∨ b ∈ tabs.map (·.2)) → (H a ≠ none → K.lookup a = none) →
      codeAny (model P w) callerA (.call (.ref fa) ⟨[.ref a], []⟩) (fun r s' => r = .ok (.ret (.bool true)) ∧ OldK s₁.heap s'.heap ∧ s'.os = s₁.os ∧ AllBare s'.gens) s₁ := by
    intro H hO hS hok hA hK
    have base_of : ∀ {b : Addr} {o : Obj}, s₁.heap.get? b = some o → H b = none → (hidT s₁.heap H).get? b = some o := fun e n => hidT_get e n
    have noC : ∀ {b : Addr} {o : Obj}, s₁.heap.get? b = some o → o ≠ { cls := .type "list", data := .seq vs.toArray } → o ≠ PySem.W.tabObj #[] → H b = none := fun {b o} e d1 d2 => by
      cases q : H b with
      | none => rfl
      | some u =>
        rcases hA b (by rw [q]; simp) with e' | e'
        · subst e'
          rw [ha] at e; cases e
          exact absurd rfl d1
        · rw [tabObjAt b e'] at e; cases e
          exact absurd rfl d2
    have nsK : ∀ {b : Addr} {m : Str → Option Value}, s₁.heap.Ns b m → (hidT s₁.heap H).Ns b m := fun {b m} ⟨o, es, ep, e, d, r⟩ => ⟨o, es, ep, base_of e (noC e (fun z => by rw [z] at d; cases d) (fun z => by rw [z] at d; cases d)), d, r⟩
    have hKb : K.In (hidT s₁.heap H) := fun b o e => base_of (KX b o e) (by
      cases q : H b with
      | none => rfl
      | some u =>
        rcases hA b (by rw [q]; simp) with e' | e'
        · subst e'
          rw [hK (by rw [q]; simp)] at e; cases e
        · exact absurd e' (noTabK b o e))
    have hCd : ∀ q ∈ tabs, PySem.W.CodeHd (hidT s₁.heap H) q.1 q.2 := fun q hq => by
      obtain ⟨o, vs', file, tf, flags, tg, inF, text, tt, e1, r1, r2, r3, r4, r5, r6, r7, r8, hne⟩ := (hT q hq).1
      exact ⟨o, vs', file, tf, flags, tg, inF, text, tt, base_of e1 (noC e1 (fun z => by rw [z] at r1; injection r1 with r1; exact absurd r1 (by decide)) (fun z => by rw [z] at r1; cases r1)), r1, r2, r3, r4, r5, r6, r7, r8, hne⟩
    have hBm : BMain mg (hidT s₁.heap H) := by
      obtain ⟨bm, ob, b1, b2, b3, b4, b5, b6⟩ := hbm.ex
      exact ⟨bm, ob, b1, b2, base_of b3 (noC b3 (fun z => by rw [z] at b4; injection b4 with b4; exact absurd b4 (by decide)) (fun z => by rw [z] at b4; cases b4)), b4, b5, b6⟩
    have hM : Mod K mg (hidT s₁.heap H) := ⟨hKb, nsK hns, ⟨mb, nsK hb, hbb⟩, let ⟨mc, h1, h2⟩ := hlim; ⟨mc, nsK h1, h2⟩⟩
    have e0 : Env0 P w K mg (hidT s₁.heap H) callerA [] s₁ H := ⟨rfl, hM, fun b o e => of_hidT e, Nat.le_of_eq (hidT_size _ _), trivial, fun b hb => absurd (show b ∈ ([] : List Addr) from hb) (by simp), hok, .of_eq hg⟩
    refine codeAny_mono ((F _ hKb (nsK hns) hCd hBm).run callerA [] s₁ H ⟨[.ref a], []⟩ [.ref a] [.ref a] _ _ hr e0 (hbind s₁ (.ref a)) (.cons rfl .nil) (hsp H hO hS)) fun r s' h => ?_
    cases r with
    | error e => exact (hCX H e s' h).elim
    | ok fl =>
      cases fl with
      | next => exact False.elim h
      | brk => exact False.elim h
      | cont => exact False.elim h
      | ret u =>
        obtain ⟨v, H', os, bare, un, hok', r', q⟩ := h
        have q' : v = .bl true := q
        subst q'
        obtain rfl : u = Value.bool true := r'
        have look : ∀ b o, s₁.heap.get? b = some o → (s'.heap.get? b = some o) ∨ (isCodeTable s₁.heap b ∧ o = PySem.W.tabObj #[] ∧ ∃ ps, s'.heap.get? b = some (PySem.W.tabObj ps)) := fun b o e => by
          rcases hO.only b with z | ⟨ob, xs, z⟩ | ⟨hb', z⟩
          · exact .inl (un.keep b o e z (by intro z; exact absurd (show b ∈ ([] : List Addr) from z) (by simp)) (by simp))
          · have z2 := un.frzs b ob _ z
            obtain ⟨e1, _⟩ := (show ObjOk P w H s₁.heap b (.frz ob (.lst xs)) from hok b _ z)
            obtain ⟨e2, _⟩ := (show ObjOk P w H' s'.heap b (.frz ob (.lst xs)) from hok' b _ z2)
            rw [e] at e1; cases e1
            exact .inl e2
          · obtain ⟨more, z2⟩ := un.tbls b _ z
            have e2 := (show ObjOk P w H' s'.heap b (.tbl (#[] ++ more)) from hok' b _ z2)
            obtain ⟨q, hq, rfl⟩ := List.mem_map.mp hb'
            have e3 := (hT q hq).2
            rw [e] at e3
            exact .inr ⟨((hT q hq).1.tab (hT q hq).2).isCodeTable, Option.some.inj e3, _, e2⟩
        refine ⟨rfl, ⟨fun b o e => ?_, fun b o e => ?_⟩, os, bare⟩
        · rcases look b o e with x | ⟨ht, rfl, ps, hP⟩
          · exact .inl x
          · exact .inr (.inl ⟨ht, rfl, #[], ps, rfl, by rw [Array.empty_append]; exact hP⟩)
        · rcases look b o e with x | ⟨ht, rfl, ps, hP⟩
          · exact ⟨o, x⟩
          · exact ⟨_, hP⟩
  have isTab : ∀ b, Decidable (b ∈ tabs.map (·.2)) := fun b => inferInstance
  cases hk : K.lookup a with
  | some o =>
    have e := KX a o hk
    rw [ha] at e
    cases e
    refine core (fun b => if b ∈ tabs.map (·.2) then some (.tbl #[]) else none) ⟨fun b => ?_, fun q hq => if_pos (List.mem_map_of_mem hq)⟩ (.inr ⟨_, vs.toArray, _, hk, rfl, rfl, rfl, by rw [List.size_toArray, lenV]; exact hl, by simpa using rv⟩) (fun b u z => ?_) (fun b z => ?_) fun z => absurd (if_neg aNo) z
    · by_cases hb : b ∈ tabs.map (·.2)
      · exact .inr (.inr ⟨hb, if_pos hb⟩)
      · exact .inl (if_neg hb)
    · by_cases hb : b ∈ tabs.map (·.2)
      · have z' := (if_pos hb).symm.trans z
        cases z'
        exact tabObjAt b hb
      · have z' := (if_neg hb).symm.trans z
        cases z'
    · by_cases hb : b ∈ tabs.map (·.2)
      · exact .inr hb
      · exact absurd (if_neg hb) z
  | none =>
    refine core (fun b => if b = a then some (.frz { cls := .type "list", data := .seq vs.toArray } (.lst (ns.map V.int))) else if b ∈ tabs.map (·.2) then some (.tbl #[]) else none) ⟨fun b => ?_, fun q hq => ?_⟩ (.inl (.inr ⟨{ cls := .type "list", data := .seq vs.toArray }, if_pos rfl⟩)) (fun b u z => ?_) (fun b z => ?_) fun _ => hk
    · by_cases hb : b = a
      · exact .inr (.inl ⟨_, _, if_pos hb⟩)
      · by_cases hb2 : b ∈ tabs.map (·.2)
        · exact .inr (.inr ⟨hb2, by rw [if_neg hb, if_pos hb2]⟩)
        · exact .inl (by rw [if_neg hb, if_neg hb2])
    · have hq' := List.mem_map_of_mem (f := (·.2)) hq
      have hne : q.2 ≠ a := fun z => aNo (by rw [← z]; exact hq')
      rw [if_neg hne, if_pos hq']
    · by_cases hb : b = a
      · have z' := (if_pos hb).symm.trans z
        cases z'
        subst hb
        exact ⟨ha, by rw [List.length_map]; exact hl, vs, _, rv, ha⟩
      · have z1 := (if_neg hb).symm.trans z
        by_cases hb2 : b ∈ tabs.map (·.2)
        · have z' := (if_pos hb2).symm.trans z1
          cases z'
          exact tabObjAt b hb2
        · have z' := (if_neg hb2).symm.trans z1
          cases z'
    · by_cases hb : b = a
      · exact .inl hb
      · by_cases hb2 : b ∈ tabs.map (·.2)
        · exact .inr hb2
        · exact absurd (by rw [if_neg hb, if_neg hb2]) z

theorem walk_ofT {l : PySem.W.OpenLaw} {n k : Nat} {q : Program} {loose : List Str} {XP : (Str → Option Value) → Heap → Prop} {YP : World → Heap → Prop} {d : DefRec} {K : Params → PySem.W.Frag} {CX : CXT} {sp : PySem.W.Frag → Sp} {x : Str} {tabs : PySem.W.Frag → List (Addr × Addr)}
    (hn : l.most = some n) (hn2 : n ≤ sizeLine) (hdf : d.params.defaults = []) (hr : Room k callerA)
    (hY : ∀ (w : World) (h : Heap), YP w h → (K w.params).In h)
    (hT : ∀ (w : World) (mean : ExcName → Option Value) (mg mb : Str → Option Value) (h : Heap), (K w.params).In h → Top q (PySem.W.looseW q loose) mean mg mb h → PySem.W.TabsAt (tabs (K w.params)) h)
    (hnt : ∀ w : World, PySem.W.noTabs (K w.params) = true)
    (F : ∀ (w : World) (mg : Str → Option Value) (fa : Addr) (h : Heap), (K w.params).In h → h.Ns mainGlobals mg → mg d.name = some (.ref fa) →
      ∃ fd : FuncData, (∀ (s : Shared) (u : Value), BindsTo s fd ⟨[u], []⟩ [(x, u)]) ∧
        ∀ base : Heap, (K w.params).In base → base.Ns mainGlobals mg → (∀ q ∈ tabs (K w.params), PySem.W.CodeHd base q.1 q.2) → BMain mg base → FnOk l.prog w (K w.params) mg base CX k fa fd [x] (sp (K w.params)))
    (hsp : ∀ (K : PySem.W.Frag) (H : Hp) (a : Addr) (ns : List Int), ns.length ≤ n → OnlyT (tabs K) H → SqL K H a (ns.map V.int) → sp K [.ref a] H (fun v _ => v = .bl true) fun _ _ _ => False)
    (hCX : ∀ (H : Hp) (s : Shared) (e : Value) (s' : Shared), CX [] H s (fun _ _ _ => False) e s' → False) :
    PySem.W.WalkO q loose XP YP l.row.toRowW d [] (fun f vs => PySem.call f vs) := by
  refine Att.attach_call hn hdf fun w s₀ s₁ mg mb fa o pm cd doc a vs ns G Y ho hd hcd hmg hobj hints hlen hg => ?_
  have KX := hY w _ Y
  obtain ⟨fd, hb, hF⟩ := F w mg fa _ KX G.T.g hmg
  exact law_callT KX G.T.g G.T.b G.T.builtins G.T.nolimit hg (hT w _ mg mb _ KX G.T) (hnt w) ⟨G.T.bmain⟩ hobj hints (Nat.le_trans hlen hn2) hr hF hb (fun H hO hS => hsp (K w.params) H a ns hlen hO hS) fun H e s' => hCX H s₁ e s'
/-- the table of a def of the top -/
def tabOf (x : Str) (K : PySem.W.Frag) : List (Addr × Addr) := match PySem.W.tabIn K x with
  | some q => [q]
  | none => []
theorem tabOf_ok {p : Program} {loose : List Str} {mean : ExcName → Option Value} {mg mb : Str → Option Value} {h : Heap} {K : PySem.W.Frag} {d : DefRec} {x : Str} (T : Top p loose mean mg mb h) (X : K.In h)
    (hr : (recsOf p).find? (fun e => e.name == x) = some d) : PySem.W.TabsAt (tabOf x K) h := by
  unfold tabOf
  cases e : PySem.W.tabIn K x with
  | none => intro q hq; cases hq
  | some q =>
    obtain ⟨c, P⟩ := q
    intro q hq
    rw [List.mem_singleton.mp hq]
    exact PySem.W.tab_of T X hr e
theorem tabOf_is {K : PySem.W.Frag} {x : Str} {f c P : Addr} {oc oc' : Value} {od od' : Option Addr} {fd : FuncData} {sl sl' : Array (Option Value)} {vs : Array Value} (a : PySem.W.nsIn K mainGlobals x = some (some (.ref f))) (l : K.lookup f = some ⟨oc, od, .func fd, sl⟩) (hc : fd.code = .ref c)
    (lc : K.lookup c = some ⟨oc', od', .fields vs, sl'⟩) (hv : (vs[11]? : Option Value) = some (.ref P)) : tabOf x K = [(c, P)] := by
  unfold tabOf PySem.W.tabIn
  simp only [a, l, hc, lc, hv]
end L2

namespace Wk
/-- a kind -/
inductive Kd where
  | num
  | blk (n : Int)
  | two (f : Bool) (a b : Kd)
  deriving DecidableEq

namespace Kd
def size : Kd → Nat
  | .num => 1
  | .blk _ => 1
  | .two _ a b => a.size + b.size + 1
def deep : Kd → Nat
  | .num => 1
  | .blk _ => 1
  | .two _ a b => max a.deep b.deep + 1
theorem deep_le : ∀ k : Kd, k.deep ≤ k.size
  | .num => Nat.le_refl _
  | .blk _ => Nat.le_refl _
  | .two _ a b => by have := deep_le a; have := deep_le b; simp only [deep, size]; omega
theorem size_pos : ∀ k : Kd, 1 ≤ k.size
  | .num => Nat.le_refl _
  | .blk _ => Nat.le_refl _
  | .two _ a b => by simp only [size]; omega
/-- its parts: itself first, those in the first part ahead of those in the second -/
def parts : Kd → List Kd
  | .num => [.num]
  | .blk n => [.blk n]
  | .two f a b => .two f a b :: (a.parts ++ b.parts)
theorem parts_length : ∀ k : Kd, k.parts.length = k.size
  | .num => rfl
  | .blk _ => rfl
  | .two _ a b => by simp only [parts, size, List.length_cons, List.length_append, parts_length a, parts_length b]
theorem parts_size : ∀ (k : Kd) {p : Kd}, p ∈ k.parts → p.size ≤ k.size
  | .num, p, h => by simp only [parts, List.mem_singleton] at h; subst h; exact Nat.le_refl _
  | .blk _, p, h => by simp only [parts, List.mem_singleton] at h; subst h; exact Nat.le_refl _
  | .two f a b, p, h => by
    simp only [parts, List.mem_cons, List.mem_append] at h
    rcases h with h | h | h
    · subst h; exact Nat.le_refl _
    · have := parts_size a h; simp only [size]; omega
    · have := parts_size b h; simp only [size]; omega
/-- no blank below nought -/
def ok : Kd → Prop
  | .num => True
  | .blk n => 0 ≤ n
  | .two _ a b => a.ok ∧ b.ok
theorem parts_ok : ∀ (k : Kd) {p : Kd}, k.ok → p ∈ k.parts → p.ok
  | .num, p, _, h => by simp only [parts, List.mem_singleton] at h; subst h; trivial
  | .blk _, p, q, h => by simp only [parts, List.mem_singleton] at h; subst h; exact q
  | .two f a b, p, q, h => by
    simp only [parts, List.mem_cons, List.mem_append] at h
    rcases h with h | h | h
    · subst h; exact q
    · exact parts_ok a q.1 h
    · exact parts_ok b q.2 h
/-- no blank beyond sixty figures -/
def few : Kd → Prop
  | .num => True
  | .blk n => n.natAbs < 10 ^ 59
  | .two _ a b => a.few ∧ b.few
/-- something put in the place of the blanks -/
def fill (φ : Int → Option Kd) : Kd → Kd
  | .num => .num
  | .blk n => (φ n).getD (.blk n)
  | .two f a b => .two f (a.fill φ) (b.fill φ)
theorem fill_ok {φ : Int → Option Kd} (hφ : ∀ n k, φ n = some k → k.ok) : ∀ k : Kd, k.ok → (k.fill φ).ok
  | .num, _ => trivial
  | .blk n, h => by
    show ((φ n).getD (.blk n)).ok
    cases e : φ n with
    | none => exact h
    | some t => exact hφ n t e
  | .two f a b, h => ⟨fill_ok hφ a h.1, fill_ok hφ b h.2⟩
theorem fill_size {φ : Int → Option Kd} {m : Nat} (hm : 1 ≤ m) (hφ : ∀ n k, φ n = some k → k.size ≤ m) : ∀ k : Kd, (k.fill φ).size ≤ k.size * m
  | .num => by simp only [fill, size]; omega
  | .blk n => by
    show ((φ n).getD (.blk n)).size ≤ 1 * m
    cases e : φ n with
    | none => simp only [Option.getD, size]; omega
    | some t => have := hφ n t e; simp only [Option.getD]; omega
  | .two f a b => by
    have h1 := fill_size hm hφ a
    have h2 := fill_size hm hφ b
    simp only [fill, size, Nat.add_mul]
    omega
theorem fill_deep {φ : Int → Option Kd} {m : Nat} (hm : 1 ≤ m) (hφ : ∀ n k, φ n = some k → k.deep ≤ m) : ∀ k : Kd, (k.fill φ).deep ≤ k.deep + m
  | .num => by simp only [fill, deep]; omega
  | .blk n => by
    show ((φ n).getD (.blk n)).deep ≤ 1 + m
    cases e : φ n with
    | none => simp only [Option.getD, deep]; omega
    | some t => have := hφ n t e; simp only [Option.getD]; omega
  | .two f a b => by
    have h1 := fill_deep hm hφ a
    have h2 := fill_deep hm hφ b
    simp only [fill, deep]
    omega
end Kd

/-! ### the walk through a kind's parts -/
def kids : Kd → List Kd
  | .two _ a b => [a, b]
  | _ => []
def flat (ts : List Kd) : List Kd := ts.flatMap Kd.parts
theorem flat_nil : flat [] = [] := rfl
theorem flat_app (a b : List Kd) : flat (a ++ b) = flat a ++ flat b := List.flatMap_append
theorem flat_cons (t : Kd) (r : List Kd) : flat (t :: r) = t :: flat (kids t ++ r) := by
  cases t <;> simp [flat, kids, Kd.parts]
theorem flat_one (t : Kd) : flat [t] = t.parts := by simp [flat]
/-- the roots of what is left behind i steps -/
def dfs (ts : List Kd) : Nat → List Kd
  | 0 => ts
  | n + 1 => match dfs ts n with
    | [] => []
    | t :: r => kids t ++ r
theorem dfs_flat (ts : List Kd) : ∀ n, flat (dfs ts n) = (flat ts).drop n
  | 0 => rfl
  | n + 1 => by
    have ih := dfs_flat ts n
    rw [← List.drop_drop, ← ih]
    show flat (match dfs ts n with | [] => [] | t :: r => kids t ++ r) = _
    cases dfs ts n with
    | nil => rfl
    | cons t r => rw [flat_cons]; rfl
theorem dfs_step {ts : List Kd} {n : Nat} {t : Kd} {r : List Kd} (h : dfs ts n = t :: r) : dfs ts (n + 1) = kids t ++ r := by
  show (match dfs ts n with | [] => [] | t :: r => kids t ++ r) = _
  rw [h]
theorem dfs_get {ts : List Kd} {n : Nat} {t : Kd} (h : (flat ts)[n]? = some t) : ∃ r, dfs ts n = t :: r := by
  have e := dfs_flat ts n
  cases q : dfs ts n with
  | nil =>
    rw [q, flat_nil] at e
    have : (flat ts)[n]? = none := List.getElem?_eq_none (List.drop_eq_nil_iff.mp e.symm)
    rw [this] at h; cases h
  | cons u r =>
    refine ⟨r, ?_⟩
    rw [q, flat_cons] at e
    have h2 : ((flat ts).drop n)[0]? = some t := by rw [List.getElem?_drop]; exact h
    rw [← e] at h2
    have : u = t := Option.some.inj h2
    rw [this]
theorem dfs_end {ts : List Kd} {n : Nat} (h : (flat ts).length ≤ n) : dfs ts n = [] := by
  have e := dfs_flat ts n
  rw [List.drop_eq_nil_of_le h] at e
  cases q : dfs ts n with
  | nil => rfl
  | cons u r => rw [q, flat_cons] at e; cases e
theorem dfs_nil {ts : List Kd} {n : Nat} (h : dfs ts n = []) : (flat ts).length ≤ n := by
  have e := dfs_flat ts n
  rw [h, flat_nil] at e
  exact List.drop_eq_nil_iff.mp e.symm
theorem flat_length (ts : List Kd) : ts.length ≤ (flat ts).length := by
  induction ts with
  | nil => exact Nat.le_refl _
  | cons t r ih =>
    have e : flat (t :: r) = t.parts ++ flat r := rfl
    rw [e, List.length_append, List.length_cons, Kd.parts_length]
    have := Kd.size_pos t
    omega
theorem dfs_length (ts : List Kd) (n : Nat) : (dfs ts n).length ≤ (flat ts).length := by
  have h := flat_length (dfs ts n)
  rw [dfs_flat, List.length_drop] at h
  omega

/-! ### blanks counted anew -/
def seen (os : List Int) : Kd → List Int
  | .blk n => if n ∈ os then os else os ++ [n]
  | _ => os
def ords (ks : List Kd) : List Int := ks.foldl seen []
/-- what a blank gets -/
def rank (os : List Int) (n : Int) : Option Kd := if n ∈ os then some (.blk (os.idxOf n : Nat)) else none
def renum (k : Kd) : Kd := k.fill (rank (ords k.parts))
theorem ords_snoc (ks : List Kd) (k : Kd) : ords (ks ++ [k]) = seen (ords ks) k := by
  unfold ords; rw [List.foldl_append]; rfl
theorem seen_length (os : List Int) (k : Kd) : (seen os k).length ≤ os.length + 1 := by
  cases k <;> simp only [seen] <;> (try split) <;> simp
theorem foldl_seen_length : ∀ (ks : List Kd) (os : List Int), (ks.foldl seen os).length ≤ os.length + ks.length
  | [], os => by simp
  | k :: r, os => by
    have h1 := foldl_seen_length r (seen os k)
    have h2 := seen_length os k
    simp only [List.foldl_cons, List.length_cons]; omega
theorem ords_length (ks : List Kd) : (ords ks).length ≤ ks.length := by
  have := foldl_seen_length ks []; simpa [ords] using this
theorem seen_mem {os : List Int} {k : Kd} {n : Int} (h : n ∈ os) : n ∈ seen os k := by
  cases k with
  | blk m => simp only [seen]; split
             · exact h
             · exact List.mem_append_left _ h
  | num => exact h
  | two f a b => exact h
theorem foldl_seen_mem : ∀ (ks : List Kd) (os : List Int) {n : Int}, n ∈ os → n ∈ ks.foldl seen os
  | [], _, _, h => h
  | k :: r, os, _, h => foldl_seen_mem r (seen os k) (seen_mem h)
theorem foldl_seen_in : ∀ (ks : List Kd) (os : List Int) {n : Int}, Kd.blk n ∈ ks → n ∈ ks.foldl seen os
  | [], _, _, h => absurd h (by simp)
  | k :: r, os, n, h => by
    rcases List.mem_cons.mp h with e | e
    · subst e
      refine foldl_seen_mem r _ ?_
      simp only [seen]; split
      · assumption
      · exact List.mem_append_right _ (List.mem_singleton.mpr rfl)
    · exact foldl_seen_in r _ e
theorem ords_in {ks : List Kd} {n : Int} (h : Kd.blk n ∈ ks) : n ∈ ords ks := foldl_seen_in ks [] h
theorem rank_old {os : List Int} {n m : Int} (h : m ∈ os) : rank (os ++ [n]) m = rank os m := by
  unfold rank
  rw [if_pos (List.mem_append_left _ h), if_pos h, List.idxOf_append, if_pos h]
theorem rank_new {os : List Int} {n : Int} (h : n ∉ os) : rank (os ++ [n]) n = some (.blk (os.length : Nat)) := by
  unfold rank
  rw [if_pos (List.mem_append_right _ (List.mem_singleton.mpr rfl)), List.idxOf_append, if_neg h]
  simp
theorem rank_other {os : List Int} {n m : Int} (h : m ∉ os) (hn : m ≠ n) : rank (os ++ [n]) m = none := by
  unfold rank
  rw [if_neg]
  intro q
  rcases List.mem_append.mp q with q | q
  · exact h q
  · exact hn (List.mem_singleton.mp q)
theorem rank_none {os : List Int} {n : Int} : rank os n = none ↔ n ∉ os := by
  unfold rank; split <;> simp_all
theorem rank_snoc (os : List Int) (n m : Int) (h : n ∉ os) : rank (os ++ [n]) m = if m = n then some (.blk (os.length : Nat)) else rank os m := by
  by_cases e : m = n
  · subst e; rw [if_pos rfl, rank_new h]
  · rw [if_neg e]
    by_cases q : m ∈ os
    · exact rank_old q
    · rw [rank_other q e, rank_none.mpr q]
theorem rank_ok {os : List Int} {n : Int} {k : Kd} (h : rank os n = some k) : k.ok := by
  unfold rank at h; split at h
  · cases h; exact Int.natCast_nonneg _
  · cases h
theorem rank_size {os : List Int} {n : Int} {k : Kd} (h : rank os n = some k) : k.size = 1 ∧ k.deep = 1 := by
  unfold rank at h; split at h
  · cases h; exact ⟨rfl, rfl⟩
  · cases h
theorem renum_ok {k : Kd} (h : k.ok) : (renum k).ok := Kd.fill_ok (fun _ _ e => rank_ok e) k h
theorem fill_rank_size (os : List Int) : ∀ k : Kd, (k.fill (rank os)).size = k.size ∧ (k.fill (rank os)).deep = k.deep
  | .num => ⟨rfl, rfl⟩
  | .blk n => by
    show ((rank os n).getD (.blk n)).size = 1 ∧ ((rank os n).getD (.blk n)).deep = 1
    cases e : rank os n with
    | none => exact ⟨rfl, rfl⟩
    | some t => exact rank_size e
  | .two f a b => by
    have h1 := fill_rank_size os a
    have h2 := fill_rank_size os b
    simp only [Kd.fill, Kd.size, Kd.deep, h1.1, h1.2, h2.1, h2.2, and_self]

/-! ### one kind as the other with something put in -/
abbrev Phi := Int → Option Kd
def put (φ : Phi) (n : Int) (t : Kd) : Phi := fun m => if m = n then some t else φ m
theorem put_same {φ : Phi} {n : Int} {t : Kd} (h : φ n = some t) : put φ n t = φ := by
  funext m; unfold put; split
  · rename_i e; subst e; exact h.symm
  · rfl
/-- the second parts ahead of the first ones, as both programs go -/
def mt (φ : Phi) : Kd → Kd → Option Phi
  | .blk n, t => match φ n with
    | none => some (put φ n t)
    | some u => if u = t then some φ else none
  | .num, .num => some φ
  | .num, _ => none
  | .two f a b, .two g c d => if f = g then (mt φ b d).bind fun ψ => mt ψ a c else none
  | .two _ _ _, _ => none
def mts (φ : Phi) : List (Kd × Kd) → Option Phi
  | [] => some φ
  | p :: r => (mt φ p.1 p.2).bind fun ψ => mts ψ r
theorem mts_two (φ : Phi) (f : Bool) (a b c d : Kd) (r : List (Kd × Kd)) : mts φ ((.two f a b, .two f c d) :: r) = mts φ ((b, d) :: (a, c) :: r) := by
  simp only [mts, mt, if_true, Option.bind_assoc]
def fit (w k : Kd) : Bool := (mts (fun _ => none) [(w, k)]).isSome
def sizes : List (Kd × Kd) → Nat
  | [] => 0
  | p :: r => p.1.size + sizes r
theorem sizes_length : ∀ ps : List (Kd × Kd), ps.length ≤ sizes ps
  | [] => Nat.le_refl _
  | p :: r => by have := sizes_length r; have := Kd.size_pos p.1; simp only [sizes, List.length_cons]; omega
/-- kinds that are all the same -/
def eqs (ps : List (Kd × Kd)) : Bool := ps.all fun p => decide (p.1 = p.2)
theorem eqs_two (f : Bool) (a b c d : Kd) (r : List (Kd × Kd)) : eqs ((.two f a b, .two f c d) :: r) = eqs ((b, d) :: (a, c) :: r) := by
  simp only [eqs, List.all_cons, Kd.two.injEq, true_and]
  by_cases h1 : a = c <;> by_cases h2 : b = d <;> simp [h1, h2]
end Wk

set_option Elab.async false
set_option maxRecDepth 100000
namespace L2
open PySem PySem.Spec PyProof.Rows Wk

/-! ### heaps: what stays -/
/-- the tuples stay -/
def Tk (H H' : Hp) : Prop := ∀ p xs, H p = some (.tup xs) → H' p = some (.tup xs)
theorem Tk.refl (H : Hp) : Tk H H := fun _ _ h => h
theorem Tk.trans {H H1 H2 : Hp} (a : Tk H H1) (b : Tk H1 H2) : Tk H H2 := fun p xs h => b p xs (a p xs h)
theorem Tk.upd {H : Hp} {p : Addr} {o : HO} (h : ∀ xs, H p ≠ some (.tup xs)) : Tk H (upd H p o) := fun q xs e => by
  have hq : q ≠ p := fun z => h xs (by rw [← z]; exact e)
  rw [upd_ne hq]
  exact e
theorem Tk.new {H : Hp} {p : Addr} {o : HO} (h : H p = none) : Tk H (L2.upd H p o) := .upd fun xs e => by rw [h] at e; cases e
theorem Tk.lst {H : Hp} {p : Addr} {o : HO} {ys : List V} (h : H p = some (.lst ys)) : Tk H (L2.upd H p o) := .upd fun xs e => by rw [h] at e; cases e
theorem Tk.dic {H : Hp} {p : Addr} {o : HO} {ys : List (Key × V)} (h : H p = some (.dK ys)) : Tk H (L2.upd H p o) := .upd fun xs e => by rw [h] at e; cases e
theorem Same.tk {H H' : Hp} (s : Same H H') : Tk H H' := fun p _ h => s p _ h
theorem Same.new {H : Hp} {p : Addr} {o : HO} (h : H p = none) : Same H (L2.upd H p o) := fun b u q => by rw [upd_ne (ne_of_none q h)]; exact q
theorem Same.upd {H H1 : Hp} {p : Addr} {o : HO} (s : Same H H1) (h : H p = none) : Same H (L2.upd H1 p o) := fun b u q => by rw [upd_ne (ne_of_none q h)]; exact s b u q

/-! ### a kind in the heap -/
def tag (f : Bool) : Str := if f then "to" else "pair"
def KAt (H : Hp) : V → Kd → Prop
  | v, .num => ∃ p, v = .ref p ∧ H p = some (.tup [.str "number"])
  | v, .blk n => ∃ p, v = .ref p ∧ H p = some (.tup [.str "blank", .int n])
  | v, .two f a b => ∃ p x y, v = .ref p ∧ H p = some (.tup [.str (tag f), x, y]) ∧ KAt H x a ∧ KAt H y b
theorem KAt.mono {H H' : Hp} (t : Tk H H') : ∀ {k : Kd} {v : V}, KAt H v k → KAt H' v k
  | .num, _, ⟨p, e, h⟩ => ⟨p, e, t p _ h⟩
  | .blk _, _, ⟨p, e, h⟩ => ⟨p, e, t p _ h⟩
  | .two _ _ _, _, ⟨p, x, y, e, h, ha, hb⟩ => ⟨p, x, y, e, t p _ h, KAt.mono t ha, KAt.mono t hb⟩
theorem tag_inj {f g : Bool} (h : tag f = tag g) : f = g := by
  cases f <;> cases g <;> first | rfl | (exact absurd h (by decide))
theorem tag_num (f : Bool) : tag f ≠ "number" := by cases f <;> decide
theorem tag_blk (f : Bool) : tag f ≠ "blank" := by cases f <;> decide
theorem KAt.inj {H : Hp} : ∀ {k k' : Kd} {v : V}, KAt H v k → KAt H v k' → k = k'
  | .num, .num, _, _, _ => rfl
  | .num, .blk _, _, ⟨p, e, h⟩, ⟨p', e', h'⟩ => by cases e; cases e'; rw [h] at h'; cases h'
  | .num, .two f _ _, _, ⟨p, e, h⟩, ⟨p', _, _, e', h', _⟩ => by cases e; cases e'; rw [h] at h'; simp at h'
  | .blk _, .num, _, ⟨p, e, h⟩, ⟨p', e', h'⟩ => by cases e; cases e'; rw [h] at h'; cases h'
  | .blk _, .blk _, _, ⟨p, e, h⟩, ⟨p', e', h'⟩ => by cases e; cases e'; rw [h] at h'; cases h'; rfl
  | .blk _, .two f _ _, _, ⟨p, e, h⟩, ⟨p', _, _, e', h', _⟩ => by cases e; cases e'; rw [h] at h'; simp at h'
  | .two _ _ _, .num, _, ⟨p, _, _, e, h, _⟩, ⟨p', e', h'⟩ => by cases e; cases e'; rw [h] at h'; simp at h'
  | .two _ _ _, .blk _, _, ⟨p, _, _, e, h, _⟩, ⟨p', e', h'⟩ => by cases e; cases e'; rw [h] at h'; simp at h'
  | .two f a b, .two g c d, _, ⟨p, x, y, e, h, ha, hb⟩, ⟨p', x', y', e', h', hc, hd⟩ => by
    cases e; cases e'
    rw [h] at h'
    have h2 := Option.some.inj h'
    injection h2 with h2
    injection h2 with h3 h4
    injection h3 with h3
    injection h4 with h4 h5
    injection h5 with h5
    rw [tag_inj h3]
    subst h4 h5
    rw [KAt.inj ha hc, KAt.inj hb hd]
/-- the tuple of a kind -/
theorem KAt.ref {H : Hp} {v : V} {k : Kd} (h : KAt H v k) : ∃ p xs, v = .ref p ∧ H p = some (.tup xs) := by
  cases k with
  | num => obtain ⟨p, e, q⟩ := h; exact ⟨p, _, e, q⟩
  | blk n => obtain ⟨p, e, q⟩ := h; exact ⟨p, _, e, q⟩
  | two f a b => obtain ⟨p, x, y, e, q, _⟩ := h; exact ⟨p, _, e, q⟩
abbrev Ks (H : Hp) : List V → List Kd → Prop := Paired (KAt H)
theorem Ks.mono {H H' : Hp} (t : Tk H H') {vs : List V} {ks : List Kd} (h : Ks H vs ks) : Ks H' vs ks := Paired.imp' (fun _ _ q => q.mono t) h
theorem paired_app {α β : Type} {F : α → β → Prop} : ∀ {a : List α} {b : List β} {c : List α} {d : List β}, Paired F a b → Paired F c d → Paired F (a ++ c) (b ++ d)
  | _, _, _, _, .nil, h => h
  | _, _, _, _, .cons x r, h => .cons x (paired_app r h)
theorem paired_snoc_inv {α β : Type} {F : α → β → Prop} : ∀ {a : List α} {b : List β} {y : β}, Paired F a (b ++ [y]) → ∃ a' x, a = a' ++ [x] ∧ Paired F a' b ∧ F x y
  | _, [], y, .cons h .nil => ⟨[], _, rfl, .nil, h⟩
  | _, b :: bs, y, .cons h r => by
    obtain ⟨a', x, e, p, q⟩ := paired_snoc_inv r
    subst e
    exact ⟨_ :: a', x, rfl, .cons h p, q⟩
theorem paired_get {α β : Type} {F : α → β → Prop} : ∀ {a : List α} {b : List β} {i : Nat} {x : α}, Paired F a b → a[i]? = some x → ∃ y, b[i]? = some y ∧ F x y
  | _, _, _, _, .nil, h => by simp at h
  | _, _, 0, x, .cons (b := y) h r, e => by
    simp at e
    exact ⟨y, rfl, e ▸ h⟩
  | _, _, i + 1, x, .cons h r, e => paired_get (i := i) r e

/-! ### == of two kinds -/
section
variable {A : Around} {s : Shared} {H : Hp} {P : Program} {w : World}
theorem tup_at (hok : HOk P w H s.heap) {p : Addr} {xs : List V} (h : H p = some (.tup xs)) : ∃ its : List Value, Vals xs its ∧ s.heap.IsTuple p its.toArray := by
  obtain ⟨_, its, r, q⟩ := (show ObjOk P w H s.heap p (.tup xs) from hok p _ h)
  exact ⟨its, r, q⟩
theorem rc_tups (hok : HOk P w H s.heap) {p q : Addr} {xs ys : List V} (e : Nat → Bool) (hp : H p = some (.tup xs)) (hq : H q = some (.tup ys)) (hu : A.units < cLine)
    (he : ∀ (j : Nat) (x y : V) (u v : Value), xs[j]? = some x → ys[j]? = some y → RelV x u → RelV y v → SeqAt.EqAt A.in1 s u v (e j)) :
    SeqAt.RcAt A s (.ref p) (.ref q) ((List.range (min xs.length ys.length)).all e && xs.length == ys.length) ∧ SeqAt.RcNeAt A s (.ref p) (.ref q) (!((List.range (min xs.length ys.length)).all e && xs.length == ys.length)) := by
  obtain ⟨us, ru, tu⟩ := tup_at hok hp
  obtain ⟨vs, rv, tv⟩ := tup_at hok hq
  have e1 : us.toArray.size = xs.length := by rw [List.size_toArray, ru.length]
  have e2 : vs.toArray.size = ys.length := by rw [List.size_toArray, rv.length]
  have he' : ∀ j (h1 : j < us.toArray.size) (h2 : j < vs.toArray.size), SeqAt.EqAt A.in1 s us.toArray[j] vs.toArray[j] (e j) := fun j h1 h2 => by
    have a1 : j < xs.length := by omega
    have a2 : j < ys.length := by omega
    obtain ⟨u, hu', ru'⟩ := ru.get (List.getElem?_eq_getElem a1)
    obtain ⟨v, hv', rv'⟩ := rv.get (List.getElem?_eq_getElem a2)
    have b1 : us.toArray[j] = u := by
      have : us[j]? = some us.toArray[j] := by simp [List.getElem?_eq_getElem (by simpa using h1)]
      rw [hu'] at this; exact (Option.some.inj this).symm
    have b2 : vs.toArray[j] = v := by
      have : vs[j]? = some vs.toArray[j] := by simp [List.getElem?_eq_getElem (by simpa using h2)]
      rw [hv'] at this; exact (Option.some.inj this).symm
    rw [b1, b2]
    exact he j _ _ u v (List.getElem?_eq_getElem a1) (List.getElem?_eq_getElem a2) ru' rv'
  have r1 := SeqAt.RcAt.tuples tu tv hu he'
  have r2 := SeqAt.RcNeAt.tuples tu tv hu he'
  rw [e1, e2] at r1 r2
  exact ⟨r1, r2⟩
theorem eqAt_str {a b : Str} {u v : Value} (ru : RelV (.str a) u) (rv : RelV (.str b) v) : SeqAt.EqAt A s u v (decide (a = b)) := by
  have h := eqAt_V (A := A) (s := s) ru rv rfl rfl
  have e : eqV (.str a) (.str b) = decide (a = b) := by
    show (a == b) = _
    by_cases q : a = b
    · subst q; simp
    · rw [decide_eq_false q]; simpa using q
  rw [e] at h
  exact h
theorem eqAt_int {a b : Int} {u v : Value} (ru : RelV (.int a) u) (rv : RelV (.int b) v) : SeqAt.EqAt A s u v (decide (a = b)) := by
  have h := eqAt_V (A := A) (s := s) ru rv rfl rfl
  have e : eqV (.int a) (.int b) = decide (a = b) := by
    show (a == b) = _
    by_cases q : a = b
    · subst q; simp
    · rw [decide_eq_false q]; simpa using q
  rw [e] at h
  exact h
end
section
variable {s : Shared} {H : Hp} {P : Program} {w : World}
/-- the answers of the items, from the left -/
def itemsEq : Kd → Kd → Nat → Bool
  | .num, .num, _ => true
  | .blk n, .blk m, 1 => decide (n = m)
  | .blk _, .blk _, _ => true
  | .two f _ _, .two g _ _, 0 => decide (f = g)
  | .two _ a _, .two _ c _, 1 => decide (a = c)
  | .two _ _ b, .two _ _ d, _ => decide (b = d)
  | _, _, _ => false
theorem kd_rc (hok : HOk P w H s.heap) : ∀ (k k' : Kd) {A : Around} {p q : Addr}, KAt H (.ref p) k → KAt H (.ref q) k' → A.units + k.deep < cLine →
    SeqAt.RcAt A s (.ref p) (.ref q) (decide (k = k')) ∧ SeqAt.RcNeAt A s (.ref p) (.ref q) (!decide (k = k'))
  | .num, .num, A, p, q, ⟨p1, e, h⟩, ⟨q1, e', h'⟩, hu => by
    cases e; cases e'
    have r := rc_tups (A := A) hok (fun _ => true) h h' (by omega) (fun j x y u v h1 h2 ru rv => by
      match j, h1, h2 with
      | 0, h1, h2 =>
        cases (Option.some.inj h1); cases (Option.some.inj h2)
        exact eqAt_str ru rv)
    simpa using r
  | .num, .blk n, A, p, q, ⟨p1, e, h⟩, ⟨q1, e', h'⟩, hu => by
    cases e; cases e'
    have r := rc_tups (A := A) hok (fun _ => false) h h' (by omega) (fun j x y u v h1 h2 ru rv => by
      match j, h1, h2 with
      | 0, h1, h2 =>
        cases (Option.some.inj h1); cases (Option.some.inj h2)
        exact eqAt_str ru rv)
    simpa using r
  | .num, .two f a b, A, p, q, ⟨p1, e, h⟩, ⟨q1, x1, y1, e', h', _⟩, hu => by
    cases e; cases e'
    have r := rc_tups (A := A) hok (fun _ => false) h h' (by omega) (fun j x y u v h1 h2 ru rv => by
      match j, h1, h2 with
      | 0, h1, h2 =>
        cases (Option.some.inj h1); cases (Option.some.inj h2)
        have := eqAt_str (A := A.in1) (s := s) ru rv
        rwa [decide_eq_false (fun z => tag_num f z.symm)] at this)
    simpa using r
  | .blk n, .num, A, p, q, ⟨p1, e, h⟩, ⟨q1, e', h'⟩, hu => by
    cases e; cases e'
    have r := rc_tups (A := A) hok (fun _ => false) h h' (by omega) (fun j x y u v h1 h2 ru rv => by
      match j, h1, h2 with
      | 0, h1, h2 =>
        cases (Option.some.inj h1); cases (Option.some.inj h2)
        exact eqAt_str ru rv)
    simpa using r
  | .blk n, .blk m, A, p, q, ⟨p1, e, h⟩, ⟨q1, e', h'⟩, hu => by
    cases e; cases e'
    have r := rc_tups (A := A) hok (fun j => if j = 1 then decide (n = m) else true) h h' (by omega) (fun j x y u v h1 h2 ru rv => by
      match j, h1, h2 with
      | 0, h1, h2 =>
        cases (Option.some.inj h1); cases (Option.some.inj h2)
        exact eqAt_str ru rv
      | 1, h1, h2 =>
        cases (Option.some.inj h1); cases (Option.some.inj h2)
        exact eqAt_int ru rv)
    simpa [List.range_succ] using r
  | .blk n, .two f a b, A, p, q, ⟨p1, e, h⟩, ⟨q1, x1, y1, e', h', ha, hb⟩, hu => by
    cases e; cases e'
    have r := rc_tups (A := A) hok (fun j => false) h h' (by omega) (fun j x y u v h1 h2 ru rv => by
      match j, h1, h2 with
      | 0, h1, h2 =>
        cases (Option.some.inj h1); cases (Option.some.inj h2)
        have := eqAt_str (A := A.in1) (s := s) ru rv
        rwa [decide_eq_false (fun z => tag_blk f z.symm)] at this
      | 1, h1, h2 =>
        cases (Option.some.inj h1); cases (Option.some.inj h2)
        obtain ⟨px, xs, rfl, hx⟩ := ha.ref
        obtain ⟨t, rfl⟩ := ru
        cases rv
        obtain ⟨its, _, ht⟩ := tup_at hok hx
        exact SeqAt.EqAt.int_tuple _ _ ht (by simp only [Kd.deep] at hu ⊢; omega))
    simpa using r
  | .two f a b, .num, A, p, q, ⟨p1, x1, y1, e, h, _⟩, ⟨q1, e', h'⟩, hu => by
    cases e; cases e'
    have r := rc_tups (A := A) hok (fun _ => false) h h' (by omega) (fun j x y u v h1 h2 ru rv => by
      match j, h1, h2 with
      | 0, h1, h2 =>
        cases (Option.some.inj h1); cases (Option.some.inj h2)
        have := eqAt_str (A := A.in1) (s := s) ru rv
        rwa [decide_eq_false (tag_num f)] at this)
    simpa using r
  | .two f a b, .blk m, A, p, q, ⟨p1, x1, y1, e, h, ha, hb⟩, ⟨q1, e', h'⟩, hu => by
    cases e; cases e'
    have r := rc_tups (A := A) hok (fun j => false) h h' (by omega) (fun j x y u v h1 h2 ru rv => by
      match j, h1, h2 with
      | 0, h1, h2 =>
        cases (Option.some.inj h1); cases (Option.some.inj h2)
        have := eqAt_str (A := A.in1) (s := s) ru rv
        rwa [decide_eq_false (tag_blk f)] at this
      | 1, h1, h2 =>
        cases (Option.some.inj h1); cases (Option.some.inj h2)
        obtain ⟨px, xs, rfl, hx⟩ := ha.ref
        obtain ⟨t, rfl⟩ := rv
        cases ru
        obtain ⟨its, _, ht⟩ := tup_at hok hx
        exact SeqAt.EqAt.tuple_int _ _ ht (by simp only [Kd.deep] at hu ⊢; omega))
    simpa using r
  | .two f a b, .two g c d, A, p, q, ⟨p1, x1, y1, e, h, ha, hb⟩, ⟨q1, x2, y2, e', h', hc, hd⟩, hu => by
    cases e; cases e'
    have sub : ∀ (k k' : Kd) {x y : V} {u v : Value}, KAt H x k → KAt H y k' → RelV x u → RelV y v → A.in1.units + k.deep < cLine → (∀ {p q : Addr}, KAt H (.ref p) k → KAt H (.ref q) k' → A.in1.units + k.deep < cLine → SeqAt.RcAt A.in1 s (.ref p) (.ref q) (decide (k = k'))) → SeqAt.EqAt A.in1 s u v (decide (k = k')) := by
      intro k k' x y u v h1 h2 ru rv hu' ih
      obtain ⟨p2, xs, rfl, _⟩ := h1.ref
      obtain ⟨q2, ys, rfl, _⟩ := h2.ref
      cases ru; cases rv
      by_cases z : p2 = q2
      · subst z
        rw [decide_eq_true (h1.inj h2)]
        exact SeqAt.EqAt.same _
      · exact SeqAt.EqAt.of_refs z (ih h1 h2 hu')
    have ua : A.in1.units + a.deep < cLine := by simp only [Kd.deep] at hu ⊢; omega
    have ub : A.in1.units + b.deep < cLine := by simp only [Kd.deep] at hu ⊢; omega
    have r := rc_tups (A := A) hok (fun j => if j = 0 then decide (f = g) else if j = 1 then decide (a = c) else decide (b = d)) h h' (by omega) (fun j x y u v h1 h2 ru rv => by
      match j, h1, h2 with
      | 0, h1, h2 =>
        cases (Option.some.inj h1); cases (Option.some.inj h2)
        have := eqAt_str (A := A.in1) (s := s) ru rv
        by_cases z : f = g
        · subst z; simpa using this
        · rw [decide_eq_false (fun z' => z (tag_inj z'))] at this
          simpa [z] using this
      | 1, h1, h2 =>
        cases (Option.some.inj h1); cases (Option.some.inj h2)
        exact sub a c ha hc ru rv ua fun {p q} h1 h2 h3 => (kd_rc hok a c h1 h2 h3).1
      | 2, h1, h2 =>
        cases (Option.some.inj h1); cases (Option.some.inj h2)
        exact sub b d hb hd ru rv ub fun {p q} h1 h2 h3 => (kd_rc hok b d h1 h2 h3).1)
    have e : ((List.range (min [V.str (tag f), x1, y1].length [V.str (tag g), x2, y2].length)).all (fun j => if j = 0 then decide (f = g) else if j = 1 then decide (a = c) else decide (b = d)) && [V.str (tag f), x1, y1].length == [V.str (tag g), x2, y2].length) = decide (Kd.two f a b = Kd.two g c d) := by
      by_cases z1 : f = g <;> by_cases z2 : a = c <;> by_cases z3 : b = d <;> simp [List.range_succ, z1, z2, z3]
    rw [e] at r
    exact r
end
section
variable {X : Cx}
/-- != of two kinds -/
def rNeK : R2 := fun x y H Q => ∃ k k', KAt H x k ∧ KAt H y k' ∧ k.deep ≤ 3000 ∧ Q (.bl (!decide (k = k'))) H
theorem op_neK (hu : X.A.units + 3000 < cLine) : OpR X (compareOp .NotEq) rNeK := by
  intro pins s σ H x y v u Q I rx ry h
  obtain ⟨k, k', h1, h2, hd, q⟩ := h
  obtain ⟨p, xs, rfl, _⟩ := h1.ref
  obtain ⟨p', ys, rfl, _⟩ := h2.ref
  cases rx; cases ry
  exact (kd_rc I.hok k k' h1 h2 (by omega)).2 _ _ _ _ ⟨.bl _, H, I, rfl, q⟩
end
end L2

set_option Elab.async false
set_option maxRecDepth 100000
namespace L2
open PySem PySem.Spec PyProof.Rows Wk
/-! ### a kind's tuple: its word, what is behind it -/
def hdS : Kd → Str
  | .num => "number"
  | .blk _ => "blank"
  | .two f _ _ => tag f
def Rest (H : Hp) : Kd → List V → Prop
  | .num, xs => xs = []
  | .blk n, xs => xs = [.int n]
  | .two _ a b, xs => ∃ x y, xs = [x, y] ∧ KAt H x a ∧ KAt H y b
theorem KAt.shape {H : Hp} {v : V} {k : Kd} (h : KAt H v k) : ∃ p xs, v = .ref p ∧ H p = some (.tup (.str (hdS k) :: xs)) ∧ Rest H k xs := by
  cases k with
  | num => obtain ⟨p, e, q⟩ := h; exact ⟨p, [], e, q, rfl⟩
  | blk n => obtain ⟨p, e, q⟩ := h; exact ⟨p, _, e, q, rfl⟩
  | two f a b => obtain ⟨p, x, y, e, q, h1, h2⟩ := h; exact ⟨p, [x, y], e, q, x, y, rfl, h1, h2⟩
theorem Rest.mono {H H' : Hp} (t : Tk H H') {k : Kd} {xs : List V} (h : Rest H k xs) : Rest H' k xs := by
  cases k with
  | num => exact h
  | blk n => exact h
  | two f a b => obtain ⟨x, y, e, h1, h2⟩ := h; exact ⟨x, y, e, h1.mono t, h2.mono t⟩
theorem hdS_blank {k : Kd} : hdS k = "blank" ↔ ∃ n, k = .blk n := by
  cases k with
  | num => exact ⟨fun h => absurd h (by decide), fun ⟨n, h⟩ => by cases h⟩
  | blk n => exact ⟨fun _ => ⟨n, rfl⟩, fun _ => rfl⟩
  | two f a b => exact ⟨fun h => absurd h (tag_blk f), fun ⟨n, h⟩ => by cases h⟩
/-- two kinds with one word -/
theorem hdS_same {a b : Kd} (h : hdS a = hdS b) : (a = .num ∧ b = .num) ∨ (∃ n m, a = .blk n ∧ b = .blk m) ∨ ∃ f c d e g, a = .two f c d ∧ b = .two f e g := by
  cases a with
  | num =>
    cases b with
    | num => exact .inl ⟨rfl, rfl⟩
    | blk m => exact absurd (show ("number" : Str) = "blank" from h) (by decide)
    | two g c d => exact absurd h.symm (tag_num g)
  | blk n =>
    cases b with
    | num => exact absurd (show ("blank" : Str) = "number" from h) (by decide)
    | blk m => exact .inr (.inl ⟨n, m, rfl, rfl⟩)
    | two g c d => exact absurd h.symm (tag_blk g)
  | two f c d =>
    cases b with
    | num => exact absurd h (tag_num f)
    | blk m => exact absurd h (tag_blk f)
    | two g e g' =>
      have := tag_inj h
      subst this
      exact .inr (.inr ⟨f, c, d, e, g', rfl, rfl⟩)
theorem rest_length {H : Hp} {k : Kd} {xs : List V} (h : Rest H k xs) : (xs.length = 2) = (∃ f a b, k = .two f a b) := by
  cases k with
  | num => subst h; simp
  | blk n => subst h; simp
  | two f a b => obtain ⟨x, y, rfl, _⟩ := h; simp

/-! ### a pair of kinds -/
def PAt (H : Hp) (v : V) (p : Kd × Kd) : Prop := ∃ a x y, v = .ref a ∧ H a = some (.tup [x, y]) ∧ KAt H x p.1 ∧ KAt H y p.2
theorem PAt.mono {H H' : Hp} (t : Tk H H') {v : V} {p : Kd × Kd} (h : PAt H v p) : PAt H' v p :=
  let ⟨a, x, y, e, q, h1, h2⟩ := h; ⟨a, x, y, e, t _ _ q, h1.mono t, h2.mono t⟩
abbrev Ps (H : Hp) : List V → List (Kd × Kd) → Prop := Paired (PAt H)
theorem Ps.mono {H H' : Hp} (t : Tk H H') {vs : List V} {ks : List (Kd × Kd)} (h : Ps H vs ks) : Ps H' vs ks := Paired.imp' (fun _ _ q => q.mono t) h
theorem while_n {c : TT} {tb : TS} {D : Ends} {σ : St} {H : Hp} (W : Nat → St → Hp → Prop) (m : Nat) (h0 : W m σ H)
    (hs : ∀ m σ H, W m σ H → c σ H fun b H1 => if b = true then ∃ N : St → Hp → Prop, (∀ σ' H', N σ' H' → ∃ m', m' < m ∧ W m' σ' H') ∧ tb { D with nx := N, ct := N, bk := D.nx } σ H1 else D.nx σ H1) : tWhile c tb D σ H := ⟨W, ⟨m, h0⟩, hs⟩
theorem lt_line {n : Nat} (h : n ≤ 1000000) : n < sizeLine := Nat.lt_of_le_of_lt h (by decide)
theorem le_line {n : Nat} (h : n ≤ 1000000) : n ≤ sizeLine := Nat.le_of_lt (lt_line h)
end L2
namespace L2
open PySem PySem.Spec PyProof.Rows Wk
/-! ### a dict from blanks to kinds -/
def DAt (H : Hp) (kvs : List (Key × V)) (φ : Phi) : Prop := ∀ n : Int, (valV kvs (Sum.inl n) = none ∧ φ n = none) ∨ ∃ v t, valV kvs (Sum.inl n) = some v ∧ φ n = some t ∧ KAt H v t
theorem DAt.mono {H H' : Hp} (t : Tk H H') {kvs : List (Key × V)} {φ : Phi} (h : DAt H kvs φ) : DAt H' kvs φ := fun n => (h n).imp id fun ⟨v, k, a, b, c⟩ => ⟨v, k, a, b, c.mono t⟩
theorem DAt.nil (H : Hp) : DAt H [] (fun _ => none) := fun _ => .inl ⟨rfl, rfl⟩
theorem DAt.put {H : Hp} {kvs : List (Key × V)} {φ : Phi} (h : DAt H kvs φ) (n : Int) {v : V} {t : Kd} (hv : KAt H v t) : DAt H (putK kvs (Sum.inl n) v) (Wk.put φ n t) := fun m => by
  by_cases e : m = n
  · subst e
    refine .inr ⟨v, t, ?_, ?_, hv⟩
    · rw [valV_put, if_pos rfl]
    · simp [Wk.put]
  · have e1 : valV (putK kvs (Sum.inl n) v) (Sum.inl m) = valV kvs (Sum.inl m) := by
      rw [valV_put, if_neg (fun z => e (Sum.inl.inj z))]
    have e2 : Wk.put φ n t m = φ m := by simp [Wk.put, e]
    rw [e1, e2]
    exact h m
end L2
namespace L2
open PySem PySem.Spec PyProof.Rows Wk
def isTwo : Kd → Bool
  | .two _ _ _ => true
  | _ => false
theorem inV_hd (k : Kd) : inV (.str (hdS k)) [.str "pair", .str "to"] = isTwo k := by
  cases k with
  | num => decide +kernel
  | blk n => show inV (.str "blank") [.str "pair", .str "to"] = false; decide +kernel
  | two f a b => cases f
                 · show inV (.str "pair") [.str "pair", .str "to"] = true; decide +kernel
                 · show inV (.str "to") [.str "pair", .str "to"] = true; decide +kernel
end L2

set_option Elab.async false
set_option maxRecDepth 100000
namespace K1
open PySem L2 Wk
def top (i : Nat) : Stmt := PySem.Challenge.pw_widekind_k01_kinds_of_kinds.main.body.getD i (.Pass ⟨0, 0, 0, 0⟩)
abbrev sParts : Stmt := top 2
abbrev sBuilt : Stmt := top 3
abbrev sNumbered : Stmt := top 4
abbrev sInit : Stmt := inClass (top 6) 0
abbrev sAdded : Stmt := inClass (top 6) 1
abbrev sLaid : Stmt := inClass (top 6) 2
abbrev sLaidPart : Stmt := inClass (top 6) 3
abbrev sBecomes : Stmt := inClass (top 6) 16
abbrev sFits : Stmt := top 8
abbrev sWhole : Stmt := top 10
abbrev sKindBy : Stmt := top 11
abbrev sInside : Stmt := top 12
abbrev sFilled : Stmt := top 13
abbrev sCounted : Stmt := top 14
abbrev sIsKind : Stmt := top 15
abbrev sInstance : Stmt := top 16
abbrev sAny : Stmt := top 17
abbrev sLaw : Stmt := top 18
end K1

set_option Elab.async false
set_option maxRecDepth 100000
namespace K1
open PySem L2 Wk
section
variable {P : Program} {w : World} {K : PySem.W.Frag} {mg : Str → Option Value} {base : Heap} {f : Addr} {fd : FuncData}

/-! ### parts -/
def spParts : Sp := fun vs H Q _ => ∃ v k, vs = [v] ∧ KAt H v k ∧ k.size ≤ 100000 ∧ ∀ r ws H', Same H H' → H r = none → H' r = some (.lst ws) → Ks H' ws k.parts → Q (.ref r) H'
theorem scParts : FnScope ["kind", "order", "waiting", "part"] ["kind"] (defScope sParts) := ⟨rfl, rfl, rfl, by decide +kernel, rfl, by decide +kernel, by decide +kernel⟩
theorem ok_parts (F : Fun K "parts" "parts" sParts f fd) (ml : mg "len" = none) : FnOk P w K mg base CX0 1 f fd ["kind"] spParts := by
  refine F.ok scParts (fun vs H Q E h => ?_) (fun cdv A outer s H vs Q E hr h => ?_)
  · obtain ⟨v, k, rfl, _⟩ := h
    rfl
  obtain ⟨v, k, rfl, hk, hB, q⟩ := h
  have nd := scParts.nd
  refine ⟨_, pss_cons (ps_set (i := 1) nd rfl (Or.inl rfl) (pe_lst pa_nil))
    (pss_cons (ps_set (i := 2) nd rfl (Or.inl rfl) (pe_lst (pa_cons (pv 0) pa_nil)))
    (pss_cons (ps_while PassesOwn.never (pt_truth (pv 2) (fun _ => rfl))
      (pss_cons (ps_set (i := 3) nd rfl (Or.inl rfl) (pe_bm0 PySem.F.plainAttrs_list PySem.F.slot_list_pop PySem.F.type_list_pop mt_pop (pv 2)))
      (pss_cons (ps_expr (pe_bm PySem.F.plainAttrs_list PySem.F.slot_list_append PySem.F.type_list_append mt_append (pv 1) (pa_cons (pv 3) pa_nil)))
      (pss_one (ps_if (pt_cmpR op_eq (pe_callB call_len_seq rfl ml PySem.boot_len (pa_cons (pv 3) pa_nil)) pe_int (nomark _))
        (pss_cons (ps_expr (pe_bm PySem.F.plainAttrs_list PySem.F.slot_list_append PySem.F.type_list_append mt_append (pv 2) (pa_cons (pe_ix ix_tup (pv 3) pe_int (fun _ _ => rfl)) pa_nil)))
          (pss_one (ps_expr (pe_bm PySem.F.plainAttrs_list PySem.F.slot_list_append PySem.F.type_list_append mt_append (pv 2) (pa_cons (pe_ix ix_tup (pv 3) pe_int (fun _ _ => rfl)) pa_nil)))))
        pss_nil)))))
    (pss_one (ps_ret (pv 1))))), ?_⟩
  refine ⟨Nat.zero_le _, fun lo hlo => ?_⟩
  refine ⟨_, rfl, (by show 1 ≤ sizeLine; decide), fun lw hlw => ?_⟩
  have hwl : lw ≠ lo := fun z => by rw [z, upd_same] at hlw; cases hlw
  have hlw0 : H lw = none := by rw [upd_ne hwl] at hlw; exact hlw
  have hps : k.parts.length ≤ 100000 := by rw [Kd.parts_length]; exact hB
  refine ⟨(fun m σ H1 => ∃ p os ws i, σ = [some v, some (.ref lo), some (.ref lw), p] ∧ m = k.parts.length - i ∧ Same H H1 ∧ H1 lo = some (.lst os) ∧ H1 lw = some (.lst ws) ∧ Ks H1 os (k.parts.take i) ∧ Ks H1 ws (dfs [k] i).reverse),
    ⟨k.parts.length, none, [], [v], 0, rfl, rfl, (Same.new hlo).upd hlw0, ?_, upd_same, .nil, .cons ?_ .nil⟩, ?_⟩
  · rw [upd_ne hwl.symm, upd_same]
  · exact hk.mono (Same.tk ((Same.new hlo).upd hlw0))
  rintro m σ H1 ⟨p, os, ws, i, rfl, rfl, hS, hO, hW, kO, kW⟩
  have hlen : os.length ≤ 100000 := by rw [Paired.length kO, List.length_take]; omega
  have hlenW : ws.length ≤ 100000 := by
    rw [Paired.length kW, List.length_reverse]
    have := dfs_length [k] i
    rw [flat_one] at this; omega
  refine ⟨_, rfl, !ws.isEmpty, .inl ⟨ws, SqL.of hW, rfl⟩, ?_⟩
  cases hd : dfs [k] i with
  | nil =>
    rw [hd] at kW
    cases kW
    refine iteF ⟨_, rfl, q lo os H1 hS hlo hO ?_⟩
    have := dfs_nil hd
    rw [flat_one] at this
    rwa [List.take_of_length_le this] at kO
  | cons t r =>
    rw [hd, List.reverse_cons] at kW
    obtain ⟨ws', x, rfl, kW', kx⟩ := paired_snoc_inv kW
    have hget : k.parts[i]? = some t := by
      have h1 := dfs_flat [k] i
      rw [flat_one, hd, flat_cons] at h1
      have h2 : (k.parts.drop i)[0]? = some t := by rw [← h1]; rfl
      rwa [List.getElem?_drop] at h2
    have hi : i < k.parts.length := by
      have := List.getElem?_eq_some_iff.mp hget
      exact this.1
    have he : (!(ws' ++ [x]).isEmpty) = true := by simp
    rw [if_pos he]
    refine ⟨_, fun _ _ z => z, ?_⟩
    refine ⟨_, rfl, .inl ⟨rfl, _, SqL.of hW⟩, lw, ws' ++ [x], x, rfl, rfl, hW, by simp, ?_⟩
    rw [List.dropLast_concat]
    have tk1 : Tk H1 (upd H1 lw (.lst ws')) := Tk.lst hW
    have hO1 : upd H1 lw (.lst ws') lo = some (.lst os) := by rw [upd_ne hwl.symm]; exact hO
    refine ⟨_, rfl, .inl ⟨rfl, _, SqL.of hO1⟩, _, rfl, lo, os, x, rfl, rfl, hO1, lt_line (by omega), ?_⟩
    have tk2 : Tk (upd H1 lw (.lst ws')) (upd (upd H1 lw (.lst ws')) lo (.lst (os ++ [x]))) := Tk.lst hO1
    have S2 : Same H (upd (upd H1 lw (.lst ws')) lo (.lst (os ++ [x]))) := (hS.upd hlw0).upd hlo
    have kx2 := kx.mono (tk1.trans tk2)
    have kO2 : Ks (upd (upd H1 lw (.lst ws')) lo (.lst (os ++ [x]))) (os ++ [x]) (k.parts.take (i + 1)) := by
      rw [List.take_add_one, hget]
      exact paired_app (kO.mono (tk1.trans tk2)) (.cons kx2 .nil)
    have kW2 := Ks.mono (tk1.trans tk2) kW'
    have hW2 : upd (upd H1 lw (.lst ws')) lo (.lst (os ++ [x])) lw = some (.lst ws') := by rw [upd_ne hwl, upd_same]
    have hl' : ws'.length + 1 ≤ 100000 := by rw [List.length_append] at hlenW; exact hlenW
    have hO2 : upd (upd H1 lw (.lst ws')) lo (.lst (os ++ [x])) lo = some (.lst (os ++ [x])) := upd_same
    generalize hH2 : upd (upd H1 lw (.lst ws')) lo (.lst (os ++ [x])) = H2 at S2 kx2 kO2 kW2 hW2 hO2 ⊢
    cases t with
    | num =>
      obtain ⟨px, rfl, hx⟩ := kx2
      refine ⟨_, rfl, px, _, rfl, .inr (SqT.of hx), rfl, _, rfl, ?_⟩
      refine ite2 (fun z => absurd z (by simp)) fun _ => ?_
      exact ⟨k.parts.length - (i + 1), by omega, _, _, ws', i + 1, rfl, rfl, S2, hO2, hW2, kO2, by rw [dfs_step hd]; exact kW2⟩
    | blk n =>
      obtain ⟨px, rfl, hx⟩ := kx2
      refine ⟨_, rfl, px, _, rfl, .inr (SqT.of hx), rfl, _, rfl, ?_⟩
      refine ite2 (fun z => absurd z (by simp)) fun _ => ?_
      exact ⟨k.parts.length - (i + 1), by omega, _, _, ws', i + 1, rfl, rfl, S2, hO2, hW2, kO2, by rw [dfs_step hd]; exact kW2⟩
    | two g a b =>
      obtain ⟨px, xa, xb, rfl, hx, ka, kb⟩ := kx2
      refine ⟨_, rfl, px, _, rfl, .inr (SqT.of hx), rfl, _, rfl, ?_⟩
      refine ite2 (fun _ => ?_) fun z => absurd (by simp) z
      refine ⟨_, rfl, .inl ⟨rfl, _, SqL.of hW2⟩, _, rfl, px, _, 2, xb, rfl, rfl, SqT.of hx, atI_nat (j := 2) rfl, lw, ws', xb, rfl, rfl, hW2, lt_line (by omega), ?_⟩
      have hx3 : upd H2 lw (.lst (ws' ++ [xb])) px = some (.tup [.str (tag g), xa, xb]) := Tk.lst hW2 _ _ hx
      refine ⟨_, rfl, .inl ⟨rfl, _, SqL.of upd_same⟩, _, rfl, px, _, 1, xa, rfl, rfl, SqT.of hx3, atI_nat (j := 1) rfl, lw, ws' ++ [xb], xa, rfl, rfl, upd_same, lt_line (by rw [List.length_append]; simp; omega), ?_⟩
      rw [upd_upd]
      have tk3 : Tk H2 (upd H2 lw (.lst (ws' ++ [xb] ++ [xa]))) := Tk.lst hW2
      refine ⟨k.parts.length - (i + 1), by omega, _, _, ws' ++ [xb] ++ [xa], i + 1, rfl, rfl, S2.upd hlw0, by rw [upd_ne hwl.symm]; exact hO2, upd_same, kO2.mono tk3, ?_⟩
      rw [dfs_step hd]
      show Ks _ _ (a :: b :: r).reverse
      rw [List.reverse_cons, List.reverse_cons]
      exact paired_app (paired_app (kW2.mono tk3) (.cons (kb.mono tk3) .nil)) (.cons (ka.mono tk3) .nil)
end
end K1

set_option Elab.async false
set_option maxRecDepth 100000
namespace K1
open PySem L2 Wk
section
variable {P : Program} {w : World} {K : PySem.W.Frag} {mg : Str → Option Value} {base : Heap} {f g : Addr} {fd gd : FuncData}
/-! ### _law_inside -/
theorem scInside : FnScope ["_law_kind", "_law_row", "_law_todo", "_law_part"] ["_law_kind"] (defScope sInside) := ⟨rfl, rfl, rfl, by decide +kernel, rfl, by decide +kernel, by decide +kernel⟩
theorem ok_inside (F : Fun K "_law_inside" "_law_inside" sInside f fd) : FnOk P w K mg base CX0 1 f fd ["_law_kind"] spParts := by
  refine F.ok scInside (fun vs H Q E h => ?_) (fun cdv A outer s H vs Q E hr h => ?_)
  · obtain ⟨v, k, rfl, _⟩ := h
    rfl
  obtain ⟨v, k, rfl, hk, hB, q⟩ := h
  have nd := scInside.nd
  have hu := hu_of hr
  refine ⟨_, pss_cons (ps_set (i := 1) nd rfl (Or.inl rfl) (pe_lst pa_nil))
    (pss_cons (ps_set (i := 2) nd rfl (Or.inl rfl) (pe_lst (pa_cons (pv 0) pa_nil)))
    (pss_cons (ps_while PassesOwn.never (pt_cmpR (op_neE (Nat.lt_of_succ_lt hu)) (pv 2) (pe_lst pa_nil) (nomark _))
      (pss_cons (ps_set (i := 3) nd rfl (Or.inl rfl) (pe_bm0 PySem.F.plainAttrs_list PySem.F.slot_list_pop PySem.F.type_list_pop mt_pop (pv 2)))
      (pss_cons (ps_expr (pe_bm PySem.F.plainAttrs_list PySem.F.slot_list_append PySem.F.type_list_append mt_append (pv 1) (pa_cons (pv 3) pa_nil)))
      (pss_one (ps_if (pt_cmpR op_in_seq (pe_ix ix_tup (pv 3) pe_int (fun _ _ => rfl)) (pe_lst (pa_cons pe_str (pa_cons pe_str pa_nil))) rfl)
        (pss_one (ps_set (i := 2) nd rfl (Or.inl rfl) (pe_op op_cat (pv 2) (pe_lst (pa_cons (pe_ix ix_tup (pv 3) pe_int (fun _ _ => rfl)) (pa_cons (pe_ix ix_tup (pv 3) pe_int (fun _ _ => rfl)) pa_nil))))))
        pss_nil)))))
    (pss_one (ps_ret (pv 1))))), ?_⟩
  refine ⟨Nat.zero_le _, fun lo hlo => ?_⟩
  refine ⟨_, rfl, (by show 1 ≤ sizeLine; decide), fun lw0 hlw => ?_⟩
  have hwl0 : lw0 ≠ lo := fun z => by rw [z, upd_same] at hlw; cases hlw
  have hlw0 : H lw0 = none := by rw [upd_ne hwl0] at hlw; exact hlw
  have hps : k.parts.length ≤ 100000 := by rw [Kd.parts_length]; exact hB
  refine ⟨(fun m σ H1 => ∃ p os ws i lw, σ = [some v, some (.ref lo), some (.ref lw), p] ∧ H lw = none ∧ lw ≠ lo ∧ m = k.parts.length - i ∧ Same H H1 ∧ H1 lo = some (.lst os) ∧ H1 lw = some (.lst ws) ∧ Ks H1 os (k.parts.take i) ∧ Ks H1 ws (dfs [k] i).reverse),
    ⟨k.parts.length, none, [], [v], 0, lw0, rfl, hlw0, hwl0, rfl, (Same.new hlo).upd hlw0, ?_, upd_same, .nil, .cons ?_ .nil⟩, ?_⟩
  · rw [upd_ne hwl0.symm, upd_same]
  · exact hk.mono (Same.tk ((Same.new hlo).upd hlw0))
  rintro m σ H1 ⟨p, os, ws, i, lw, rfl, hlw0, hwl, rfl, hS, hO, hW, kO, kW⟩
  have hlen : os.length ≤ 100000 := by rw [Paired.length kO, List.length_take]; omega
  have hlenW : ws.length ≤ 100000 := by
    rw [Paired.length kW, List.length_reverse]
    have := dfs_length [k] i
    rw [flat_one] at this; omega
  refine ⟨_, rfl, Nat.zero_le _, fun le hle => ?_⟩
  have S1 : Same H (upd H1 le (.lst [])) := hS.upd (hS.free hle)
  have tk0 : Tk H1 (upd H1 le (.lst [])) := Tk.new hle
  have hO0 : upd H1 le (.lst []) lo = some (.lst os) := by rw [upd_ne (ne_of_none hO hle)]; exact hO
  have hW0 : upd H1 le (.lst []) lw = some (.lst ws) := by rw [upd_ne (ne_of_none hW hle)]; exact hW
  have kO0 := kO.mono tk0
  have kW0 := kW.mono tk0
  refine ⟨lw, le, ws, rfl, rfl, SqL.of hW0, SqL.of upd_same, _, rfl, ?_⟩
  generalize upd H1 le (.lst []) = H1 at S1 hO0 hW0 kO0 kW0 ⊢
  cases hd : dfs [k] i with
  | nil =>
    rw [hd] at kW0
    cases kW0
    refine iteF ⟨_, rfl, q lo os H1 S1 hlo hO0 ?_⟩
    have := dfs_nil hd
    rw [flat_one] at this
    rwa [List.take_of_length_le this] at kO0
  | cons t r =>
    rw [hd, List.reverse_cons] at kW0
    obtain ⟨ws', x, rfl, kW', kx⟩ := paired_snoc_inv kW0
    have hget : k.parts[i]? = some t := by
      have h1 := dfs_flat [k] i
      rw [flat_one, hd, flat_cons] at h1
      have h2 : (k.parts.drop i)[0]? = some t := by rw [← h1]; rfl
      rwa [List.getElem?_drop] at h2
    have hi : i < k.parts.length := (List.getElem?_eq_some_iff.mp hget).1
    have he : (!(ws' ++ [x]).isEmpty) = true := by simp
    rw [if_pos he]
    refine ⟨_, fun _ _ z => z, ?_⟩
    refine ⟨_, rfl, .inl ⟨rfl, _, SqL.of hW0⟩, lw, ws' ++ [x], x, rfl, rfl, hW0, by simp, ?_⟩
    rw [List.dropLast_concat]
    have tk1 : Tk H1 (upd H1 lw (.lst ws')) := Tk.lst hW0
    have hO1 : upd H1 lw (.lst ws') lo = some (.lst os) := by rw [upd_ne hwl.symm]; exact hO0
    refine ⟨_, rfl, .inl ⟨rfl, _, SqL.of hO1⟩, _, rfl, lo, os, x, rfl, rfl, hO1, lt_line (by omega), ?_⟩
    have tk2 : Tk (upd H1 lw (.lst ws')) (upd (upd H1 lw (.lst ws')) lo (.lst (os ++ [x]))) := Tk.lst hO1
    have S2 : Same H (upd (upd H1 lw (.lst ws')) lo (.lst (os ++ [x]))) := (S1.upd hlw0).upd hlo
    have kx2 := kx.mono (tk1.trans tk2)
    have kO2 : Ks (upd (upd H1 lw (.lst ws')) lo (.lst (os ++ [x]))) (os ++ [x]) (k.parts.take (i + 1)) := by
      rw [List.take_add_one, hget]
      exact paired_app (kO0.mono (tk1.trans tk2)) (.cons kx2 .nil)
    have kW2 := Ks.mono (tk1.trans tk2) kW'
    have hW2 : upd (upd H1 lw (.lst ws')) lo (.lst (os ++ [x])) lw = some (.lst ws') := by rw [upd_ne hwl, upd_same]
    have hl' : ws'.length + 1 ≤ 100000 := by rw [List.length_append] at hlenW; exact hlenW
    have hO2 : upd (upd H1 lw (.lst ws')) lo (.lst (os ++ [x])) lo = some (.lst (os ++ [x])) := upd_same
    generalize upd (upd H1 lw (.lst ws')) lo (.lst (os ++ [x])) = H2 at S2 kx2 kO2 kW2 hW2 hO2 ⊢
    obtain ⟨px, xs, rfl, hx, rx⟩ := kx2.shape
    refine ⟨_, rfl, px, _, 0, _, rfl, rfl, SqT.of hx, atI_nat (j := 0) rfl, (by show 2 ≤ sizeLine; decide), fun lc hlc => ?_⟩
    have S3 : Same H (upd H2 lc (.lst [.str "pair", .str "to"])) := S2.upd (S2.free hlc)
    have tk3 : Tk H2 (upd H2 lc (.lst [.str "pair", .str "to"])) := Tk.new hlc
    have hO3 : upd H2 lc (.lst [.str "pair", .str "to"]) lo = some (.lst (os ++ [.ref px])) := by rw [upd_ne (ne_of_none hO2 hlc)]; exact hO2
    have hW3 : upd H2 lc (.lst [.str "pair", .str "to"]) lw = some (.lst ws') := by rw [upd_ne (ne_of_none hW2 hlc)]; exact hW2
    refine ⟨lc, _, rfl, .inl (SqL.of upd_same), rfl, rfl, _, rfl, ?_⟩
    have hx3 := tk3 _ _ hx
    have rx3 := rx.mono tk3
    have kO3 := kO2.mono tk3
    have kW3 := kW2.mono tk3
    generalize upd H2 lc (.lst [.str "pair", .str "to"]) = H3 at S3 hO3 hW3 hx3 rx3 kO3 kW3 ⊢
    rw [inV_hd]
    cases t with
    | num =>
      refine iteF ?_
      exact ⟨k.parts.length - (i + 1), by omega, _, _, ws', i + 1, lw, rfl, hlw0, hwl, rfl, S3, hO3, hW3, kO3, by rw [dfs_step hd]; exact kW3⟩
    | blk n =>
      refine iteF ?_
      exact ⟨k.parts.length - (i + 1), by omega, _, _, ws', i + 1, lw, rfl, hlw0, hwl, rfl, S3, hO3, hW3, kO3, by rw [dfs_step hd]; exact kW3⟩
    | two g' a b =>
      refine iteT ?_
      obtain ⟨xa, xb, rfl, ka, kb⟩ := rx3
      refine ⟨_, rfl, _, rfl, px, _, 2, xb, rfl, rfl, SqT.of hx3, atI_nat (j := 2) rfl, _, rfl, px, _, 1, xa, rfl, rfl, SqT.of hx3, atI_nat (j := 1) rfl, (by show 2 ≤ sizeLine; decide), fun l2 hl2 => ?_⟩
      have hW4 : upd H3 l2 (.lst [xb, xa]) lw = some (.lst ws') := by rw [upd_ne (ne_of_none hW3 hl2)]; exact hW3
      refine ⟨lw, l2, ws', [xb, xa], rfl, rfl, hW4, upd_same, le_line (by simp; omega), fun l3 hl3 => ?_⟩
      have S4 : Same H (upd H3 l2 (.lst [xb, xa])) := S3.upd (S3.free hl2)
      have S5 : Same H (upd (upd H3 l2 (.lst [xb, xa])) l3 (.lst (ws' ++ [xb, xa]))) := S4.upd (S4.free hl3)
      have tk4 : Tk H3 (upd (upd H3 l2 (.lst [xb, xa])) l3 (.lst (ws' ++ [xb, xa]))) := (Tk.new hl2).trans (Tk.new hl3)
      have hO4 : upd H3 l2 (.lst [xb, xa]) lo = some (.lst (os ++ [.ref px])) := by rw [upd_ne (ne_of_none hO3 hl2)]; exact hO3
      refine ⟨k.parts.length - (i + 1), by omega, _, _, ws' ++ [xb, xa], i + 1, l3, rfl, S4.free hl3, (ne_of_none hO4 hl3).symm, rfl, S5, by rw [upd_ne (ne_of_none hO4 hl3)]; exact hO4, upd_same, kO3.mono tk4, ?_⟩
      rw [dfs_step hd]
      show Ks _ _ (a :: b :: r).reverse
      rw [List.reverse_cons, List.reverse_cons, List.append_assoc]
      exact paired_app (kW3.mono tk4) (.cons (kb.mono tk4) (.cons (ka.mono tk4) .nil))

/-! ### _law_filled -/
def spFilled : Sp := fun vs H Q _ => ∃ v k d kvs φ, vs = [v, .ref d] ∧ KAt H v k ∧ k.size ≤ 100000 ∧ H d = some (.dK kvs) ∧ DAt H kvs φ ∧ ∀ v' H', Same H H' → KAt H' v' (k.fill φ) → Q v' H'
theorem scFilled : FnScope ["_law_kind", "_law_filling", "_law_pile", "_law_part", "_law_one"] ["_law_kind", "_law_filling"] (defScope sFilled) := ⟨rfl, rfl, rfl, by decide +kernel, rfl, by decide +kernel, by decide +kernel⟩
theorem ok_filled (F : Fun K "_law_filled" "_law_filled" sFilled f fd) (G : FnOk P w K mg base CX0 1 g gd ["_law_kind"] spParts) (bG : Binds K gd ["_law_kind"] []) (kG : PySem.W.keepIn K (.ref g) = true) (mG : mg "_law_inside" = some (.ref g)) (mr : mg "reversed" = none) :
    FnOk P w K mg base CX0 2 f fd ["_law_kind", "_law_filling"] spFilled := by
  refine F.ok scFilled (fun vs H Q E h => ?_) (fun cdv A outer s H vs Q E hr h => ?_)
  · obtain ⟨v, k, d, kvs, φ, rfl, _⟩ := h
    rfl
  obtain ⟨v, k, d, kvs, φ, rfl, hk, hB, hd, kD, q⟩ := h
  have nd := scFilled.nd
  have hu := hu_of hr
  refine ⟨_, pss_cons (ps_set (i := 2) nd rfl (Or.inl rfl) (pe_lst pa_nil))
    (pss_cons (ps_for PassesOwn.never rfl (pi_rev rfl mr (pa_cons (pe_call G hr rfl mG kG bG .nil pass0 (pa_cons (pv 0) pa_nil)) pa_nil)) (pg_name (i := 3) nd rfl (Or.inl rfl))
      (pss_one (ps_if (pt_cmpR op_in_seq (pe_ix ix_tup (pv 3) pe_int (fun _ _ => rfl)) (pe_lst (pa_cons pe_str (pa_cons pe_str pa_nil))) rfl)
        (pss_cons (ps_set (i := 4) nd rfl (Or.inl rfl) (pe_bm0 PySem.F.plainAttrs_list PySem.F.slot_list_pop PySem.F.type_list_pop mt_pop (pv 2)))
          (pss_one (ps_expr (pe_bm PySem.F.plainAttrs_list PySem.F.slot_list_append PySem.F.type_list_append mt_append (pv 2) (pa_cons (pe_tup (pa_cons (pe_ix ix_tup (pv 3) pe_int (fun _ _ => rfl)) (pa_cons (pv 4) (pa_cons (pe_bm0 PySem.F.plainAttrs_list PySem.F.slot_list_pop PySem.F.type_list_pop mt_pop (pv 2)) pa_nil)))) pa_nil)))))
        (pss_one (ps_if (pw_and (pt_cmpR op_eq (pe_ix ix_tup (pv 3) pe_int (fun _ _ => rfl)) pe_str (nomark _)) (pw_and1 (pt_cmp (pc_din hu (pe_ix ix_tup (pv 3) pe_int (fun _ _ => rfl)) (pv 1))))).pt
          (pss_one (ps_expr (pe_bm PySem.F.plainAttrs_list PySem.F.slot_list_append PySem.F.type_list_append mt_append (pv 2) (pa_cons (pe_dget hu (pv 1) (pe_ix ix_tup (pv 3) pe_int (fun _ _ => rfl)) (fun _ _ => rfl)) pa_nil))))
          (pss_one (ps_expr (pe_bm PySem.F.plainAttrs_list PySem.F.slot_list_append PySem.F.type_list_append mt_append (pv 2) (pa_cons (pv 3) pa_nil)))))))))
    (pss_one (ps_ret (pe_ix ix_list (pv 2) pe_int (fun _ _ => rfl))))), ?_⟩
  refine ⟨Nat.zero_le _, fun lp hlp => ?_⟩
  have S1 : Same H (upd H lp (.lst [])) := Same.new hlp
  refine ⟨_, rfl, v, k, rfl, hk.mono S1.tk, hB, fun lr ws H2 S2 hlr hr2 kws => ?_⟩
  refine ⟨lr, ws, rfl, SqL.of hr2, ?_⟩
  have hlp2 : H2 lp = some (.lst []) := S2 _ _ upd_same
  have hlen : ws.length = k.parts.length := Paired.length kws
  have hps : k.parts.length ≤ 100000 := by rw [Kd.parts_length]; exact hB
  have hlrp : lr ≠ lp := fun z => by rw [z, upd_same] at hlr; cases hlr
  have hlr0 : H lr = none := S1.free hlr
  refine for_rev (fun i σ H3 => ∃ p o xs, σ = [some v, some (.ref d), some (.ref lp), p, o] ∧ Same H H3 ∧ H3 lr = some (.lst ws) ∧ H3 lp = some (.lst xs) ∧ Ks H3 ws k.parts ∧ Ks H3 xs ((dfs [k] (k.parts.length - i)).map (Kd.fill φ)).reverse)
    ⟨none, none, [], rfl, S1.trans S2, hr2, hlp2, kws, ?_⟩ (fun i σ H3 hi ⟨p, o, xs, _, _, h, _⟩ => SqL.of h) (fun i x σ H3 hi hx hP => ?_) (fun σ H3 hP => ?_)
  · rw [Nat.sub_zero, dfs_end (by rw [flat_one]; exact Nat.le_refl _)]
    exact .nil
  · obtain ⟨p, o, xs, rfl, hS, hR, hL, kR, kX⟩ := hP
    obtain ⟨t, ht, kt⟩ := paired_get kR hx
    rw [hlen] at hi ht
    obtain ⟨r, hdf⟩ := dfs_get (ts := [k]) (n := k.parts.length - 1 - i) (by rw [flat_one]; exact ht)
    have hst := dfs_step hdf
    rw [show k.parts.length - 1 - i + 1 = k.parts.length - i by omega] at hst
    have hnx : k.parts.length - (i + 1) = k.parts.length - 1 - i := by omega
    rw [hst] at kX
    have hxs : xs.length ≤ 100000 := by
      rw [Paired.length kX, List.length_reverse, List.length_map, ← hst]
      have := dfs_length [k] (k.parts.length - i)
      rw [flat_one] at this; omega
    obtain ⟨px, ys, rfl, hpx, ry⟩ := kt.shape
    refine ⟨_, rfl, px, _, 0, _, rfl, rfl, SqT.of hpx, atI_nat (j := 0) rfl, (by show 2 ≤ sizeLine; decide), fun lc hlc => ?_⟩
    have S3 : Same H (upd H3 lc (.lst [.str "pair", .str "to"])) := hS.upd (hS.free hlc)
    have tk3 : Tk H3 (upd H3 lc (.lst [.str "pair", .str "to"])) := Tk.new hlc
    have hR3 : upd H3 lc (.lst [.str "pair", .str "to"]) lr = some (.lst ws) := by rw [upd_ne (ne_of_none hR hlc)]; exact hR
    have hL3 : upd H3 lc (.lst [.str "pair", .str "to"]) lp = some (.lst xs) := by rw [upd_ne (ne_of_none hL hlc)]; exact hL
    refine ⟨lc, _, rfl, .inl (SqL.of upd_same), rfl, rfl, _, rfl, ?_⟩
    have hpx3 := tk3 _ _ hpx
    have ry3 := ry.mono tk3
    have kR3 := kR.mono tk3
    have kX3 := kX.mono tk3
    have kt3 := kt.mono tk3
    generalize upd H3 lc (.lst [.str "pair", .str "to"]) = H4 at S3 hR3 hL3 hpx3 ry3 kR3 kX3 kt3 ⊢
    rw [inV_hd]
    have leaf : ∀ (y : V) (H5 : Hp), Same H4 H5 → KAt H5 y (t.fill φ) → kids t = [] → ∃ p o' xs', [some v, some (.ref d), some (.ref lp), some (.ref px), o] = [some v, some (.ref d), some (.ref lp), p, o'] ∧ Same H (upd H5 lp (.lst (xs ++ [y]))) ∧ upd H5 lp (.lst (xs ++ [y])) lr = some (.lst ws) ∧
        upd H5 lp (.lst (xs ++ [y])) lp = some (.lst xs') ∧ Ks (upd H5 lp (.lst (xs ++ [y]))) ws k.parts ∧ Ks (upd H5 lp (.lst (xs ++ [y]))) xs' ((dfs [k] (k.parts.length - (i + 1))).map (Kd.fill φ)).reverse := by
      intro y H5 S5 ky hkid
      have tk5 : Tk H4 (upd H5 lp (.lst (xs ++ [y]))) := S5.tk.trans (Tk.lst (S5 _ _ hL3))
      refine ⟨_, o, xs ++ [y], rfl, (S3.trans S5).upd hlp, by rw [upd_ne hlrp]; exact S5 _ _ hR3, upd_same, kR3.mono tk5, ?_⟩
      rw [hnx, hdf, List.map_cons, List.reverse_cons]
      rw [hkid] at kX3
      exact paired_app (kX3.mono tk5) (.cons (ky.mono (Tk.lst (S5 _ _ hL3))) .nil)
    cases t with
    | num =>
      refine iteF ?_
      refine ⟨_, rfl, px, _, 0, _, rfl, rfl, SqT.of hpx3, atI_nat (j := 0) rfl, rfl, _, rfl, ?_⟩
      refine ite2 (fun z => absurd z (by simp [hdS]; decide)) fun _ => ?_
      refine iteF ?_
      refine ⟨_, rfl, .inl ⟨rfl, _, SqL.of hL3⟩, _, rfl, lp, xs, _, rfl, rfl, hL3, lt_line (by omega), ?_⟩
      exact leaf _ H4 (Same.refl _) kt3 rfl
    | blk n =>
      refine iteF ?_
      cases ry3
      have hd4 : H4 d = some (.dK kvs) := S3 _ _ hd
      have kD4 : DAt H4 kvs φ := kD.mono S3.tk
      refine ⟨_, rfl, px, _, 0, _, rfl, rfl, SqT.of hpx3, atI_nat (j := 0) rfl, rfl, _, rfl, ?_⟩
      refine ite2 (fun _ => ?_) fun z => absurd (by simp [hdS]) z
      refine ⟨_, rfl, px, _, 1, _, rfl, rfl, SqT.of hpx3, atI_nat (j := 1) rfl, _, rfl, d, _, rfl, DGet.k (k := Sum.inl n) hd4, _, rfl, ?_⟩
      rcases kD4 n with ⟨e1, e2⟩ | ⟨y, u, e1, e2, ky⟩
      · rw [e1]
        refine iteF ?_
        refine ⟨_, rfl, .inl ⟨rfl, _, SqL.of hL3⟩, _, rfl, lp, xs, _, rfl, rfl, hL3, lt_line (by omega), ?_⟩
        refine leaf _ H4 (Same.refl _) ?_ rfl
        show KAt H4 _ ((φ n).getD (.blk n))
        rw [e2]
        exact kt3
      · have e3 : (valV kvs (Sum.inl n)).isSome = true := by rw [e1]; rfl
        rw [e3]
        refine iteT ?_
        refine ⟨_, rfl, .inl ⟨rfl, _, SqL.of hL3⟩, ?_⟩
        refine ⟨_, rfl, _, rfl, px, _, 1, _, rfl, rfl, SqT.of hpx3, atI_nat (j := 1) rfl, d, y, rfl, by rw [← e1]; exact DGet.k (k := Sum.inl n) hd4, lp, xs, _, rfl, rfl, hL3, lt_line (by omega), ?_⟩
        refine leaf _ H4 (Same.refl _) ?_ rfl
        show KAt H4 _ ((φ n).getD (.blk n))
        rw [e2]
        exact ky
    | two g' a b =>
      refine iteT ?_
      obtain ⟨xa, xb, rfl, ka, kb⟩ := ry3
      have kX4 : Ks H4 xs ((r.map (Kd.fill φ)).reverse ++ [b.fill φ] ++ [a.fill φ]) := by
        have e : ((kids (Kd.two g' a b) ++ r).map (Kd.fill φ)).reverse = (r.map (Kd.fill φ)).reverse ++ [b.fill φ] ++ [a.fill φ] := by simp [kids]
        rw [← e]; exact kX3
      obtain ⟨xs1, ya, rfl, kX5, kya⟩ := paired_snoc_inv kX4
      obtain ⟨xs2, yb, rfl, kX6, kyb⟩ := paired_snoc_inv kX5
      refine ⟨_, rfl, .inl ⟨rfl, _, SqL.of hL3⟩, lp, _, ya, rfl, rfl, hL3, by simp, ?_⟩
      rw [List.dropLast_concat]
      have hL4 : upd H4 lp (.lst (xs2 ++ [yb])) lp = some (.lst (xs2 ++ [yb])) := upd_same
      have hpx4 : upd H4 lp (.lst (xs2 ++ [yb])) px = some (.tup [.str (tag g'), xa, xb]) := Tk.lst hL3 _ _ hpx3
      refine ⟨_, rfl, .inl ⟨rfl, _, SqL.of hL4⟩, ?_⟩
      refine ⟨_, rfl, px, _, 0, _, rfl, rfl, SqT.of hpx4, atI_nat (j := 0) rfl, _, rfl, _, rfl, .inl ⟨rfl, _, SqL.of hL4⟩, lp, _, yb, rfl, rfl, hL4, by simp, ?_⟩
      rw [List.dropLast_concat, upd_upd]
      refine ⟨(by show 3 ≤ sizeLine; decide), fun tp htp => ?_⟩
      have hL5 : upd (upd H4 lp (.lst xs2)) tp (.tup [.str (tag g'), ya, yb]) lp = some (.lst xs2) := by rw [upd_ne (ne_of_none upd_same htp), upd_same]
      refine ⟨lp, xs2, .ref tp, rfl, rfl, hL5, lt_line (by simp at hxs; omega), ?_⟩
      have S5 : Same H (upd H4 lp (.lst xs2)) := S3.upd hlp
      have S6 : Same H (upd (upd H4 lp (.lst xs2)) tp (.tup [.str (tag g'), ya, yb])) := S5.upd (S5.free htp)
      have htlp : tp ≠ lp := fun z => by rw [z, upd_same] at htp; cases htp
      have tk6 : Tk H4 (upd (upd (upd H4 lp (.lst xs2)) tp (.tup [.str (tag g'), ya, yb])) lp (.lst (xs2 ++ [.ref tp]))) := ((Tk.lst hL3).trans (Tk.new htp)).trans (Tk.lst hL5)
      refine ⟨_, _, xs2 ++ [.ref tp], rfl, S6.upd hlp, ?_, upd_same, kR3.mono tk6, ?_⟩
      · rw [upd_ne hlrp, upd_ne (fun z => by rw [← z, upd_ne hlrp, hR3] at htp; cases htp), upd_ne hlrp]; exact hR3
      · rw [hnx, hdf, List.map_cons, List.reverse_cons]
        refine paired_app (Ks.mono tk6 kX6) (.cons ⟨tp, ya, yb, rfl, by rw [upd_ne htlp, upd_same], kya.mono tk6, kyb.mono tk6⟩ .nil)
  · obtain ⟨p, o, xs, rfl, hS, hR, hL, kR, kX⟩ := hP
    rw [hlen, Nat.sub_self] at kX
    have kX : Ks H3 xs [k.fill φ] := kX
    cases kX with
    | cons kx kn =>
      cases kn
      exact ⟨_, rfl, lp, _, 0, _, rfl, rfl, SqL.of hL, atI_nat (j := 0) rfl, q _ H3 hS kx⟩
end
end K1

set_option Elab.async false
set_option maxRecDepth 100000
namespace K1
open PySem L2 Wk
section
variable {P : Program} {w : World} {K : PySem.W.Frag} {mg : Str → Option Value} {base : Heap} {f g : Addr} {fd gd : FuncData}
/-! ### _law_any -/
def spAny : Sp := fun vs H Q _ => ∃ i, vs = [.int i] ∧ ∀ (j : Int) H', j.natAbs < 10 ^ 59 → Same H H' → Q (.int j) H'
theorem scAny : FnScope ["_law_cell", "_law_size"] ["_law_cell"] (defScope sAny) := ⟨rfl, rfl, rfl, by decide +kernel, rfl, by decide +kernel, by decide +kernel⟩
theorem any_lt (i : Int) {s : Int} (hs : s = 1 ∨ s = -1) : (i % 10 ^ (59 : Int).toNat * s).natAbs < 10 ^ 59 := by
  have e : (10 : Int) ^ (59 : Int).toNat = 100000000000000000000000000000000000000000000000000000000000 := by decide +kernel
  have e2 : (10 : Nat) ^ 59 = 100000000000000000000000000000000000000000000000000000000000 := by decide +kernel
  rw [e, e2]
  rcases hs with rfl | rfl <;> omega
theorem ok_any (F : Fun K "_law_any" "_law_any" sAny f fd) : FnOk P w K mg base CX0 1 f fd ["_law_cell"] spAny := by
  refine F.ok scAny (fun vs H Q E h => ?_) (fun cdv A outer s H vs Q E hr h => ?_)
  · obtain ⟨i, rfl, _⟩ := h
    rfl
  obtain ⟨i, rfl, q⟩ := h
  have nd := scAny.nd
  refine ⟨_, pss_cons (ps_set (i := 1) nd rfl (Or.inl rfl) (pe_op op_mod (pe_op op_fdiv (pv 0) pe_int) (pe_op op_pow pe_int pe_int)))
    (pss_one (ps_ret (pe_op op_mul (pv 1) (pe_ix ix_list (pe_lst (pa_cons pe_int (pa_cons (pe_un un_neg pe_int) pa_nil))) (pe_op op_mod (pv 0) pe_int) (fun _ _ => rfl))))), ?_⟩
  refine ⟨_, rfl, _, _, rfl, rfl, ⟨by decide, by decide⟩, _, _, rfl, rfl, ⟨by decide, by decide, by decide⟩, _, _, rfl, rfl, ?_, ?_⟩
  · show (0 : Int) < 10 ^ (59 : Int).toNat
    decide +kernel
  refine ⟨_, rfl, _, rfl, (by show 2 ≤ sizeLine; decide), fun l hl => ?_⟩
  refine ⟨_, rfl, _, _, rfl, rfl, (by show (0 : Int) < 2; decide), ?_⟩
  have h2 : i % 2 = 0 ∨ i % 2 = 1 := by omega
  rcases h2 with e | e
  · refine ⟨l, _, _, .int 1, rfl, rfl, SqL.of upd_same, ?_, _, _, rfl, rfl, .inr ⟨by decide, by decide⟩, q _ _ ?_ (Same.new hl)⟩
    · rw [e]; rfl
    · exact any_lt _ (Or.inl rfl)
  · refine ⟨l, _, _, .int (-1), rfl, rfl, SqL.of upd_same, ?_, _, _, rfl, rfl, .inr ⟨by decide, by decide⟩, q _ _ ?_ (Same.new hl)⟩
    · rw [e]; rfl
    · exact any_lt _ (Or.inr rfl)

/-! ### _law_whole -/
theorem kit_same (K : PySem.W.Frag) (n : String) : PySem.W.kitOne K (.type n) (.type n) = some true := by
  unfold PySem.W.kitOne
  rw [if_pos (beq_self_eq_true _)]
def spWhole : Sp := fun vs H Q _ => ∃ i, vs = [.int i] ∧ Q (.bl true) H
theorem scWhole : FnScope ["_law_found"] ["_law_found"] (defScope sWhole) := ⟨rfl, rfl, rfl, by decide +kernel, rfl, by decide +kernel, by decide +kernel⟩
theorem ok_whole (F : Fun K "_law_whole" "_law_whole" sWhole f fd) (mi : mg "isinstance" = none) (mn : mg "int" = none) (mb : mg "bool" = none) : FnOk P w K mg base CX0 1 f fd ["_law_found"] spWhole := by
  refine F.ok scWhole (fun vs H Q E h => ?_) (fun cdv A outer s H vs Q E hr h => ?_)
  · obtain ⟨i, rfl, _⟩ := h
    rfl
  obtain ⟨i, rfl, q⟩ := h
  refine ⟨_, pss_one (ps_ret (pe_and (pe_callB call_isi rfl mi PyProof.Rows.boot_isinstance (pa_cons (pv 0) (pa_cons (pe_bltn (v := .ty "int") rfl mn PyProof.Rows.boot_int rfl) pa_nil)))
    (pe_one (pe_not (pe_callB call_isi rfl mi PyProof.Rows.boot_isinstance (pa_cons (pv 0) (pa_cons (pe_bltn (v := .ty "bool") rfl mb PyProof.Rows.boot_bool rfl) pa_nil))))))), ?_⟩
  refine ⟨_, rfl, .int i, "int", _, true, rfl, .int i, kit_same _ _, true, rfl, iteT ?_⟩
  refine ⟨_, rfl, .int i, "bool", _, false, rfl, .int i, ?_, false, rfl, q⟩
  rfl
end
end K1

set_option Elab.async false
set_option maxRecDepth 100000
namespace K1
open PySem L2 Wk
theorem iteB {c : Bool} {A B : Prop} (h : c = true) (x : A) : if c = true then A else B := by rw [if_pos h]; exact x
def sumK (ks : List Kd) : Nat := (ks.map Kd.size).sum
theorem sumK_nil : sumK [] = 0 := rfl
theorem sumK_snoc (ks : List Kd) (k : Kd) : sumK (ks ++ [k]) = sumK ks + k.size := by simp [sumK]
theorem sumK_length (ks : List Kd) : ks.length ≤ sumK ks := by
  induction ks with
  | nil => exact Nat.le_refl _
  | cons k r ih =>
    have := Kd.size_pos k
    have e : sumK (k :: r) = k.size + sumK r := by simp [sumK]
    rw [e, List.length_cons]; omega
theorem paired_snoc_inv' {α β : Type} {F : α → β → Prop} : ∀ {a : List α} {b : List β} {x : α}, Paired F (a ++ [x]) b → ∃ b' y, b = b' ++ [y] ∧ Paired F a b' ∧ F x y
  | [], _, x, .cons h .nil => ⟨[], _, rfl, .nil, h⟩
  | a :: as, _, x, .cons h r => by
    obtain ⟨b', y, e, p, q⟩ := paired_snoc_inv' r
    subst e
    exact ⟨_ :: b', y, rfl, .cons h p, q⟩
section
variable {P : Program} {w : World} {K : PySem.W.Frag} {mg : Str → Option Value} {base : Heap} {f g : Addr} {fd gd : FuncData}
/-! ### _law_kind_by -/
def spKindBy (K : PySem.W.Frag) : Sp := fun vs H Q _ => ∃ (a : Addr) (ns : List Int), vs = [.ref a] ∧ SqL K H a (ns.map V.int) ∧ ns.length ≤ 1000 ∧ ∀ v k H', Same H H' → KAt H' v k → (k.ok ∧ k.few) → k.size ≤ 2 * ns.length + 1 → Q v H'
theorem scKindBy : FnScope ["_law_cells", "_law_pile", "_law_cell", "_law_way", "_law_one", "_law_kind"] ["_law_cells"] (defScope sKindBy) := ⟨rfl, rfl, rfl, by decide +kernel, rfl, by decide +kernel, by decide +kernel⟩
theorem pick2 {i : Int} (h : i = 0 ∨ i = 1) : ∃ b : Bool, atI [V.str "pair", V.str "to"] i = some (.str (tag b)) := by
  rcases h with e | e
  · subst e; exact ⟨false, rfl⟩
  · subst e; exact ⟨true, rfl⟩
theorem pick4 {i j : Int} (h0 : 0 ≤ i) (h1 : i < 4) (hj : 0 ≤ j) (hf : j.natAbs < 10 ^ 59) : ∃ m : Int, 0 ≤ m ∧ m.natAbs < 10 ^ 59 ∧ atI [V.int 0, V.int 1, V.int 2, V.int j] i = some (.int m) := by
  have : i = 0 ∨ i = 1 ∨ i = 2 ∨ i = 3 := by omega
  rcases this with e | e | e | e
  · subst e; exact ⟨0, by omega, by decide +kernel, rfl⟩
  · subst e; exact ⟨1, by omega, by decide +kernel, rfl⟩
  · subst e; exact ⟨2, by omega, by decide +kernel, rfl⟩
  · subst e; exact ⟨j, hj, hf, rfl⟩
set_option maxHeartbeats 4000000 in
theorem ok_kindBy (F : Fun K "_law_kind_by" "_law_kind_by" sKindBy f fd) (G : FnOk P w K mg base CX0 1 g gd ["_law_cell"] spAny) (bG : Binds K gd ["_law_cell"] []) (kG : PySem.W.keepIn K (.ref g) = true) (mG : mg "_law_any" = some (.ref g)) (ml : mg "len" = none) (ma : mg "abs" = none) :
    FnOk P w K mg base CX0 2 f fd ["_law_cells"] (spKindBy K) := by
  refine F.ok scKindBy (fun vs H Q E h => ?_) (fun cdv A outer s H vs Q E hr h => ?_)
  · obtain ⟨a, ns, rfl, _⟩ := h
    rfl
  obtain ⟨a, ns, rfl, hA, hn, q⟩ := h
  have nd := scKindBy.nd
  have hu := hu_of hr
  refine ⟨_, pss_cons (ps_set (i := 1) nd rfl (Or.inl rfl) (pe_lst pa_nil))
    (pss_cons (ps_for PassesOwn.never rfl (pi_list (pv 0)) (pg_name (i := 2) nd rfl (Or.inl rfl))
      (pss_cons (ps_set (i := 3) nd rfl (Or.inl rfl) (pe_op op_mod (pv 2) pe_int))
      (pss_one (ps_if (PW.pt (pw_and (pt_cmpR op_gt (pv 3) pe_int (nomark _)) (pw_and1 (pt_cmpR op_gt (pe_callB call_len_seq rfl ml PySem.boot_len (pa_cons (pv 1) pa_nil)) pe_int (nomark _)))))
        (pss_cons (ps_set (i := 4) nd rfl (Or.inl rfl) (pe_bm0 PySem.F.plainAttrs_list PySem.F.slot_list_pop PySem.F.type_list_pop mt_pop (pv 1)))
          (pss_one (ps_expr (pe_bm PySem.F.plainAttrs_list PySem.F.slot_list_append PySem.F.type_list_append mt_append (pv 1) (pa_cons (pe_tup (pa_cons (pe_ix ix_list (pe_lst (pa_cons pe_str (pa_cons pe_str pa_nil))) (pe_op op_sub (pv 3) pe_int) (fun _ _ => rfl)) (pa_cons (pe_bm0 PySem.F.plainAttrs_list PySem.F.slot_list_pop PySem.F.type_list_pop mt_pop (pv 1)) (pa_cons (pv 4) pa_nil)))) pa_nil)))))
        (pss_one (ps_if (pt_cmpR op_eq (pv 3) pe_int (nomark _))
          (pss_one (ps_expr (pe_bm PySem.F.plainAttrs_list PySem.F.slot_list_append PySem.F.type_list_append mt_append (pv 1) (pa_cons (pe_tup (pa_cons pe_str pa_nil)) pa_nil))))
          (pss_one (ps_expr (pe_bm PySem.F.plainAttrs_list PySem.F.slot_list_append PySem.F.type_list_append mt_append (pv 1) (pa_cons (pe_tup (pa_cons pe_str (pa_cons (pe_ix ix_list (pe_lst (pa_cons pe_int (pa_cons pe_int (pa_cons pe_int (pa_cons (pe_callB call_abs rfl ma PyProof.Rows.boot_abs (pa_cons (pe_call G hr rfl mG kG bG .nil pass0 (pa_cons (pe_op op_fdiv (pv 2) pe_int) pa_nil)) pa_nil)) pa_nil))))) (pe_op op_mod (pe_op op_fdiv (pv 2) pe_int) pe_int) (fun _ _ => rfl)) pa_nil))) pa_nil))))))))))
    (pss_cons (ps_set (i := 5) nd rfl (Or.inl rfl) (pe_tup (pa_cons pe_str pa_nil)))
    (pss_cons (ps_while PassesOwn.never (pt_cmpR (op_neE (Nat.lt_of_succ_lt hu)) (pv 1) (pe_lst pa_nil) (nomark _))
      (pss_one (ps_set (i := 5) nd rfl (Or.inl rfl) (pe_tup (pa_cons (pe_ix ix_list (pe_lst (pa_cons pe_str (pa_cons pe_str pa_nil))) (pe_op op_mod (pe_callB call_len_seq rfl ml PySem.boot_len (pa_cons (pv 1) pa_nil)) pe_int) (fun _ _ => rfl)) (pa_cons (pe_bm0 PySem.F.plainAttrs_list PySem.F.slot_list_pop PySem.F.type_list_pop mt_pop (pv 1)) (pa_cons (pv 5) pa_nil)))))))
    (pss_one (ps_ret (pv 5)))))), ?_⟩
  refine ⟨Nat.zero_le _, fun lp hlp => ?_⟩
  have S1 : Same H (upd H lp (.lst [])) := Same.new hlp
  have hlen : (ns.map V.int).length = ns.length := List.length_map ..
  refine ⟨_, rfl, a, rfl, ⟨_, S1.seq hA⟩, for_list (xs := ns.map V.int) (fun i σ H1 => ∃ o w' one kd xs ks, σ = [some (.ref a), some (.ref lp), o, w', one, kd] ∧ Same H H1 ∧ H1 lp = some (.lst xs) ∧ Ks H1 xs ks ∧ (∀ k ∈ ks, k.ok ∧ k.few) ∧ sumK ks ≤ i)
    ⟨none, none, none, none, [], [], rfl, S1, upd_same, .nil, by simp, Nat.le_refl _⟩ (fun i σ H1 hi ⟨_, _, _, _, _, _, _, hS, _⟩ => hS.seq hA) (fun i x σ H1 hx hP => ?_) (fun σ H1 hP => ?_)⟩
  · obtain ⟨o, w', one, kd, xs, ks, rfl, hS, hL, kX, hok, hsum⟩ := hP
    have hi : i < ns.length := by
      have := (List.getElem?_eq_some_iff.mp hx).1
      rwa [hlen] at this
    obtain ⟨c, rfl⟩ : ∃ c, x = .int c := by
      rw [List.getElem?_map] at hx
      cases e : ns[i]? with
      | none => rw [e] at hx; cases hx
      | some c => rw [e] at hx; exact ⟨c, (Option.some.inj hx).symm⟩
    have hxl : xs.length ≤ 1000 := by rw [Paired.length kX]; have := sumK_length ks; omega
    refine ⟨_, rfl, _, _, rfl, rfl, (by show (0 : Int) < 4; decide), ?_⟩
    refine ⟨_, rfl, _, _, rfl, rfl, _, rfl, ?_⟩
    have hc0 : 0 ≤ c % 4 := Int.emod_nonneg _ (by decide)
    have hc4 : c % 4 < 4 := Int.emod_lt_of_pos _ (by decide)
    -- what stands behind the turn with a new kind on the pile
    have done : ∀ (H2 : Hp) (y : V) (kx : Kd) (xs' : List V) (ks' : List Kd) (w2 one2 : Option V), Same H H2 → H2 lp = some (.lst xs') → Ks H2 xs' ks' → KAt H2 y kx → (kx.ok ∧ kx.few) → (∀ k ∈ ks', k.ok ∧ k.few) → sumK ks' + kx.size ≤ i + 1 →
        ∃ o w' one kd' xs ks, [some (V.ref a), some (.ref lp), some (.int c), w2, one2, kd] = [some (.ref a), some (.ref lp), o, w', one, kd'] ∧ Same H (upd H2 lp (.lst (xs' ++ [y]))) ∧ upd H2 lp (.lst (xs' ++ [y])) lp = some (.lst xs) ∧ Ks (upd H2 lp (.lst (xs' ++ [y]))) xs ks ∧ (∀ k ∈ ks, k.ok ∧ k.few) ∧ sumK ks ≤ i + 1 := by
      intro H2 y kx xs' ks' w2 one2 S2 hL2 kX2 ky oky okx hs
      have tk : Tk H2 (upd H2 lp (.lst (xs' ++ [y]))) := Tk.lst hL2
      refine ⟨_, _, _, _, xs' ++ [y], ks' ++ [kx], rfl, S2.upd hlp, upd_same, paired_app (kX2.mono tk) (.cons (ky.mono tk) .nil), fun k hk => ?_, by rw [sumK_snoc]; exact hs⟩
      rcases List.mem_append.mp hk with z | z
      · exact okx k z
      · rw [List.mem_singleton.mp z]; exact oky
    by_cases h1 : 1 < c % 4
    · refine ite2 (fun _ => ?_) fun z => absurd (by simpa using h1) z
      refine ⟨_, rfl, lp, xs, rfl, .inl (SqL.of hL), _, _, rfl, rfl, _, rfl, ?_⟩
      by_cases h2 : (1 : Int) < (xs.length : Int)
      · refine ite2 (fun _ => ?_) fun z => absurd (by simpa using h2) z
        obtain ⟨xs1, y1, rfl⟩ : ∃ xs1 y1, xs = xs1 ++ [y1] := ⟨xs.dropLast, xs.getLast (by intro z; rw [z] at h2; simp at h2), (List.dropLast_concat_getLast _).symm⟩
        obtain ⟨xs2, y2, rfl⟩ : ∃ xs2 y2, xs1 = xs2 ++ [y2] := ⟨xs1.dropLast, xs1.getLast (by intro z; rw [z] at h2; simp at h2), (List.dropLast_concat_getLast _).symm⟩
        obtain ⟨ks1, k1, rfl, kX1, ky1⟩ := paired_snoc_inv' kX
        obtain ⟨ks2, k2, rfl, kX2, ky2⟩ := paired_snoc_inv' kX1
        refine ⟨_, rfl, .inl ⟨rfl, _, SqL.of hL⟩, lp, _, y1, rfl, rfl, hL, by simp, ?_⟩
        rw [List.dropLast_concat]
        have hL1 : upd H1 lp (.lst (xs2 ++ [y2])) lp = some (.lst (xs2 ++ [y2])) := upd_same
        have tk1 : Tk H1 (upd H1 lp (.lst (xs2 ++ [y2]))) := Tk.lst hL
        have S2 : Same H (upd H1 lp (.lst (xs2 ++ [y2]))) := hS.upd hlp
        refine ⟨_, rfl, .inl ⟨rfl, _, SqL.of hL1⟩, ?_⟩
        refine ⟨(by show 2 ≤ sizeLine; decide), fun lc hlc => ?_⟩
        obtain ⟨b, hb⟩ := pick2 (i := c % 4 - 2) (by omega)
        refine ⟨_, rfl, _, _, rfl, rfl, lc, _, _, _, rfl, rfl, SqL.of upd_same, hb, ?_⟩
        have S3 : Same H (upd (upd H1 lp (.lst (xs2 ++ [y2]))) lc (.lst [.str "pair", .str "to"])) := S2.upd (S2.free hlc)
        have tk3 : Tk H1 (upd (upd H1 lp (.lst (xs2 ++ [y2]))) lc (.lst [.str "pair", .str "to"])) := tk1.trans (Tk.new hlc)
        have hL3 : upd (upd H1 lp (.lst (xs2 ++ [y2]))) lc (.lst [.str "pair", .str "to"]) lp = some (.lst (xs2 ++ [y2])) := by rw [upd_ne (ne_of_none hL1 hlc)]; exact hL1
        generalize upd (upd H1 lp (.lst (xs2 ++ [y2]))) lc (.lst [.str "pair", .str "to"]) = H3 at S3 tk3 hL3 ⊢
        refine ⟨_, rfl, .inl ⟨rfl, _, SqL.of hL3⟩, lp, _, y2, rfl, rfl, hL3, by simp, ?_⟩
        rw [List.dropLast_concat]
        have hL4 : upd H3 lp (.lst xs2) lp = some (.lst xs2) := upd_same
        have tk4 : Tk H1 (upd H3 lp (.lst xs2)) := tk3.trans (Tk.lst hL3)
        have S4 : Same H (upd H3 lp (.lst xs2)) := S3.upd hlp
        generalize upd H3 lp (.lst xs2) = H4 at hL4 tk4 S4 ⊢
        refine ⟨_, rfl, (by show 3 ≤ sizeLine; decide), fun tp htp => ?_⟩
        have hL5 : upd H4 tp (.tup [.str (tag b), y2, y1]) lp = some (.lst xs2) := by rw [upd_ne (ne_of_none hL4 htp)]; exact hL4
        have tk5 : Tk H1 (upd H4 tp (.tup [.str (tag b), y2, y1])) := tk4.trans (Tk.new htp)
        refine ⟨lp, xs2, .ref tp, rfl, rfl, hL5, lt_line (by simp at hxl; omega), ?_⟩
        rw [sumK_snoc, sumK_snoc] at hsum
        refine done _ (.ref tp) (.two b k2 k1) xs2 ks2 _ _ (S4.upd (S4.free htp)) hL5 (Ks.mono tk5 kX2) ⟨tp, y2, y1, rfl, upd_same, ky2.mono tk5, ky1.mono tk5⟩ ⟨⟨(hok k2 (by simp)).1, (hok k1 (by simp)).1⟩, ⟨(hok k2 (by simp)).2, (hok k1 (by simp)).2⟩⟩ (fun k hk => hok k (by simp [hk])) (by simp only [Kd.size]; omega)
      · refine ite2 (fun z => absurd (by simpa using z) h2) fun _ => ?_
        refine ⟨_, rfl, rfl, _, rfl, ?_⟩
        by_cases h3 : c % 4 = 1
        · refine ite2 (fun _ => ?_) fun z => absurd (by simp [h3]) z
          refine ⟨_, rfl, .inl ⟨rfl, _, SqL.of hL⟩, (by show 1 ≤ sizeLine; decide), fun tp htp => ?_⟩
          have hL5 : upd H1 tp (.tup [.str "number"]) lp = some (.lst xs) := by rw [upd_ne (ne_of_none hL htp)]; exact hL
          refine ⟨lp, xs, .ref tp, rfl, rfl, hL5, lt_line (by omega), ?_⟩
          exact done _ (.ref tp) .num xs ks _ _ (hS.upd (hS.free htp)) hL5 (kX.mono (Tk.new htp)) ⟨tp, rfl, upd_same⟩ ⟨trivial, trivial⟩ hok (by simp only [Kd.size]; omega)
        · refine ite2 (fun z => absurd (by simpa using z) h3) fun _ => ?_
          refine ⟨_, rfl, .inl ⟨rfl, _, SqL.of hL⟩, ?_⟩
          refine ⟨_, rfl, _, _, rfl, rfl, ⟨by decide, by decide⟩, c / 4, rfl, fun j H2 hjf S2 => ?_⟩
          refine ⟨j, rfl, (by show 4 ≤ sizeLine; decide), fun l4 hl4 => ?_⟩
          refine ⟨_, rfl, _, _, rfl, rfl, ⟨by decide, by decide⟩, _, _, rfl, rfl, (by show (0 : Int) < 4; decide), ?_⟩
          obtain ⟨m, hm0, hmf, hm⟩ := pick4 (i := c / 4 % 4) (j := if j < 0 then -j else j) (Int.emod_nonneg _ (by decide)) (Int.emod_lt_of_pos _ (by decide)) (by split <;> omega) (by split <;> omega)
          refine ⟨l4, _, _, _, rfl, rfl, SqL.of upd_same, hm, (by show 2 ≤ sizeLine; decide), fun tp htp => ?_⟩
          have hL2 : H2 lp = some (.lst xs) := S2 _ _ hL
          have hL3 := (show upd H2 l4 (.lst [.int 0, .int 1, .int 2, .int (if j < 0 then -j else j)]) lp = some (.lst xs) by rw [upd_ne (ne_of_none hL2 hl4)]; exact hL2)
          have S3 : Same H1 (upd H2 l4 (.lst [.int 0, .int 1, .int 2, .int (if j < 0 then -j else j)])) := S2.upd (S2.free hl4)
          have S4 : Same H1 (upd (upd H2 l4 (.lst [.int 0, .int 1, .int 2, .int (if j < 0 then -j else j)])) tp (.tup [.str "blank", .int m])) := S3.upd (S3.free htp)
          have hL5 : upd (upd H2 l4 (.lst [.int 0, .int 1, .int 2, .int (if j < 0 then -j else j)])) tp (.tup [.str "blank", .int m]) lp = some (.lst xs) := by rw [upd_ne (ne_of_none hL3 htp)]; exact hL3
          refine ⟨lp, xs, .ref tp, rfl, rfl, hL5, lt_line (by omega), ?_⟩
          exact done _ (.ref tp) (.blk m) xs ks _ _ (hS.trans S4) hL5 (kX.mono S4.tk) ⟨tp, rfl, upd_same⟩ ⟨hm0, hmf⟩ hok (by simp only [Kd.size]; omega)
    · refine ite2 (fun z => absurd (by simpa using z) h1) fun _ => ?_
      · refine iteF ?_
        refine ⟨_, rfl, rfl, _, rfl, ?_⟩
        by_cases h3 : c % 4 = 1
        · refine ite2 (fun _ => ?_) fun z => absurd (by simp [h3]) z
          refine ⟨_, rfl, .inl ⟨rfl, _, SqL.of hL⟩, (by show 1 ≤ sizeLine; decide), fun tp htp => ?_⟩
          have hL5 : upd H1 tp (.tup [.str "number"]) lp = some (.lst xs) := by rw [upd_ne (ne_of_none hL htp)]; exact hL
          refine ⟨lp, xs, .ref tp, rfl, rfl, hL5, lt_line (by omega), ?_⟩
          exact done _ (.ref tp) .num xs ks _ _ (hS.upd (hS.free htp)) hL5 (kX.mono (Tk.new htp)) ⟨tp, rfl, upd_same⟩ ⟨trivial, trivial⟩ hok (by simp only [Kd.size]; omega)
        · refine ite2 (fun z => absurd (by simpa using z) h3) fun _ => ?_
          refine ⟨_, rfl, .inl ⟨rfl, _, SqL.of hL⟩, ?_⟩
          refine ⟨_, rfl, _, _, rfl, rfl, ⟨by decide, by decide⟩, c / 4, rfl, fun j H2 hjf S2 => ?_⟩
          refine ⟨j, rfl, (by show 4 ≤ sizeLine; decide), fun l4 hl4 => ?_⟩
          refine ⟨_, rfl, _, _, rfl, rfl, ⟨by decide, by decide⟩, _, _, rfl, rfl, (by show (0 : Int) < 4; decide), ?_⟩
          obtain ⟨m, hm0, hmf, hm⟩ := pick4 (i := c / 4 % 4) (j := if j < 0 then -j else j) (Int.emod_nonneg _ (by decide)) (Int.emod_lt_of_pos _ (by decide)) (by split <;> omega) (by split <;> omega)
          refine ⟨l4, _, _, _, rfl, rfl, SqL.of upd_same, hm, (by show 2 ≤ sizeLine; decide), fun tp htp => ?_⟩
          have hL2 : H2 lp = some (.lst xs) := S2 _ _ hL
          have hL3 := (show upd H2 l4 (.lst [.int 0, .int 1, .int 2, .int (if j < 0 then -j else j)]) lp = some (.lst xs) by rw [upd_ne (ne_of_none hL2 hl4)]; exact hL2)
          have S3 : Same H1 (upd H2 l4 (.lst [.int 0, .int 1, .int 2, .int (if j < 0 then -j else j)])) := S2.upd (S2.free hl4)
          have S4 : Same H1 (upd (upd H2 l4 (.lst [.int 0, .int 1, .int 2, .int (if j < 0 then -j else j)])) tp (.tup [.str "blank", .int m])) := S3.upd (S3.free htp)
          have hL5 : upd (upd H2 l4 (.lst [.int 0, .int 1, .int 2, .int (if j < 0 then -j else j)])) tp (.tup [.str "blank", .int m]) lp = some (.lst xs) := by rw [upd_ne (ne_of_none hL3 htp)]; exact hL3
          refine ⟨lp, xs, .ref tp, rfl, rfl, hL5, lt_line (by omega), ?_⟩
          exact done _ (.ref tp) (.blk m) xs ks _ _ (hS.trans S4) hL5 (kX.mono S4.tk) ⟨tp, rfl, upd_same⟩ ⟨hm0, hmf⟩ hok (by simp only [Kd.size]; omega)
  · obtain ⟨o, w', one, kd, xs, ks, rfl, hS, hL, kX, hok, hsum⟩ := hP
    rw [hlen] at hsum
    refine ⟨(by show 1 ≤ sizeLine; decide), fun tn htn => ?_⟩
    have hL1 : upd H1 tn (.tup [.str "number"]) lp = some (.lst xs) := by rw [upd_ne (ne_of_none hL htn)]; exact hL
    have hks := sumK_length ks
    refine ⟨(fun m σ H2 => ∃ o w' one kv xs ks k, σ = [some (.ref a), some (.ref lp), o, w', one, some kv] ∧ m = xs.length ∧ Same H H2 ∧ H2 lp = some (.lst xs) ∧ Ks H2 xs ks ∧ (∀ k ∈ ks, k.ok ∧ k.few) ∧ KAt H2 kv k ∧ (k.ok ∧ k.few) ∧ k.size + sumK ks + ks.length ≤ 2 * ns.length + 1),
      ⟨xs.length, o, w', one, .ref tn, xs, ks, .num, rfl, rfl, hS.upd (hS.free htn), hL1, kX.mono (Tk.new htn), hok, ⟨tn, rfl, upd_same⟩, ⟨trivial, trivial⟩, by simp only [Kd.size]; omega⟩, ?_⟩
    rintro m σ H2 ⟨o, w', one, kv, xs, ks, k, rfl, rfl, hS, hL, kX, hok, kk, okk, hsz⟩
    refine ⟨_, rfl, Nat.zero_le _, fun le hle => ?_⟩
    have S1 : Same H (upd H2 le (.lst [])) := hS.upd (hS.free hle)
    have tk0 : Tk H2 (upd H2 le (.lst [])) := Tk.new hle
    have hL0 : upd H2 le (.lst []) lp = some (.lst xs) := by rw [upd_ne (ne_of_none hL hle)]; exact hL
    refine ⟨lp, le, xs, rfl, rfl, SqL.of hL0, SqL.of upd_same, _, rfl, ?_⟩
    have kX0 := kX.mono tk0
    have kk0 := kk.mono tk0
    generalize upd H2 le (.lst []) = H3 at S1 hL0 kX0 kk0 ⊢
    rcases List.eq_nil_or_concat xs with rfl | ⟨xs', y, rfl⟩
    · cases kX0
      exact iteF ⟨_, rfl, q kv k H3 S1 kk0 okk (by simp [sumK] at hsz; omega)⟩
    · rw [List.concat_eq_append] at hL0 kX0 ⊢
      obtain ⟨ks', ky, rfl, kX1, ky1⟩ := paired_snoc_inv' kX0
      have he : (!(xs' ++ [y]).isEmpty) = true := by simp
      refine iteB he ?_
      refine ⟨_, fun _ _ z => z, ?_⟩
      refine ⟨(by show 2 ≤ sizeLine; decide), fun lc hlc => ?_⟩
      have S2 : Same H (upd H3 lc (.lst [.str "pair", .str "to"])) := S1.upd (S1.free hlc)
      have tk2 : Tk H3 (upd H3 lc (.lst [.str "pair", .str "to"])) := Tk.new hlc
      have hL2 : upd H3 lc (.lst [.str "pair", .str "to"]) lp = some (.lst (xs' ++ [y])) := by rw [upd_ne (ne_of_none hL0 hlc)]; exact hL0
      obtain ⟨b, hb⟩ := pick2 (i := (((xs' ++ [y]).length : Nat) : Int) % 2) (by omega)
      refine ⟨_, rfl, lp, _, rfl, .inl (SqL.of hL2), _, _, rfl, rfl, (by show (0 : Int) < 2; decide), lc, _, _, _, rfl, rfl, SqL.of upd_same, hb, ?_⟩
      refine ⟨_, rfl, .inl ⟨rfl, _, SqL.of hL2⟩, lp, _, y, rfl, rfl, hL2, by simp, ?_⟩
      rw [List.dropLast_concat]
      have tk3 : Tk H3 (upd (upd H3 lc (.lst [.str "pair", .str "to"])) lp (.lst xs')) := tk2.trans (Tk.lst hL2)
      have S3 : Same H (upd (upd H3 lc (.lst [.str "pair", .str "to"])) lp (.lst xs')) := S2.upd hlp
      refine ⟨_, rfl, (by show 3 ≤ sizeLine; decide), fun tp htp => ?_⟩
      have hL4 : upd (upd (upd H3 lc (.lst [.str "pair", .str "to"])) lp (.lst xs')) tp (.tup [.str (tag b), y, kv]) lp = some (.lst xs') := by rw [upd_ne (ne_of_none upd_same htp), upd_same]
      have tk4 := tk3.trans (Tk.new (o := .tup [.str (tag b), y, kv]) htp)
      rw [sumK_snoc, List.length_append] at hsz
      have hl1 : [ky].length = 1 := rfl
      refine ⟨xs'.length, by simp, _, _, _, .ref tp, xs', ks', .two b ky k, rfl, rfl, S3.upd (S3.free htp), hL4, Ks.mono tk4 kX1, fun k hk => hok k (by simp [hk]), ⟨tp, y, kv, rfl, upd_same, ky1.mono tk4, kk0.mono tk4⟩, ⟨⟨(hok ky (by simp)).1, okk.1⟩, ⟨(hok ky (by simp)).2, okk.2⟩⟩, by simp only [Kd.size]; omega⟩
end
end K1

set_option Elab.async false
set_option maxRecDepth 100000
namespace K1
open PySem L2 Wk
def klen : Kd → Nat
  | .num => 1
  | .blk _ => 2
  | .two _ _ _ => 3
abbrev szs : List (Key × V) := [(Sum.inr "number", .int 1), (Sum.inr "blank", .int 2), (Sum.inr "pair", .int 3), (Sum.inr "to", .int 3)]
theorem valV_szs (k : Kd) : valV (mergeK [] szs) (Sum.inr (hdS k)) = some (.int (klen k)) := by
  cases k with
  | num => show valV (mergeK [] szs) (Sum.inr "number") = some (.int 1); decide +kernel
  | blk n => show valV (mergeK [] szs) (Sum.inr "blank") = some (.int 2); decide +kernel
  | two f a b =>
    cases f
    · show valV (mergeK [] szs) (Sum.inr "pair") = some (.int 3); decide +kernel
    · show valV (mergeK [] szs) (Sum.inr "to") = some (.int 3); decide +kernel
theorem rest_klen {H : Hp} {k : Kd} {xs : List V} (h : Rest H k xs) (y : V) : (y :: xs).length = klen k := by
  cases k with
  | num => cases h; rfl
  | blk n => cases h; rfl
  | two f a b => obtain ⟨x, y, rfl, _⟩ := h; rfl
section
variable {P : Program} {w : World} {K : PySem.W.Frag} {mg : Str → Option Value} {base : Heap} {f g : Addr} {fd gd : FuncData}
/-! ### _law_is_kind -/
def spIsKind : Sp := fun vs H Q _ => ∃ v k, vs = [v] ∧ KAt H v k ∧ k.ok ∧ k.size ≤ 100000 ∧ ∀ H', Same H H' → Q (.bl true) H'
theorem scIsKind : FnScope ["_law_found", "_law_todo", "_law_part", "_law_sizes"] ["_law_found"] (defScope sIsKind) := ⟨rfl, rfl, rfl, by decide +kernel, rfl, by decide +kernel, by decide +kernel⟩
set_option maxHeartbeats 4000000 in
theorem ok_isKind (F : Fun K "_law_is_kind" "_law_is_kind" sIsKind f fd) (G : FnOk P w K mg base CX0 1 g gd ["_law_found"] spWhole) (bG : Binds K gd ["_law_found"] []) (kG : PySem.W.keepIn K (.ref g) = true) (mG : mg "_law_whole" = some (.ref g)) (ml : mg "len" = none)
    (mi : mg "isinstance" = none) (mt : mg "tuple" = none) (ms : mg "str" = none) : FnOk P w K mg base CX0 2 f fd ["_law_found"] spIsKind := by
  refine F.ok scIsKind (fun vs H Q E h => ?_) (fun cdv A outer s H vs Q E hr h => ?_)
  · obtain ⟨v, k, rfl, _⟩ := h
    rfl
  obtain ⟨v, k, rfl, hk, hok, hB, q⟩ := h
  have nd := scIsKind.nd
  have hu := hu_of hr
  refine ⟨_, pss_cons (ps_set (i := 1) nd rfl (Or.inl rfl) (pe_lst (pa_cons (pv 0) pa_nil)))
    (pss_cons (ps_while PassesOwn.never (pt_cmpR (op_neE (Nat.lt_of_succ_lt hu)) (pv 1) (pe_lst pa_nil) (nomark _))
      (pss_cons (ps_set (i := 2) nd rfl (Or.inl rfl) (pe_bm0 PySem.F.plainAttrs_list PySem.F.slot_list_pop PySem.F.type_list_pop mt_pop (pv 1)))
      (pss_cons (ps_if (PW.pt (pw_or (pt_not (pt_truth (pe_callB call_isi rfl mi PyProof.Rows.boot_isinstance (pa_cons (pv 2) (pa_cons (pe_bltn (v := .ty "tuple") rfl mt PyProof.Rows.boot_tuple rfl) pa_nil))) (fun _ => rfl)))
          (pw_or (pt_cmpR op_eq (pe_callB call_len_seq rfl ml PySem.boot_len (pa_cons (pv 2) pa_nil)) pe_int (nomark _))
            (pw_or1 (pt_not (pt_truth (pe_callB call_isi rfl mi PyProof.Rows.boot_isinstance (pa_cons (pe_ix ix_tup (pv 2) pe_int (fun _ _ => rfl)) (pa_cons (pe_bltn (v := .ty "str") rfl ms PyProof.Rows.boot_str rfl) pa_nil))) (fun _ => rfl)))))))
          (pss_one (ps_ret pe_bl)) pss_nil)
      (pss_cons (ps_set (i := 3) nd rfl (Or.inl rfl) (pe_disp (pps_cons pe_str pe_int (pps_cons pe_str pe_int (pps_cons pe_str pe_int (pps_cons pe_str pe_int pps_nil)))) rfl rfl (by simp) (by decide)))
      (pss_cons (ps_if (pt_cmpR op_ne (pe_dget2 hu (pv 3) (pe_ix ix_tup (pv 2) pe_int (fun _ _ => rfl)) pe_int ⟨rfl, rfl, rfl, rfl⟩) (pe_callB call_len_seq rfl ml PySem.boot_len (pa_cons (pv 2) pa_nil)) (nomark _)) (pss_one (ps_ret pe_bl)) pss_nil)
      (pss_cons (ps_if (PW.pt (pw_and (pt_cmpR op_eq (pe_ix ix_tup (pv 2) pe_int (fun _ _ => rfl)) pe_str (nomark _))
          (pw_and1 (PW.pt (pw_or (pt_not (pt_truth (pe_call G hr rfl mG kG bG .nil pass0 (pa_cons (pe_ix ix_tup (pv 2) pe_int (fun _ _ => rfl)) pa_nil)) (fun _ => rfl))) (pw_or1 (pt_cmpR op_lt (pe_ix ix_tup (pv 2) pe_int (fun _ _ => rfl)) pe_int (nomark _))))))))
          (pss_one (ps_ret pe_bl)) pss_nil)
      (pss_one (ps_if (pt_cmpR op_eq (pe_callB call_len_seq rfl ml PySem.boot_len (pa_cons (pv 2) pa_nil)) pe_int (nomark _))
        (pss_one (ps_set (i := 1) nd rfl (Or.inl rfl) (pe_op op_cat (pv 1) (pe_lst (pa_cons (pe_ix ix_tup (pv 2) pe_int (fun _ _ => rfl)) (pa_cons (pe_ix ix_tup (pv 2) pe_int (fun _ _ => rfl)) pa_nil))))))
        pss_nil))))))))
    (pss_one (ps_ret pe_bl))), ?_⟩
  refine ⟨_, rfl, (by show 1 ≤ sizeLine; decide), fun lw0 hlw0 => ?_⟩
  have S0 : Same H (upd H lw0 (.lst [v])) := Same.new hlw0
  refine ⟨(fun m σ H1 => ∃ p z ws ks lw, σ = [some v, some (.ref lw), p, z] ∧ H lw = none ∧ m = sumK ks ∧ Same H H1 ∧ H1 lw = some (.lst ws) ∧ Ks H1 ws ks ∧ (∀ k ∈ ks, k.ok) ∧ sumK ks ≤ 100000),
    ⟨sumK [k], none, none, [v], [k], lw0, rfl, hlw0, rfl, S0, upd_same, .cons (hk.mono S0.tk) .nil, by simpa using hok, by simpa [sumK] using hB⟩, ?_⟩
  rintro m σ H1 ⟨p, z, ws, ks, lw, rfl, hlw, rfl, hS, hW, kW, okW, hZ⟩
  have hlen : ws.length ≤ 100000 := by rw [Paired.length kW]; exact Nat.le_trans (sumK_length ks) hZ
  refine ⟨_, rfl, Nat.zero_le _, fun le hle => ?_⟩
  have S1 : Same H (upd H1 le (.lst [])) := hS.upd (hS.free hle)
  have tk0 : Tk H1 (upd H1 le (.lst [])) := Tk.new hle
  have hW0 : upd H1 le (.lst []) lw = some (.lst ws) := by rw [upd_ne (ne_of_none hW hle)]; exact hW
  refine ⟨lw, le, ws, rfl, rfl, SqL.of hW0, SqL.of upd_same, _, rfl, ?_⟩
  have kW0 := kW.mono tk0
  generalize upd H1 le (.lst []) = H2 at S1 hW0 kW0 ⊢
  rcases List.eq_nil_or_concat ws with rfl | ⟨ws', x, rfl⟩
  · exact iteF (q H2 S1)
  · rw [List.concat_eq_append] at hW0 kW0 hlen ⊢
    obtain ⟨ks', t, rfl, kW1, kx⟩ := paired_snoc_inv' kW0
    have he : (!(ws' ++ [x]).isEmpty) = true := by simp
    refine iteB he ?_
    refine ⟨_, fun _ _ z => z, ?_⟩
    refine ⟨_, rfl, .inl ⟨rfl, _, SqL.of hW0⟩, lw, ws' ++ [x], x, rfl, rfl, hW0, by simp, ?_⟩
    rw [List.dropLast_concat]
    have tk1 : Tk H2 (upd H2 lw (.lst ws')) := Tk.lst hW0
    have S2 : Same H (upd H2 lw (.lst ws')) := S1.upd hlw
    have hW2 : upd H2 lw (.lst ws') lw = some (.lst ws') := upd_same
    have kW2 := Ks.mono tk1 kW1
    have kx2 := kx.mono tk1
    generalize upd H2 lw (.lst ws') = H3 at S2 hW2 kW2 kx2 ⊢
    obtain ⟨px, xs, rfl, hx, rx⟩ := kx2.shape
    refine ⟨_, rfl, .ref px, "tuple", _, true, rfl, .tup hx, kit_same _ _, true, rfl, iteF ?_⟩
    refine ⟨_, rfl, px, _, rfl, .inr (SqT.of hx), rfl, _, rfl, ?_⟩
    refine ite2 (fun z => absurd z (by simp; omega)) fun _ => ?_
    refine ⟨_, rfl, px, _, 0, _, rfl, rfl, SqT.of hx, atI_nat (j := 0) rfl, .str _, "str", _, true, rfl, .str _, kit_same _ _, true, rfl, iteF ?_⟩
    intro ld hld
    refine ⟨upd_same, szs, rfl, by decide, ?_⟩
    rw [upd_upd]
    have S4 : Same H (upd H3 ld (.dK (mergeK [] szs))) := S2.upd (S2.free hld)
    have tk4 : Tk H3 (upd H3 ld (.dK (mergeK [] szs))) := Tk.new hld
    have hW4 : upd H3 ld (.dK (mergeK [] szs)) lw = some (.lst ws') := by rw [upd_ne (ne_of_none hW2 hld)]; exact hW2
    have hx4 := tk4 _ _ hx
    have rx4 := rx.mono tk4
    have kW4 := kW2.mono tk4
    have hd4 : upd H3 ld (.dK (mergeK [] szs)) ld = some (.dK (mergeK [] szs)) := upd_same
    generalize upd H3 ld (.dK (mergeK [] szs)) = H4 at S4 hW4 hx4 rx4 kW4 hd4 ⊢
    refine ⟨_, rfl, ld, rfl, .inl ⟨_, .inl hd4⟩, ?_⟩
    refine ⟨_, rfl, px, _, 0, _, rfl, rfl, SqT.of hx4, atI_nat (j := 0) rfl, some (.int (klen t)), by rw [← valV_szs]; exact DGet.k (k := Sum.inr (hdS t)) hd4, ?_⟩
    refine ⟨_, rfl, px, _, rfl, .inr (SqT.of hx4), rfl, _, rfl, ?_⟩
    refine ite2 (fun z => absurd z (by rw [rest_klen rx4]; simp)) fun _ => ?_
    refine ⟨_, rfl, px, _, 0, _, rfl, rfl, SqT.of hx4, atI_nat (j := 0) rfl, rfl, _, rfl, ?_⟩
    have okt : t.ok := okW t (by simp)
    have okW' : ∀ k ∈ ks', k.ok := fun k hk => okW k (by simp [hk])
    rw [sumK_snoc] at hZ
    cases t with
    | num =>
      refine ite2 (fun z => absurd z (by simp [hdS]; decide)) fun _ => ?_
      refine iteF ?_
      refine ⟨_, rfl, px, _, rfl, .inr (SqT.of hx4), rfl, _, rfl, ?_⟩
      refine ite2 (fun z => absurd z (by rw [rest_klen rx4]; simp [klen])) fun _ => ?_
      exact ⟨sumK ks', by rw [sumK_snoc]; simp only [Kd.size]; omega, _, _, ws', ks', lw, rfl, hlw, rfl, S4, hW4, kW4, okW', by omega⟩
    | blk n =>
      refine ite2 (fun _ => ?_) fun z => absurd (by simp [hdS]) z
      cases rx4
      refine ⟨_, rfl, px, _, 1, _, rfl, rfl, SqT.of hx4, atI_nat (j := 1) rfl, n, rfl, true, rfl, iteF ?_⟩
      refine ⟨_, rfl, px, _, 1, _, rfl, rfl, SqT.of hx4, atI_nat (j := 1) rfl, _, _, rfl, rfl, _, rfl, ?_⟩
      have hn : 0 ≤ n := okt
      refine ite2 (fun z => absurd z (by simpa using hn)) fun _ => ?_
      refine ⟨_, rfl, px, _, rfl, .inr (SqT.of hx4), rfl, _, rfl, ?_⟩
      refine ite2 (fun z => absurd z (by simp)) fun _ => ?_
      exact ⟨sumK ks', by rw [sumK_snoc]; simp only [Kd.size]; omega, _, _, ws', ks', lw, rfl, hlw, rfl, S4, hW4, kW4, okW', by omega⟩
    | two g' a b =>
      refine ite2 (fun z => absurd z (by simp [hdS, tag_blk])) fun _ => ?_
      refine iteF ?_
      refine ⟨_, rfl, px, _, rfl, .inr (SqT.of hx4), rfl, _, rfl, ?_⟩
      obtain ⟨xa, xb, rfl, ka, kb⟩ := rx4
      refine ite2 (fun _ => ?_) fun z => absurd (by simp) z
      refine ⟨_, rfl, _, rfl, px, _, 1, xa, rfl, rfl, SqT.of hx4, atI_nat (j := 1) rfl, _, rfl, px, _, 2, xb, rfl, rfl, SqT.of hx4, atI_nat (j := 2) rfl, (by show 2 ≤ sizeLine; decide), fun l2 hl2 => ?_⟩
      have hW5 : upd H4 l2 (.lst [xa, xb]) lw = some (.lst ws') := by rw [upd_ne (ne_of_none hW4 hl2)]; exact hW4
      refine ⟨lw, l2, ws', [xa, xb], rfl, rfl, hW5, upd_same, le_line (by simp at hlen ⊢; omega), fun l3 hl3 => ?_⟩
      have S5 : Same H (upd H4 l2 (.lst [xa, xb])) := S4.upd (S4.free hl2)
      have S6 : Same H (upd (upd H4 l2 (.lst [xa, xb])) l3 (.lst (ws' ++ [xa, xb]))) := S5.upd (S5.free hl3)
      have tk6 : Tk H4 (upd (upd H4 l2 (.lst [xa, xb])) l3 (.lst (ws' ++ [xa, xb]))) := (Tk.new hl2).trans (Tk.new hl3)
      have e1 : sumK (ks' ++ [a, b]) = sumK ks' + a.size + b.size := by simp [sumK]; omega
      refine ⟨sumK (ks' ++ [a, b]), by rw [sumK_snoc, e1]; simp only [Kd.size]; omega, _, _, ws' ++ [xa, xb], ks' ++ [a, b], l3, rfl, S5.free hl3, rfl, S6, upd_same, paired_app (kW4.mono tk6) (.cons (ka.mono tk6) (.cons (kb.mono tk6) .nil)), fun k hk => ?_, by rw [e1]; simp only [Kd.size] at hZ; omega⟩
      rcases List.mem_append.mp hk with z | z
      · exact okW' k z
      · rcases List.mem_cons.mp z with z | z
        · rw [z]; exact okt.1
        · rw [List.mem_singleton.mp z]; exact okt.2
end
end K1

set_option Elab.async false
set_option maxRecDepth 100000
namespace K1
open PySem L2 Wk
theorem hu3_of {A : Around} {k : Nat} (hr : Room k A) (hk : 180 ≤ k) : A.units + 3000 < cLine := by have := hr.un; omega
section
variable {P : Program} {w : World} {K : PySem.W.Frag} {mg : Str → Option Value} {base : Heap} {f g : Addr} {fd gd : FuncData}
/-! ### _law_instance -/
def spInstance : Sp := fun vs H Q _ => ∃ v1 lk v2 k1 k2, vs = [v1, .ref lk, v2] ∧ KAt H v1 k1 ∧ H lk = some (.lst []) ∧ KAt H v2 k2 ∧ k1.size ≤ 50000 ∧ k2.deep ≤ 3000 ∧ ∀ H', Same H H' → Q (.bl (fit k1 k2)) H'
theorem scInstance : FnScope ["_law_wide", "_law_kept", "_law_kind", "_law_filling", "_law_todo", "_law_here", "_law_there"] ["_law_wide", "_law_kept", "_law_kind"] (defScope sInstance) := ⟨rfl, rfl, rfl, by decide +kernel, rfl, by decide +kernel, by decide +kernel⟩
set_option maxHeartbeats 4000000 in
theorem ok_instance (F : Fun K "_law_instance" "_law_instance" sInstance f fd) (ml : mg "len" = none) : FnOk P w K mg base CX0 200 f fd ["_law_wide", "_law_kept", "_law_kind"] spInstance := by
  refine F.ok (k := 199) scInstance (fun vs H Q E h => ?_) (fun cdv A outer s H vs Q E hr h => ?_)
  · obtain ⟨v1, lk, v2, k1, k2, rfl, _⟩ := h
    rfl
  obtain ⟨v1, lk, v2, k1, k2, rfl, h1, hlk, h2, hB1, hB2, q⟩ := h
  have nd := scInstance.nd
  have hu := hu_of hr
  have hu3 := hu3_of hr (by decide)
  refine ⟨_, pss_cons (ps_set (i := 3) nd rfl (Or.inl rfl) pe_dnewK)
    (pss_cons (ps_set (i := 4) nd rfl (Or.inl rfl) (pe_lst (pa_cons (pe_tup (pa_cons (pv 0) (pa_cons (pv 2) pa_nil))) pa_nil)))
    (pss_cons (ps_while PassesOwn.never (pt_cmpR (op_neE (Nat.lt_of_succ_lt hu)) (pv 4) (pe_lst pa_nil) (nomark _))
      (pss_cons (ps_asg (pe_bm0 PySem.F.plainAttrs_list PySem.F.slot_list_pop PySem.F.type_list_pop mt_pop (pv 4)) (pg_tup rfl (pgs_cons (pg_name (i := 5) nd rfl (Or.inl rfl)) (pgs_cons (pg_name (i := 6) nd rfl (Or.inl rfl)) pgs_nil))))
      (pss_one (ps_if (PW.pt (pw_and (pt_cmpR op_eq (pe_ix ix_tup (pv 5) pe_int (fun _ _ => rfl)) pe_str (nomark _)) (pw_and1 (pt_cmpR op_in_seq (pe_ix ix_tup (pv 5) pe_int (fun _ _ => rfl)) (pv 1) rfl))))
        pss_never
        (pss_one (ps_if (pt_cmpR op_eq (pe_ix ix_tup (pv 5) pe_int (fun _ _ => rfl)) pe_str (nomark _))
          (pss_cons (ps_if (PW.pt (pw_and (pt_cmp (pc_din hu (pe_ix ix_tup (pv 5) pe_int (fun _ _ => rfl)) (pv 3))) (pw_and1 (pt_cmpR (op_neK hu3) (pe_dget hu (pv 3) (pe_ix ix_tup (pv 5) pe_int (fun _ _ => rfl)) (fun _ _ => rfl)) (pv 6) (nomark _))))) (pss_one (ps_ret pe_bl)) pss_nil)
            (pss_one (ps_dput hu (pv 3) (pe_ix ix_tup (pv 5) pe_int (fun _ _ => rfl)) (pv 6) rfl)))
          (pss_one (ps_if (pt_cmpR op_ne (pe_ix ix_tup (pv 5) pe_int (fun _ _ => rfl)) (pe_ix ix_tup (pv 6) pe_int (fun _ _ => rfl)) (nomark _)) (pss_one (ps_ret pe_bl))
            (pss_one (ps_if (pt_cmpR op_eq (pe_callB call_len_seq rfl ml PySem.boot_len (pa_cons (pv 5) pa_nil)) pe_int (nomark _))
              (pss_one (ps_set (i := 4) nd rfl (Or.inl rfl) (pe_op op_cat (pv 4) (pe_lst (pa_cons (pe_tup (pa_cons (pe_ix ix_tup (pv 5) pe_int (fun _ _ => rfl)) (pa_cons (pe_ix ix_tup (pv 6) pe_int (fun _ _ => rfl)) pa_nil)))
                (pa_cons (pe_tup (pa_cons (pe_ix ix_tup (pv 5) pe_int (fun _ _ => rfl)) (pa_cons (pe_ix ix_tup (pv 6) pe_int (fun _ _ => rfl)) pa_nil))) pa_nil))))))
              pss_nil))))))))))
    (pss_one (ps_ret pe_bl)))), ?_⟩
  intro ld hld
  refine ⟨_, rfl, _, rfl, (by show 2 ≤ sizeLine; decide), fun lp hlp => ?_⟩
  refine ⟨(by show 1 ≤ sizeLine; decide), fun lw0 hlw => ?_⟩
  have S1 : Same H (upd H ld (.dK [])) := Same.new hld
  have hlp0 : H lp = none := S1.free hlp
  have S2 : Same H (upd (upd H ld (.dK [])) lp (.tup [v1, v2])) := S1.upd hlp0
  have hlw0 : H lw0 = none := S2.free hlw
  have hdp : ld ≠ lp := fun z => by rw [← z, upd_same] at hlp; cases hlp
  have hpw : lp ≠ lw0 := fun z => by rw [← z, upd_same] at hlw; cases hlw
  have hdw : ld ≠ lw0 := fun z => by rw [← z, upd_ne hdp, upd_same] at hlw; cases hlw
  have S3 : Same H (upd (upd (upd H ld (.dK [])) lp (.tup [v1, v2])) lw0 (.lst [.ref lp])) := S2.upd hlw0
  refine ⟨(fun m σ H1 => ∃ hh tt kvs ws ps φ lw, σ = [some v1, some (.ref lk), some v2, some (.ref ld), some (.ref lw), hh, tt] ∧ H lw = none ∧ m = sizes ps ∧ Same H H1 ∧ H1 ld = some (.dK kvs) ∧ H1 lw = some (.lst ws) ∧ Ps H1 ws ps.reverse ∧ DAt H1 kvs φ ∧
      mts φ ps = mts (fun _ => none) [(k1, k2)] ∧ kvs.length + sizes ps ≤ 50000 ∧ (∀ p ∈ ps, p.2.deep ≤ 3000) ∧ (∀ n t, φ n = some t → t.deep ≤ 3000)),
    ⟨sizes [(k1, k2)], none, none, [], [.ref lp], [(k1, k2)], fun _ => none, lw0, rfl, hlw0, rfl, S3, by rw [upd_ne hdw, upd_ne hdp, upd_same], upd_same, .cons ⟨lp, v1, v2, rfl, by rw [upd_ne hpw, upd_same], h1.mono S3.tk, h2.mono S3.tk⟩ .nil, DAt.nil _, rfl, by simpa [sizes] using hB1, by simpa using hB2, fun _ _ z => by cases z⟩, ?_⟩
  rintro m σ H1 ⟨hh, tt, kvs, ws, ps, φ, lw, rfl, hlw0, rfl, hS, hD, hW, kW, kD, hE, hZ, hP, hφ⟩
  have hlen : ws.length ≤ 50000 := by rw [Paired.length kW, List.length_reverse]; have := sizes_length ps; omega
  refine ⟨_, rfl, Nat.zero_le _, fun le hle => ?_⟩
  have S1 : Same H (upd H1 le (.lst [])) := hS.upd (hS.free hle)
  have tk0 : Tk H1 (upd H1 le (.lst [])) := Tk.new hle
  have hD0 : upd H1 le (.lst []) ld = some (.dK kvs) := by rw [upd_ne (ne_of_none hD hle)]; exact hD
  have hW0 : upd H1 le (.lst []) lw = some (.lst ws) := by rw [upd_ne (ne_of_none hW hle)]; exact hW
  refine ⟨lw, le, ws, rfl, rfl, SqL.of hW0, SqL.of upd_same, _, rfl, ?_⟩
  have kW0 := kW.mono tk0
  have kD0 := kD.mono tk0
  generalize upd H1 le (.lst []) = H1 at S1 hD0 hW0 kW0 kD0 ⊢
  cases ps with
  | nil =>
    cases kW0
    refine iteF ?_
    have := q H1 S1
    unfold fit at this
    rw [← hE] at this
    exact this
  | cons p rest =>
    obtain ⟨a, c⟩ := p
    rw [List.reverse_cons] at kW0
    obtain ⟨ws', x, rfl, kW', kx⟩ := paired_snoc_inv kW0
    have he : (!(ws' ++ [x]).isEmpty) = true := by simp
    refine iteB he ?_
    refine ⟨_, fun _ _ z => z, ?_⟩
    refine ⟨_, rfl, .inl ⟨rfl, _, SqL.of hW0⟩, lw, ws' ++ [x], x, rfl, rfl, hW0, by simp, ?_⟩
    rw [List.dropLast_concat]
    have tk1 : Tk H1 (upd H1 lw (.lst ws')) := Tk.lst hW0
    have S2 : Same H (upd H1 lw (.lst ws')) := S1.upd hlw0
    have hdw : ld ≠ lw := ne_of hD0 hW0 (by intro z; cases z)
    have kW1 := Ps.mono tk1 kW'
    have kD1 := kD0.mono tk1
    have kx1 := PAt.mono tk1 kx
    have hW1 : upd H1 lw (.lst ws') lw = some (.lst ws') := upd_same
    have hD1 : upd H1 lw (.lst ws') ld = some (.dK kvs) := by rw [upd_ne hdw]; exact hD0
    have hl' : ws'.length + 1 ≤ 50000 := by rw [List.length_append] at hlen; exact hlen
    generalize upd H1 lw (.lst ws') = H2 at S2 kW1 kD1 kx1 hW1 hD1 ⊢
    have hc2 : c.deep ≤ 3000 := hP (a, c) List.mem_cons_self
    have hP' : ∀ p ∈ rest, p.2.deep ≤ 3000 := fun p hp => hP p (List.mem_cons_of_mem _ hp)
    obtain ⟨px, xa, xc, rfl, hx, ka, kc⟩ := kx1
    refine ⟨px, _, rfl, SqT.of hx, rfl, xa, [xc], rfl, xc, [], rfl, rfl, ?_⟩
    obtain ⟨pa, as, rfl, ha, ra⟩ := ka.shape
    have hlk2 : H2 lk = some (.lst []) := S2 _ _ hlk
    refine ⟨_, rfl, pa, _, 0, _, rfl, rfl, SqT.of ha, atI_nat (j := 0) rfl, rfl, _, rfl, ?_⟩
    by_cases hb : hdS a = "blank"
    · refine ite2 (fun _ => ?_) fun z => absurd (by simp [hb]) z
      obtain ⟨n, rfl⟩ := hdS_blank.mp hb
      cases ra
      refine ⟨_, rfl, pa, _, 1, _, rfl, rfl, SqT.of ha, atI_nat (j := 1) rfl, _, rfl, lk, [], rfl, .inl (SqL.of hlk2), rfl, rfl, _, rfl, ?_⟩
      refine iteF ?_
      refine ⟨_, rfl, pa, _, 0, _, rfl, rfl, SqT.of ha, atI_nat (j := 0) rfl, rfl, _, rfl, ?_⟩
      refine ite2 (fun _ => ?_) fun z => absurd (by simp [hdS]) z
      refine ⟨_, rfl, pa, _, 1, _, rfl, rfl, SqT.of ha, atI_nat (j := 1) rfl, _, rfl, ld, _, rfl, DGet.k (k := Sum.inl n) hD1, _, rfl, ?_⟩
      have hl2 := length_putK kvs (Sum.inl n) xc
      have put : mts φ ((Kd.blk n, c) :: rest) = mts (Wk.put φ n c) rest → ∃ m', m' < sizes ((Kd.blk n, c) :: rest) ∧ ∃ hh tt kvs' ws ps φ lw', [some v1, some (V.ref lk), some v2, some (.ref ld), some (.ref lw), some (V.ref pa), some xc] = [some v1, some (.ref lk), some v2, some (.ref ld), some (.ref lw'), hh, tt] ∧ H lw' = none ∧ m' = sizes ps ∧
          Same H (upd H2 ld (.dK (putK kvs (Sum.inl n) xc))) ∧ upd H2 ld (.dK (putK kvs (Sum.inl n) xc)) ld = some (.dK kvs') ∧ upd H2 ld (.dK (putK kvs (Sum.inl n) xc)) lw' = some (.lst ws) ∧ Ps (upd H2 ld (.dK (putK kvs (Sum.inl n) xc))) ws ps.reverse ∧ DAt (upd H2 ld (.dK (putK kvs (Sum.inl n) xc))) kvs' φ ∧
          mts φ ps = mts (fun _ => none) [(k1, k2)] ∧ kvs'.length + sizes ps ≤ 50000 ∧ (∀ p ∈ ps, p.2.deep ≤ 3000) ∧ (∀ n t, φ n = some t → t.deep ≤ 3000) := by
        intro em
        rw [em] at hE
        have tk2 : Tk H2 (upd H2 ld (.dK (putK kvs (Sum.inl n) xc))) := Tk.dic hD1
        refine ⟨sizes rest, by simp only [sizes, Kd.size]; omega, _, _, putK kvs (Sum.inl n) xc, ws', rest, Wk.put φ n c, lw, rfl, hlw0, rfl, S2.upd hld, upd_same, by rw [upd_ne hdw.symm]; exact hW1, kW1.mono tk2, (kD1.mono tk2).put n (kc.mono tk2), hE, by simp only [sizes, Kd.size] at hZ; omega, hP', fun m t z => ?_⟩
        unfold Wk.put at z
        split at z
        · cases z; exact hc2
        · exact hφ m t z
      rcases kD1 n with ⟨e1, e2⟩ | ⟨y, t, e1, e2, ky⟩
      · rw [e1]
        refine iteF ?_
        refine iteF ?_
        refine ⟨_, rfl, _, rfl, _, rfl, pa, _, 1, _, rfl, rfl, SqT.of ha, atI_nat (j := 1) rfl, ld, _, rfl, DPut.k (k := Sum.inl n) hD1 (lt_line (by omega)), ?_⟩
        exact put (by simp [mts, Wk.mt, e2])
      · have e3 : (valV kvs (Sum.inl n)).isSome = true := by rw [e1]; rfl
        rw [e3]
        refine iteT ?_
        refine ⟨_, rfl, _, rfl, pa, _, 1, _, rfl, rfl, SqT.of ha, atI_nat (j := 1) rfl, ld, y, rfl, by rw [← e1]; exact DGet.k (k := Sum.inl n) hD1, ?_⟩
        refine ⟨_, rfl, t, c, ky, kc, hφ n t e2, _, rfl, ?_⟩
        by_cases ht : t = c
        · refine ite2 (fun z => absurd z (by simp [ht])) fun _ => ?_
          refine ⟨_, rfl, _, rfl, _, rfl, pa, _, 1, _, rfl, rfl, SqT.of ha, atI_nat (j := 1) rfl, ld, _, rfl, DPut.k (k := Sum.inl n) hD1 (lt_line (by omega)), ?_⟩
          refine put ?_
          have ep : Wk.put φ n c = φ := put_same (by rw [← ht]; exact e2)
          rw [ep]
          simp [mts, Wk.mt, e2, ht]
        · refine ite2 (fun _ => ?_) fun z => absurd (by simp [ht]) z
          have em : mts φ ((Kd.blk n, c) :: rest) = none := by simp [mts, Wk.mt, e2, ht]
          have := q H2 S2
          unfold fit at this
          rw [← hE, em] at this
          exact this
    · refine ite2 (fun z => absurd z (by simp [hb])) fun _ => ?_
      refine iteF ?_
      refine ⟨_, rfl, pa, _, 0, _, rfl, rfl, SqT.of ha, atI_nat (j := 0) rfl, rfl, _, rfl, ?_⟩
      refine ite2 (fun z => absurd z (by simp [hb])) fun _ => ?_
      obtain ⟨pc, cs, rfl, hc, rc⟩ := kc.shape
      refine ⟨_, rfl, pa, _, 0, _, rfl, rfl, SqT.of ha, atI_nat (j := 0) rfl, _, rfl, pc, _, 0, _, rfl, rfl, SqT.of hc, atI_nat (j := 0) rfl, rfl, _, rfl, ?_⟩
      by_cases hh : hdS a = hdS c
      · refine ite2 (fun z => absurd z (by simp [hh])) fun _ => ?_
        refine ⟨_, rfl, pa, _, rfl, .inr (SqT.of ha), rfl, _, rfl, ?_⟩
        rcases hdS_same hh with ⟨rfl, rfl⟩ | ⟨n, m, rfl, rfl⟩ | ⟨g', a1, a2, c1, c2, rfl, rfl⟩
        · cases ra
          refine ite2 (fun z => absurd z (by simp)) fun _ => ?_
          have em : mts φ ((Kd.num, Kd.num) :: rest) = mts φ rest := by simp [mts, Wk.mt]
          rw [em] at hE
          exact ⟨sizes rest, by simp only [sizes, Kd.size]; omega, _, _, kvs, ws', rest, φ, lw, rfl, hlw0, rfl, S2, hD1, hW1, kW1, kD1, hE, by simp only [sizes] at hZ; omega, hP', hφ⟩
        · exact absurd rfl hb
        · obtain ⟨x1, x2, rfl, kx1, kx2⟩ := ra
          obtain ⟨y1, y2, rfl, ky1, ky2⟩ := rc
          refine ite2 (fun _ => ?_) fun z => absurd (by simp) z
          refine ⟨_, rfl, ?_⟩
          refine ⟨_, rfl, pa, _, 1, _, rfl, rfl, SqT.of ha, atI_nat (j := 1) rfl, _, rfl, pc, _, 1, _, rfl, rfl, SqT.of hc, atI_nat (j := 1) rfl, (by show 2 ≤ sizeLine; decide), fun t1 ht1 => ?_⟩
          have tk3 : Tk H2 (upd H2 t1 (.tup [x1, y1])) := Tk.new ht1
          have S3 : Same H2 (upd H2 t1 (.tup [x1, y1])) := Same.new ht1
          have ht13 : upd H2 t1 (.tup [x1, y1]) t1 = some (.tup [x1, y1]) := upd_same
          generalize upd H2 t1 (.tup [x1, y1]) = H3 at tk3 S3 ht13 ⊢
          refine ⟨_, rfl, pa, _, 2, _, rfl, rfl, SqT.of (tk3 _ _ ha), atI_nat (j := 2) rfl, _, rfl, pc, _, 2, _, rfl, rfl, SqT.of (tk3 _ _ hc), atI_nat (j := 2) rfl, (by show 2 ≤ sizeLine; decide), fun t2 ht2 => ?_⟩
          have S4 : Same H2 (upd H3 t2 (.tup [x2, y2])) := S3.upd (S3.free ht2)
          have ht14 : upd H3 t2 (.tup [x2, y2]) t1 = some (.tup [x1, y1]) := by rw [upd_ne (ne_of_none ht13 ht2)]; exact ht13
          have ht24 : upd H3 t2 (.tup [x2, y2]) t2 = some (.tup [x2, y2]) := upd_same
          generalize upd H3 t2 (.tup [x2, y2]) = H4 at S4 ht14 ht24 ⊢
          refine ⟨(by show 2 ≤ sizeLine; decide), fun l2 hl2 => ?_⟩
          have S5 : Same H2 (upd H4 l2 (.lst [.ref t1, .ref t2])) := S4.upd (S4.free hl2)
          have hW5 : upd H4 l2 (.lst [.ref t1, .ref t2]) lw = some (.lst ws') := S5 _ _ hW1
          refine ⟨lw, l2, ws', [.ref t1, .ref t2], rfl, rfl, hW5, upd_same, le_line (by simp; omega), fun l3 hl3 => ?_⟩
          have S6 : Same H2 (upd (upd H4 l2 (.lst [.ref t1, .ref t2])) l3 (.lst (ws' ++ [.ref t1, .ref t2]))) := S5.upd (S5.free hl3)
          have tk6 : Tk H4 (upd (upd H4 l2 (.lst [.ref t1, .ref t2])) l3 (.lst (ws' ++ [.ref t1, .ref t2]))) := (Tk.new hl2).trans (Tk.new hl3)
          rw [mts_two] at hE
          refine ⟨sizes ((a2, c2) :: (a1, c1) :: rest), by simp only [sizes, Kd.size]; omega, _, _, kvs, ws' ++ [.ref t1, .ref t2], (a2, c2) :: (a1, c1) :: rest, φ, l3, rfl, (S2.trans S5).free hl3, rfl, S2.trans S6, S6 _ _ hD1, upd_same, ?_, kD1.mono S6.tk, hE, by simp only [sizes, Kd.size] at hZ ⊢; omega, ?_, hφ⟩
          · rw [List.reverse_cons, List.reverse_cons, List.append_assoc]
            exact paired_app (kW1.mono S6.tk) (.cons ⟨t1, x1, y1, rfl, tk6 _ _ ht14, kx1.mono S6.tk, ky1.mono S6.tk⟩ (.cons ⟨t2, x2, y2, rfl, tk6 _ _ ht24, kx2.mono S6.tk, ky2.mono S6.tk⟩ .nil))
          · simp only [Kd.deep] at hc2
            intro p hp
            rcases List.mem_cons.mp hp with e | hp
            · subst e; show c2.deep ≤ _; omega
            · rcases List.mem_cons.mp hp with e | hp
              · subst e; show c1.deep ≤ _; omega
              · exact hP' p hp
      · refine ite2 (fun _ => ?_) fun z => absurd (by simp [hh]) z
        have em : mts φ ((a, c) :: rest) = none := by
          cases a with
          | num => cases c <;> first | exact absurd rfl hh | simp [mts, Wk.mt]
          | blk n => exact absurd rfl hb
          | two g' a1 a2 =>
            cases c with
            | num => simp [mts, Wk.mt]
            | blk m => simp [mts, Wk.mt]
            | two g2 c1 c2 =>
              have : g' ≠ g2 := fun z => hh (by rw [z]; rfl)
              simp [mts, Wk.mt, this]
        have := q H2 S2
        unfold fit at this
        rw [← hE, em] at this
        exact this
end
end K1

set_option Elab.async false
set_option maxRecDepth 100000
namespace K1
open PySem L2 Wk
theorem rank_put {os : List Int} {n : Int} (h : n ∉ os) : Wk.put (rank os) n (.blk (os.length : Nat)) = rank (os ++ [n]) := by
  funext m
  rw [rank_snoc os n m h]
  rfl
theorem ords_take (pre : List Kd) (ps : List Kd) (j : Nat) {t : Kd} (h : ps[j]? = some t) : ords (pre ++ ps.take (j + 1)) = seen (ords (pre ++ ps.take j)) t := by
  rw [List.take_add_one, h, ← List.append_assoc]
  exact ords_snoc _ _
theorem flat_take (ks : List Kd) (i : Nat) {k : Kd} (h : ks[i]? = some k) : flat (ks.take (i + 1)) = flat (ks.take i) ++ k.parts := by
  rw [List.take_add_one, h, flat_app]
  show _ ++ flat [k] = _
  rw [flat_one]
theorem flat_take_le (ks : List Kd) (i : Nat) : (flat (ks.take i)).length ≤ (flat ks).length := by
  have e : flat ks = flat (ks.take i) ++ flat (ks.drop i) := by rw [← flat_app, List.take_append_drop]
  rw [e, List.length_append]; omega
section
variable {P : Program} {w : World} {K : PySem.W.Frag} {mg : Str → Option Value} {base : Heap} {f g e : Addr} {fd gd ed : FuncData}
/-! ### _law_counted -/
def spCounted : Sp := fun vs H Q _ => ∃ l ws ks, vs = [.ref l] ∧ H l = some (.lst ws) ∧ Ks H ws ks ∧ (flat ks).length ≤ 100000 ∧ ∀ r ys H', Same H H' → H' r = some (.lst ys) → Ks H' ys (ks.map fun k => k.fill (rank (ords (flat ks)))) → Q (.ref r) H'
theorem scCounted : FnScope ["_law_kinds", "_law_filling", "_law_kind", "_law_part"] ["_law_kinds"] (defScope sCounted) := ⟨rfl, rfl, rfl, by decide +kernel, rfl, by decide +kernel, by decide +kernel⟩
def compOf (s : Stmt) : Scope := match s with
  | .FunctionDef _ _ b _ _ _ _ _ _ _ => match b.getLast? with
    | some (.Return (some (.ListComp _ _ sc _)) _) => sc
    | _ => { kind := .function, names := [], isGenerator := false, isCoroutine := false }
  | _ => { kind := .function, names := [], isGenerator := false, isCoroutine := false }
set_option maxHeartbeats 4000000 in
theorem ok_counted (F : Fun K "_law_counted" "_law_counted" sCounted f fd) (G : FnOk P w K mg base CX0 1 g gd ["_law_kind"] spParts) (bG : Binds K gd ["_law_kind"] []) (kG : PySem.W.keepIn K (.ref g) = true) (mG : mg "_law_inside" = some (.ref g))
    (J : FnOk P w K mg base CX0 2 e ed ["_law_kind", "_law_filling"] spFilled) (bJ : Binds K ed ["_law_kind", "_law_filling"] []) (kJ : PySem.W.keepIn K (.ref e) = true) (mJ : mg "_law_filled" = some (.ref e)) (ml : mg "len" = none) :
    FnOk P w K mg base CX0 3 f fd ["_law_kinds"] spCounted := by
  refine F.ok (k := 2) scCounted (fun vs H Q E h => ?_) (fun cdv A outer s H vs Q E hr h => ?_)
  · obtain ⟨l, ws, ks, rfl, _⟩ := h
    rfl
  obtain ⟨l, ws, ks, rfl, hl, kW, hB, q⟩ := h
  have nd := scCounted.nd
  have hu := hu_of hr
  have hr1 := hr.mono (show 1 ≤ 2 by decide)
  have C : CompScope (cxOf CX0 P w K mg base ["_law_kinds", "_law_filling", "_law_kind", "_law_part"] "_law_counted" (defScope sCounted) f cdv A outer s H E).nox "_law_kind" ["_law_filling"] [1] (compOf sCounted) [("_law_filling", s.heap.objs.size + 1)] := by
    refine ⟨rfl, by decide +kernel, by decide +kernel, rfl, by decide +kernel, rfl, fun y hy => ?_, fun y c h => h, fun i y h => ?_, rfl⟩
    · have key : ∀ kd, ((relabel (compOf sCounted) (cxOf CX0 P w K mg base ["_law_kinds", "_law_filling", "_law_kind", "_law_part"] "_law_counted" (defScope sCounted) f cdv A outer s H E).nox.env).names.lookup y = some kd) → (kd = .cell ∨ kd = .free) → y = "_law_filling" := fun kd h hk => by
        have hm := PySem.mem_of_lookup h
        have hm' : (y, kd) ∈ [((".0" : Str), NameKind.local), ("_law_kind", .local), ("_law_filled", .globalImplicit), ("_law_filling", .cell)] := hm
        simp only [List.mem_cons, List.not_mem_nil, or_false, Prod.mk.injEq] at hm'
        rcases hm' with ⟨_, z⟩ | ⟨_, z⟩ | ⟨_, z⟩ | ⟨z, _⟩
        · rcases hk with hk | hk <;> (rw [hk] at z; cases z)
        · rcases hk with hk | hk <;> (rw [hk] at z; cases z)
        · rcases hk with hk | hk <;> (rw [hk] at z; cases z)
        · exact z
      have e : y = "_law_filling" := by
        rcases hy with hy | hy
        · exact key _ hy (.inl rfl)
        · exact key _ hy (.inr rfl)
      subst e
      exact ⟨_, rfl⟩
    · match i, h with
      | 0, h =>
        cases (Option.some.inj h)
        exact ⟨1, rfl, rfl, Or.inr (Or.inl rfl), .inl rfl, .inl rfl⟩
  refine ⟨_, pss_cons (ps_set (i := 1) nd rfl (Or.inr rfl) pe_dnewK)
    (pss_cons (ps_for PassesOwn.never rfl (pi_list (pv 0)) (pg_name (i := 2) nd rfl (Or.inl rfl))
      (pss_one (ps_for PassesOwn.never rfl (pi_list (pe_call G hr1 rfl mG kG bG .nil pass0 (pa_cons (pv 2) pa_nil))) (pg_name (i := 3) nd rfl (Or.inl rfl))
        (pss_one (ps_if (PW.pt (pw_and (pt_cmpR op_eq (pe_ix ix_tup (pv 3) pe_int (fun _ _ => rfl)) pe_str (nomark _)) (pw_and1 (pt_cmp (pc_dnotin hu (pe_ix ix_tup (pv 3) pe_int (fun _ _ => rfl)) (pv 1))))))
          (pss_one (ps_dput hu (pv 1) (pe_ix ix_tup (pv 3) pe_int (fun _ _ => rfl)) (pe_tup (pa_cons pe_str (pa_cons (pe_callB call_lenD rfl ml PySem.boot_len (pa_cons (pv 1) pa_nil)) pa_nil))) rfl))
          pss_nil)))))
    (pss_one (ps_ret (pe_comp C rfl (pi_list (pv 0)) (fun C' fp s' H' => pe_call J hr rfl mJ kJ bJ .nil pass0 (pa_cons (pv 0) (pa_cons (pv 1) pa_nil))))))), ?_⟩
  intro ld hld
  have S0 : Same H (upd H ld (.dK [])) := Same.new hld
  have hws : ws.length = ks.length := Paired.length kW
  refine ⟨_, rfl, l, rfl, ⟨_, SqL.of (S0 _ _ hl)⟩, for_list (xs := ws) (fun i σ H1 => ∃ kd pt kvs, σ = [some (.ref l), some (.ref ld), kd, pt] ∧ Same H H1 ∧ H1 ld = some (.dK kvs) ∧ DAt H1 kvs (rank (ords (flat (ks.take i)))) ∧ kvs.length = (ords (flat (ks.take i))).length)
    ⟨none, none, [], rfl, S0, upd_same, fun n => .inl ⟨rfl, rfl⟩, rfl⟩ (fun i σ H1 hi ⟨_, _, _, _, hS, _⟩ => SqL.of (hS _ _ hl)) (fun i x σ H1 hx hP => ?_) (fun σ H1 hP => ?_)⟩
  · obtain ⟨kd, pt, kvs, rfl, hS, hD, kD, hlen⟩ := hP
    obtain ⟨k, hk, kx⟩ := paired_get kW hx
    have kx1 := kx.mono hS.tk
    have hft := flat_take ks i hk
    have hle : (flat (ks.take i)).length + k.parts.length ≤ 100000 := by
      have := flat_take_le ks (i + 1)
      rw [hft, List.length_append] at this; omega
    refine ⟨_, rfl, x, k, rfl, kx1, by rw [← Kd.parts_length]; omega, fun lr zs H2 S2 hlr hr2 kz => ?_⟩
    refine ⟨lr, rfl, ⟨_, SqL.of hr2⟩, for_list (xs := zs) (fun j σ H3 => ∃ pt kvs, σ = [some (.ref l), some (.ref ld), some x, pt] ∧ Same H H3 ∧ H3 lr = some (.lst zs) ∧ Ks H3 zs k.parts ∧ H3 ld = some (.dK kvs) ∧ DAt H3 kvs (rank (ords (flat (ks.take i) ++ k.parts.take j))) ∧ kvs.length = (ords (flat (ks.take i) ++ k.parts.take j)).length)
      ⟨pt, kvs, rfl, hS.trans S2, hr2, kz, S2 _ _ hD, ?_, ?_⟩ (fun j σ H3 hj ⟨_, _, _, _, h, _⟩ => SqL.of h) (fun j y σ H3 hy hP => ?_) (fun σ H3 hP => ?_)⟩
    · rw [List.take_zero, List.append_nil]; exact kD.mono S2.tk
    · rw [List.take_zero, List.append_nil]; exact hlen
    · obtain ⟨pt, kvs, rfl, hS3, hR, kR, hD3, kD3, hlen3⟩ := hP
      obtain ⟨t, ht, kt⟩ := paired_get kR hy
      have ho := ords_take (flat (ks.take i)) k.parts j ht
      obtain ⟨px, ys, rfl, hpx, ry⟩ := kt.shape
      have hbound : kvs.length ≤ 100000 := by
        rw [hlen3]
        have := ords_length (flat (ks.take i) ++ k.parts.take j)
        rw [List.length_append, List.length_take] at this; omega
      refine ⟨_, rfl, px, _, 0, _, rfl, rfl, SqT.of hpx, atI_nat (j := 0) rfl, rfl, _, rfl, ?_⟩
      have stay : (∀ n, t ≠ .blk n) → ∃ pt' kvs', [some (V.ref l), some (.ref ld), some x, some (V.ref px)] = [some (.ref l), some (.ref ld), some x, pt'] ∧ Same H H3 ∧ H3 lr = some (.lst zs) ∧ Ks H3 zs k.parts ∧ H3 ld = some (.dK kvs') ∧ DAt H3 kvs' (rank (ords (flat (ks.take i) ++ k.parts.take (j + 1)))) ∧ kvs'.length = (ords (flat (ks.take i) ++ k.parts.take (j + 1))).length := by
        intro hn
        have e : seen (ords (flat (ks.take i) ++ k.parts.take j)) t = ords (flat (ks.take i) ++ k.parts.take j) := by
          cases t with
          | num => rfl
          | blk n => exact absurd rfl (hn n)
          | two _ _ _ => rfl
        rw [ho, e]
        exact ⟨_, kvs, rfl, hS3, hR, kR, hD3, kD3, hlen3⟩
      cases t with
      | num =>
        refine ite2 (fun z => absurd z (by simp [hdS]; decide)) fun _ => ?_
        exact iteF (stay fun n z => by cases z)
      | two g' a b =>
        refine ite2 (fun z => absurd z (by simp [hdS, tag_blk])) fun _ => ?_
        exact iteF (stay fun n z => by cases z)
      | blk n =>
        refine ite2 (fun _ => ?_) fun z => absurd (by simp [hdS]) z
        cases ry
        refine ⟨_, rfl, px, _, 1, _, rfl, rfl, SqT.of hpx, atI_nat (j := 1) rfl, _, rfl, ld, _, rfl, DGet.k (k := Sum.inl n) hD3, _, rfl, ?_⟩
        rcases kD3 n with ⟨e1, e2⟩ | ⟨y', u, e1, e2, ky⟩
        · have hn : n ∉ ords (flat (ks.take i) ++ k.parts.take j) := rank_none.mp e2
          rw [e1]
          refine iteT ?_
          refine ⟨_, rfl, ld, kvs, rfl, hD3, (by show 2 ≤ sizeLine; decide), fun tp htp => ?_⟩
          have S4 : Same H3 (upd H3 tp (.tup [.str "blank", .int kvs.length])) := Same.new htp
          have hD4 := S4 _ _ hD3
          have kb : KAt (upd H3 tp (.tup [.str "blank", .int kvs.length])) (.ref tp) (.blk (kvs.length : Nat)) := ⟨tp, rfl, upd_same⟩
          have hpx4 := S4 _ _ hpx
          refine ⟨_, rfl, _, rfl, px, _, 1, _, rfl, rfl, SqT.of hpx4, atI_nat (j := 1) rfl, ld, _, rfl, DPut.k (k := Sum.inl n) hD4 (lt_line (by omega)), ?_⟩
          generalize upd H3 tp (.tup [.str "blank", .int kvs.length]) = H4 at S4 hD4 kb hpx4 ⊢
          have tk5 : Tk H4 (upd H4 ld (.dK (putK kvs (Sum.inl n) (.ref tp)))) := Tk.dic hD4
          have hne : lr ≠ ld := ne_of (S4 _ _ hR) hD4 (by intro z; cases z)
          have e3 : seen (ords (flat (ks.take i) ++ k.parts.take j)) (.blk n) = ords (flat (ks.take i) ++ k.parts.take j) ++ [n] := by simp only [seen, if_neg hn]
          refine ⟨_, putK kvs (Sum.inl n) (.ref tp), rfl, (hS3.trans S4).upd hld, by rw [upd_ne hne]; exact S4 _ _ hR, (kR.mono S4.tk).mono tk5, upd_same, ?_, ?_⟩
          · rw [ho, e3, ← rank_put hn, ← hlen3]
            exact ((kD3.mono S4.tk).put n kb).mono tk5
          · rw [ho, e3, putK_new _ e1, List.length_append, List.length_append, hlen3]; rfl
        · have e4 : (valV kvs (Sum.inl n)).isSome = true := by rw [e1]; rfl
          rw [e4]
          refine iteF ?_
          have hn : n ∈ ords (flat (ks.take i) ++ k.parts.take j) := by
            refine Classical.byContradiction fun z => ?_
            rw [rank_none.mpr z] at e2; cases e2
          have e3 : seen (ords (flat (ks.take i) ++ k.parts.take j)) (.blk n) = ords (flat (ks.take i) ++ k.parts.take j) := by simp only [seen, if_pos hn]
          refine ⟨_, kvs, rfl, hS3, hR, kR, hD3, ?_, ?_⟩
          · rw [ho, e3]; exact kD3
          · rw [ho, e3]; exact hlen3
    · obtain ⟨pt, kvs, rfl, hS3, hR, kR, hD3, kD3, hlen3⟩ := hP
      rw [Paired.length kz, List.take_length, ← hft] at kD3 hlen3
      exact ⟨_, _, kvs, rfl, hS3, hD3, kD3, hlen3⟩
  · obtain ⟨kd, pt, kvs, rfl, hS, hD, kD, hlen⟩ := hP
    rw [hws, List.take_length] at kD hlen
    refine ⟨_, rfl, l, rfl, ⟨_, SqL.of (hS _ _ hl)⟩, fun D hD0 => ?_⟩
    have S1 : Same H (upd H1 D (.lst [])) := hS.upd (hS.free hD0)
    refine ⟨(fun i m ys H2 => m = ws.length - i ∧ i ≤ ws.length ∧ Same H H2 ∧ Same H1 H2 ∧ H2 D = some (.lst ys) ∧ Ks H2 ys ((ks.take i).map fun k => k.fill (rank (ords (flat ks))))), ⟨ws.length, rfl, Nat.zero_le _, S1, Same.new hD0, upd_same, .nil⟩, ?_⟩
    rintro i m ys H2 ⟨rfl, hi, hS2, hS12, hD2, kY⟩
    refine ⟨hD2, ?_⟩
    by_cases hlt : i < ws.length
    · have hgx : ws[i]? = some ws[i] := List.getElem?_eq_getElem hlt
      obtain ⟨k, hk, kx⟩ := paired_get kW hgx
      have hys : ys.length ≤ 100000 := by
        rw [Paired.length kY, List.length_map, List.length_take]
        have := flat_length ks
        omega
      refine .inr ⟨⟨ws, _, SqL.of (hS2 _ _ hl), hgx⟩, lt_line (by omega), fun x H3 hyld => ?_⟩
      obtain ⟨rfl, hyld⟩ := hyld
      have hxe := hyld ws (SqL.of (hS2 _ _ hl))
      rw [hgx] at hxe
      cases (Option.some.inj hxe)
      have hsz : k.size ≤ 100000 := by
        have h1 := flat_take_le ks (i + 1)
        rw [flat_take ks i hk, List.length_append, Kd.parts_length] at h1; omega
      refine ⟨_, rfl, _, rfl, _, k, ld, kvs, rank (ords (flat ks)), rfl, kx.mono hS2.tk, hsz, hS12 _ _ hD, kD.mono hS12.tk, fun v' H4 S4 kv => ?_⟩
      have hD4 := S4 _ _ hD2
      refine ⟨hD4, ws.length - (i + 1), by omega, rfl, hlt, (hS2.trans S4).upd (hS.free hD0), (hS12.trans S4).upd hD0, upd_same, ?_⟩
      have tk : Tk H4 (upd H4 D (.lst (ys ++ [v']))) := Tk.lst hD4
      rw [List.take_add_one, hk, List.map_append]
      exact paired_app ((kY.mono S4.tk).mono tk) (.cons (kv.mono tk) .nil)
    · refine .inl ⟨⟨ws, SqL.of (hS2 _ _ hl), by omega⟩, ?_⟩
      refine q D ys H2 hS2 hD2 ?_
      have e : i = ks.length := by omega
      rw [e, List.take_length] at kY
      exact kY
end
end K1

set_option Elab.async false
set_option maxRecDepth 100000
namespace K1
open PySem L2 Wk
/-- a kind built anew from below -/
def bmap (G : Kd → Kd) : Kd → Kd
  | .num => G .num
  | .blk n => G (.blk n)
  | .two f a b => G (.two f (bmap G a) (bmap G b))
/-- what the lambda gives -/
def gm (os : List Int) : Kd → Kd
  | .blk n => (rank os n).getD (.blk n)
  | t => t
theorem bmap_gm (os : List Int) : ∀ k : Kd, bmap (gm os) k = k.fill (rank os)
  | .num => rfl
  | .blk _ => rfl
  | .two f a b => by
    show Kd.two f (bmap (gm os) a) (bmap (gm os) b) = Kd.two f (a.fill (rank os)) (b.fill (rank os))
    rw [bmap_gm os a, bmap_gm os b]
def toV : Kd → V
  | .blk i => .int i
  | _ => .non
def CntI (kvs : List (Key × V)) (os : List Int) : Prop := (∀ n : Int, valV kvs (Sum.inl n) = (rank os n).map toV) ∧ kvs.length = os.length
theorem CntI.put {kvs : List (Key × V)} {os : List Int} (h : CntI kvs os) {n : Int} (hn : n ∉ os) : CntI (putK kvs (Sum.inl n) (.int kvs.length)) (os ++ [n]) := by
  have hv : valV kvs (Sum.inl n) = none := by rw [h.1, rank_none.mpr hn]; rfl
  refine ⟨fun m => ?_, by rw [putK_new _ hv, List.length_append, List.length_append, h.2]; rfl⟩
  rw [valV_put, rank_snoc os n m hn]
  by_cases e : m = n
  · subst e
    rw [if_pos rfl, if_pos rfl, h.2]; rfl
  · rw [if_neg (fun z => e (Sum.inl.inj z)), if_neg e, h.1]
abbrev NB : List Str := ["kind", "make", "ready", "part", "one", "other"]
abbrev NN : List Str := ["kind", "part", "counts"]
structure Lam where
  par : Arguments
  body : Expr
  scope : Scope
  pos : Pos
def lamOf (s : Stmt) : Lam := match (defBody s).getLast? with
  | some (.Return (some (.Call _ [_, .Lambda a b sc p] _ _)) _) => ⟨a, b, sc, p⟩
  | _ => ⟨{ posonlyargs := [], args := [], vararg := none, kwonlyargs := [], kw_defaults := [], kwarg := none, defaults := [] }, .Constant .none 0 ⟨0, 0, 0, 0⟩, { kind := .function, names := [], isGenerator := false, isCoroutine := false }, ⟨0, 0, 0, 0⟩⟩
abbrev lam : Lam := lamOf sNumbered
abbrev lamQual : Str := (("numbered" : Str) ++ ".<locals>.") ++ "<lambda>"
/-- all but the table stays -/
def Kp (p : Addr) (H H' : Hp) : Prop := ∀ b o, H b = some o → b ≠ p → H' b = some o
theorem Kp.of {p : Addr} {H H' : Hp} (s : Same H H') : Kp p H H' := fun b o h _ => s b o h
theorem Kp.trans {p : Addr} {H H1 H2 : Hp} (a : Kp p H H1) (b : Kp p H1 H2) : Kp p H H2 := fun c o h n => b c o (a c o h n) n
theorem Kp.tk {p : Addr} {H H' : Hp} {ps : Array Value} (h : Kp p H H') (hp : H p = some (.tbl ps)) : Tk H H' := fun b xs e => h b _ e (ne_of e hp (by intro z; cases z))
theorem LamTab.mono {H H' : Hp} {p : Addr} {pos : Pos} {q : Str} {ps : Array Value} (s : Same H H') (h : LamTab H p pos q ps) : LamTab H' p pos q ps :=
  ⟨s _ _ h.at_, h.ok, h.known.imp id fun ⟨c, a, b⟩ => ⟨c, a, s _ _ b⟩⟩
section
variable {P : Program} {w : World} {K : PySem.W.Frag} {mg : Str → Option Value} {base : Heap} {f g fb : Addr} {fd gd fbd : FuncData}
/-! ### built -/
theorem scBuilt : FnScope NB ["kind", "make"] (defScope sBuilt) := ⟨rfl, rfl, rfl, by decide +kernel, rfl, by decide +kernel, by decide +kernel⟩
abbrev XB (P : Program) (w : World) (K : PySem.W.Frag) (mg : Str → Option Value) (base : Heap) (f : Addr) (cdv : Value) (A : Around) (outer : List Env) (s : Shared) (H : Hp) : Cx := (cxOf CX0 P w K mg base NB "built" (defScope sBuilt) f cdv A outer s H E0).nox
set_option maxHeartbeats 4000000 in
theorem built_body {mk : Addr} {r : Addr → List V → Hp → VK → Prop} {Gm : Kd → Kd} {cdv : Value} {A : Around} {outer : List Env} {s : Shared} {H : Hp} {v : V} {k : Kd} {Q : VK} {np : Nat}
    (hr : Room np (A.deeper (PyProof.Rows.envOfC "built" (defScope sBuilt) s.heap.objs.size f cdv))) (hnp : 1 ≤ np)
    (G : FnOk P w K mg base CX0 1 g gd ["kind"] spParts) (bG : Binds K gd ["kind"] []) (kG : PySem.W.keepIn K (.ref g) = true) (mG : mg "parts" = some (.ref g)) (mr : mg "reversed" = none) (ml : mg "len" = none)
    (hc : ∀ (f' : Addr) (pins : List (Addr × Obj)) (σ : St) (H' : Hp) (s' : Shared) (vs : List V) (us : List Value) (Q' : VK), Inv (XB P w K mg base f cdv A outer s H) pins σ H' s' → Vals vs us → r f' vs H' Q' →
      wpAny (model P w) (XB P w K mg base f cdv A outer s H).A (call (.ref f') us) (EP (XB P w K mg base f cdv A outer s H) pins σ Q') (XB P w K mg base f cdv A outer s H).xe s')
    (hf : ∀ (f' : Addr) (vs : List V) (H' : Hp) (Q' : VK), r f' vs H' Q' → ∃ c qual params body scope cl, H' f' = some (.ext (LamF f' c qual params body scope cl)))
    (hmk : ∃ c qual params body scope cl, H mk = some (.ext (LamF mk c qual params body scope cl))) (hk : KAt H v k) (hB : k.size ≤ 100000)
    (hm : ∀ (t : Kd) (H1 : Hp) (x : V) (Q' : VK), ((t ∈ k.parts ∧ kids t = []) ∨ isTwo t = true) → Same H H1 → KAt H1 x t → (∀ y H2, Same H1 H2 → KAt H2 y (Gm t) → Q' y H2) → r mk [x] H1 Q')
    (q : ∀ y H', Same H H' → KAt H' y (bmap Gm k) → Q y H') :
    ∃ t, PSs (XB P w K mg base f cdv A outer s H) (defBody sBuilt) t ∧ t { nx := fun _ H' => Q .non H', rt := Q } (start NB [v, .ref mk]) H := by
  have nd := scBuilt.nd
  refine ⟨_, pss_cons (ps_set (i := 2) nd rfl (Or.inl rfl) (pe_lst pa_nil))
    (pss_cons (ps_for PassesOwn.never rfl (pi_rev rfl mr (pa_cons (pe_call G (hr.mono hnp) rfl mG kG bG .nil pass0 (pa_cons (pv 0) pa_nil)) pa_nil)) (pg_name (i := 3) nd rfl (Or.inl rfl))
      (pss_one (ps_if (pt_cmpR op_eq (pe_callB call_len_seq rfl ml PySem.boot_len (pa_cons (pv 3) pa_nil)) pe_int (nomark _))
        (pss_cons (ps_set (i := 4) nd rfl (Or.inl rfl) (pe_bm0 PySem.F.plainAttrs_list PySem.F.slot_list_pop PySem.F.type_list_pop mt_pop (pv 2)))
        (pss_cons (ps_set (i := 5) nd rfl (Or.inl rfl) (pe_bm0 PySem.F.plainAttrs_list PySem.F.slot_list_pop PySem.F.type_list_pop mt_pop (pv 2)))
          (pss_one (ps_expr (pe_bm PySem.F.plainAttrs_list PySem.F.slot_list_append PySem.F.type_list_append mt_append (pv 2) (pa_cons (pe_callV (i := 1) (pv 1) (pa_cons (pe_tup (pa_cons (pe_ix ix_tup (pv 3) pe_int (fun _ _ => rfl)) (pa_cons (pv 4) (pa_cons (pv 5) pa_nil)))) pa_nil) hc hf) pa_nil))))))
        (pss_one (ps_expr (pe_bm PySem.F.plainAttrs_list PySem.F.slot_list_append PySem.F.type_list_append mt_append (pv 2) (pa_cons (pe_callV (i := 1) (pv 1) (pa_cons (pv 3) pa_nil) hc hf) pa_nil)))))))
    (pss_one (ps_ret (pe_bm0 PySem.F.plainAttrs_list PySem.F.slot_list_pop PySem.F.type_list_pop mt_pop (pv 2))))), ?_⟩
  refine ⟨Nat.zero_le _, fun lp hlp => ?_⟩
  have S1 : Same H (upd H lp (.lst [])) := Same.new hlp
  refine ⟨_, rfl, v, k, rfl, hk.mono S1.tk, hB, fun lr ws H2 S2 hlr hr2 kws => ?_⟩
  refine ⟨lr, ws, rfl, SqL.of hr2, ?_⟩
  have hlp2 : H2 lp = some (.lst []) := S2 _ _ upd_same
  have hlen : ws.length = k.parts.length := Paired.length kws
  have hps : k.parts.length ≤ 100000 := by rw [Kd.parts_length]; exact hB
  have hlrp : lr ≠ lp := fun z => by rw [z, upd_same] at hlr; cases hlr
  have hlr0 : H lr = none := S1.free hlr
  refine for_rev (fun i σ H3 => ∃ p o1 o2 xs, σ = [some v, some (.ref mk), some (.ref lp), p, o1, o2] ∧ Same H H3 ∧ H3 lr = some (.lst ws) ∧ H3 lp = some (.lst xs) ∧ Ks H3 ws k.parts ∧ Ks H3 xs ((dfs [k] (k.parts.length - i)).map (bmap Gm)).reverse)
    ⟨none, none, none, [], rfl, S1.trans S2, hr2, hlp2, kws, ?_⟩ (fun i σ H3 hi ⟨p, o1, o2, xs, _, _, h, _⟩ => SqL.of h) (fun i x σ H3 hi hx hP => ?_) (fun σ H3 hP => ?_)
  · rw [Nat.sub_zero, dfs_end (by rw [flat_one]; exact Nat.le_refl _)]
    exact .nil
  · obtain ⟨p, o1, o2, xs, rfl, hS, hR, hL, kR, kX⟩ := hP
    obtain ⟨t, ht, kt⟩ := paired_get kR hx
    rw [hlen] at hi ht
    obtain ⟨r', hdf⟩ := dfs_get (ts := [k]) (n := k.parts.length - 1 - i) (by rw [flat_one]; exact ht)
    have hst := dfs_step hdf
    rw [show k.parts.length - 1 - i + 1 = k.parts.length - i by omega] at hst
    have hnx : k.parts.length - (i + 1) = k.parts.length - 1 - i := by omega
    rw [hst] at kX
    have hxs : xs.length ≤ 100000 := by
      rw [Paired.length kX, List.length_reverse, List.length_map, ← hst]
      have := dfs_length [k] (k.parts.length - i)
      rw [flat_one] at this; omega
    have htin : t ∈ k.parts := List.mem_of_getElem? ht
    obtain ⟨px, ys, rfl, hpx, ry⟩ := kt.shape
    refine ⟨_, rfl, px, _, rfl, .inr (SqT.of hpx), rfl, _, rfl, ?_⟩
    have hmk3 : ∀ H5, Same H H5 → ∃ c qual params body scope cl, H5 mk = some (.ext (LamF mk c qual params body scope cl)) := fun H5 s5 => by
      obtain ⟨c, qual, params, body, scope, cl, e⟩ := hmk
      exact ⟨c, qual, params, body, scope, cl, s5 _ _ e⟩
    have leaf : kids t = [] → bmap Gm t = Gm t → ∀ (o1' o2' : Option V), ∀ y H5, Same H3 H5 → KAt H5 y (Gm t) → ∃ p o1 o2 xs', [some v, some (.ref mk), some (.ref lp), some (.ref px), o1', o2'] = [some v, some (.ref mk), some (.ref lp), p, o1, o2] ∧ Same H (upd H5 lp (.lst (xs ++ [y]))) ∧ upd H5 lp (.lst (xs ++ [y])) lr = some (.lst ws) ∧
        upd H5 lp (.lst (xs ++ [y])) lp = some (.lst xs') ∧ Ks (upd H5 lp (.lst (xs ++ [y]))) ws k.parts ∧ Ks (upd H5 lp (.lst (xs ++ [y]))) xs' ((dfs [k] (k.parts.length - (i + 1))).map (bmap Gm)).reverse := by
      intro hkid hbm o1' o2' y H5 S5 ky
      have tk5 : Tk H3 (upd H5 lp (.lst (xs ++ [y]))) := S5.tk.trans (Tk.lst (S5 _ _ hL))
      refine ⟨_, _, _, xs ++ [y], rfl, (hS.trans S5).upd hlp, by rw [upd_ne hlrp]; exact S5 _ _ hR, upd_same, kR.mono tk5, ?_⟩
      rw [hnx, hdf, List.map_cons, List.reverse_cons, hbm]
      rw [hkid] at kX
      exact paired_app (kX.mono tk5) (.cons (ky.mono (Tk.lst (S5 _ _ hL))) .nil)
    cases t with
    | num =>
      cases ry
      refine ite2 (fun z => absurd z (by simp)) fun _ => ?_
      refine ⟨_, rfl, .inl ⟨rfl, _, SqL.of hL⟩, ?_⟩
      refine ⟨mk, rfl, hmk3 _ hS, _, rfl, hm _ H3 _ _ (.inl ⟨htin, rfl⟩) hS kt fun y H5 S5 ky => ?_⟩
      exact ⟨lp, xs, y, rfl, rfl, S5 _ _ hL, lt_line (by omega), leaf rfl rfl _ _ y H5 S5 ky⟩
    | blk n =>
      cases ry
      refine ite2 (fun z => absurd z (by simp)) fun _ => ?_
      refine ⟨_, rfl, .inl ⟨rfl, _, SqL.of hL⟩, ?_⟩
      refine ⟨mk, rfl, hmk3 _ hS, _, rfl, hm _ H3 _ _ (.inl ⟨htin, rfl⟩) hS kt fun y H5 S5 ky => ?_⟩
      exact ⟨lp, xs, y, rfl, rfl, S5 _ _ hL, lt_line (by omega), leaf rfl rfl _ _ y H5 S5 ky⟩
    | two g' a b =>
      obtain ⟨xa, xb, rfl, ka, kb⟩ := ry
      refine ite2 (fun _ => ?_) fun z => absurd (by simp) z
      have kX4 : Ks H3 xs ((r'.map (bmap Gm)).reverse ++ [bmap Gm b] ++ [bmap Gm a]) := by
        have e : ((kids (Kd.two g' a b) ++ r').map (bmap Gm)).reverse = (r'.map (bmap Gm)).reverse ++ [bmap Gm b] ++ [bmap Gm a] := by simp [kids]
        rw [← e]; exact kX
      obtain ⟨xs1, ya, rfl, kX5, kya⟩ := paired_snoc_inv kX4
      obtain ⟨xs2, yb, rfl, kX6, kyb⟩ := paired_snoc_inv kX5
      refine ⟨_, rfl, .inl ⟨rfl, _, SqL.of hL⟩, lp, _, ya, rfl, rfl, hL, by simp, ?_⟩
      rw [List.dropLast_concat]
      have hL4 : upd H3 lp (.lst (xs2 ++ [yb])) lp = some (.lst (xs2 ++ [yb])) := upd_same
      refine ⟨_, rfl, .inl ⟨rfl, _, SqL.of hL4⟩, lp, _, yb, rfl, rfl, hL4, by simp, ?_⟩
      rw [List.dropLast_concat, upd_upd]
      have hL5 : upd H3 lp (.lst xs2) lp = some (.lst xs2) := upd_same
      have tk5 : Tk H3 (upd H3 lp (.lst xs2)) := Tk.lst hL
      have S5 : Same H (upd H3 lp (.lst xs2)) := hS.upd hlp
      have hR5 : upd H3 lp (.lst xs2) lr = some (.lst ws) := by rw [upd_ne hlrp]; exact hR
      have hpx5 := tk5 _ _ hpx
      have kR5 := kR.mono tk5
      have kX7 := Ks.mono tk5 kX6
      have kya5 := kya.mono tk5
      have kyb5 := kyb.mono tk5
      generalize upd H3 lp (.lst xs2) = H5 at hL5 tk5 S5 hR5 hpx5 kR5 kX7 kya5 kyb5 ⊢
      refine ⟨_, rfl, .inl ⟨rfl, _, SqL.of hL5⟩, ?_⟩
      refine ⟨mk, rfl, hmk3 _ S5, ?_⟩
      refine ⟨_, rfl, px, _, 0, _, rfl, rfl, SqT.of hpx5, atI_nat (j := 0) rfl, _, rfl, _, rfl, (by show 3 ≤ sizeLine; decide), fun tp htp => ?_⟩
      have S6 : Same H5 (upd H5 tp (.tup [.str (tag g'), ya, yb])) := Same.new htp
      refine hm (.two g' (bmap Gm a) (bmap Gm b)) _ _ _ (.inr rfl) (S5.trans S6) ⟨tp, ya, yb, rfl, upd_same, kya5.mono S6.tk, kyb5.mono S6.tk⟩ fun y H7 S7 ky => ?_
      have hL7 := S7 _ _ (S6 _ _ hL5)
      refine ⟨lp, xs2, y, rfl, rfl, hL7, lt_line (by simp at hxs; omega), ?_⟩
      have tk8 : Tk H5 (upd H7 lp (.lst (xs2 ++ [y]))) := (S6.tk.trans S7.tk).trans (Tk.lst hL7)
      refine ⟨_, _, _, xs2 ++ [y], rfl, ((S5.trans S6).trans S7).upd hlp, by rw [upd_ne hlrp]; exact S7 _ _ (S6 _ _ hR5), upd_same, kR5.mono tk8, ?_⟩
      rw [hnx, hdf, List.map_cons, List.reverse_cons]
      exact paired_app (Ks.mono tk8 kX7) (.cons (ky.mono (Tk.lst hL7)) .nil)
  · obtain ⟨p, o1, o2, xs, rfl, hS, hR, hL, kR, kX⟩ := hP
    rw [hlen, Nat.sub_self] at kX
    have kX : Ks H3 xs [bmap Gm k] := kX
    cases kX with
    | cons kx kn =>
      cases kn
      refine ⟨_, rfl, .inl ⟨rfl, _, SqL.of hL⟩, lp, _, _, rfl, rfl, hL, rfl, q _ _ (hS.upd hlp) (kx.mono (Tk.lst hL))⟩
end
end K1

set_option Elab.async false
set_option maxRecDepth 100000
namespace K1
open PySem L2 Wk
section
variable {P : Program} {w : World} {K : PySem.W.Frag} {mg : Str → Option Value} {base : Heap} {f g fb c pt : Addr} {fd gd fbd : FuncData}
/-! ### numbered -/
def spNumbered (pt : Addr) : Sp := fun vs H Q _ => ∃ v k ps, vs = [v] ∧ KAt H v k ∧ k.size ≤ 100000 ∧ LamTab H pt lam.pos lamQual ps ∧ ∀ y H', Kp pt H H' → (∃ ps', LamTab H' pt lam.pos lamQual ps') → KAt H' y (renum k) → Q y H'
theorem scNumbered : FnScope NN ["kind"] (defScope sNumbered) := ⟨rfl, rfl, rfl, by decide +kernel, rfl, by decide +kernel, by decide +kernel⟩
theorem scLam (cell : Addr) : LamScope ["part"] lam.scope [("counts", cell)] := by
  refine ⟨rfl, rfl, rfl, by decide +kernel, by decide +kernel, by decide +kernel, fun x h => ?_, fun x y a h1 h2 => ?_⟩
  · have hm := PySem.mem_of_lookup h
    have hm' : (x, NameKind.free) ∈ [(("part" : Str), NameKind.local), ("counts", .free)] := hm
    simp only [List.mem_cons, List.not_mem_nil, or_false, Prod.mk.injEq] at hm'
    rcases hm' with ⟨_, z⟩ | ⟨z, _⟩
    · cases z
    · subst z; exact ⟨cell, rfl⟩
  · have k1 := PySem.mem_of_lookup h1
    have k2 := PySem.mem_of_lookup h2
    simp only [List.mem_singleton, Prod.mk.injEq] at k1 k2
    rw [k1.1, k2.1]
set_option maxHeartbeats 4000000 in
theorem ok_numbered (F : Fun K "numbered" "numbered" sNumbered f fd) (hcode : fd.code = .ref c) (hCd : PySem.W.CodeHd base c pt) (hBm : BMain mg base)
    (G : FnOk P w K mg base CX0 1 g gd ["kind"] spParts) (bG : Binds K gd ["kind"] []) (kG : PySem.W.keepIn K (.ref g) = true) (mG : mg "parts" = some (.ref g))
    (FB : Fun K "built" "built" sBuilt fb fbd) (bB : Binds K fbd ["kind", "make"] []) (mB : mg "built" = some (.ref fb)) (mr : mg "reversed" = none) (ml : mg "len" = none) :
    FnOk P w K mg base CX0 5 f fd ["kind"] (spNumbered pt) := by
  refine F.okC (k := 4) hcode scNumbered (fun vs H Q E h => ?_) (fun A outer s H vs Q E hr h => ?_)
  · obtain ⟨v, k, ps, rfl, _⟩ := h
    rfl
  obtain ⟨v, k, ps, rfl, hk, hB, hT, q⟩ := h
  have nd := scNumbered.nd
  have hr1 := hr.mono (show 1 ≤ 4 by decide)
  have CO : CodeOk (cxOf CX0 P w K mg base NN "numbered" (defScope sNumbered) f (.ref c) A outer s H E).nox pt := ⟨⟨c, rfl, hCd⟩, hBm.ex⟩
  have hps : k.parts.length ≤ 100000 := by rw [Kd.parts_length]; exact hB
  refine ⟨_, pss_cons (ps_set (i := 2) nd rfl (Or.inr rfl) pe_dnewK)
    (pss_cons (ps_for PassesOwn.never rfl (pi_list (pe_call G hr1 rfl mG kG bG .nil pass0 (pa_cons (pv 0) pa_nil))) (pg_name (i := 1) nd rfl (Or.inl rfl))
      (pss_one (ps_if (pt_cmpR op_eq (pe_ix ix_tup (pv 1) pe_int (fun _ _ => rfl)) pe_str (nomark _))
        (pss_one (ps_expr (pe_bm PySem.F.plainAttrs_dict PySem.F.slot_dict_setdefault PySem.F.type_dict_setdefault mt_setd (pv 2) (pa_cons (pe_ix ix_tup (pv 1) pe_int (fun _ _ => rfl)) (pa_cons (pe_callB call_lenD rfl ml PySem.boot_len (pa_cons (pv 2) pa_nil)) pa_nil)))))
        pss_nil)))
    (pss_one (ps_ret (pe_callS (sp := fun σ vs H1 Q1 => ∃ x d kvs lm cc, vs = [x, .ref lm] ∧ σ[2]? = some (some (.ref d)) ∧ KAt H1 x k ∧ H1 d = some (.dK kvs) ∧ CntI kvs (ords k.parts) ∧
        H1 lm = some (.ext (LamF lm cc lamQual lam.par lam.body lam.scope [("counts", s.heap.objs.size + 1)])) ∧ H1 cc = some (.ext (CodeF cc lamQual)) ∧ ∀ y H', Same H1 H' → KAt H' y (renum k) → Q1 y H')
      rfl mB FB.kp ?run (pa_cons (pv 0) (pa_cons (pe_lam CO rfl rfl) pa_nil)))))), ?_⟩
  case run =>
    intro pins σ H1 s1 vs us Q1 I rv h
    obtain ⟨x, d, kvs, lm, cc, rfl, hσ, kx, hd, hcnt, hlm, hcc, q1⟩ := h
    -- the cell of counts
    obtain ⟨m, hns, hloc⟩ := I.loc
    obtain ⟨u, ru, lk⟩ := hloc 2 "counts" (.ref d) rfl hσ (Or.inr (Or.inl rfl))
    cases ru
    obtain ⟨hcellv, hcell⟩ : s1.heap.IsCell (s.heap.objs.size + 1) (some (.ref d)) ∧ H1 (s.heap.objs.size + 1) = none := by
      rcases lk with ⟨z, _⟩ | ⟨_, c0, hc0, hv0⟩
      · exact absurd (show some NameKind.cell = some NameKind.local from z) (by decide)
      · have e : s.heap.objs.size + 1 = c0 := Option.some.inj (show some (s.heap.objs.size + 1) = some c0 from hc0)
        rw [e]
        exact ⟨hv0, I.freeC _ _ hc0⟩
    have hnf : s.heap.objs.size + 1 ∉ frs (cxOf CX0 P w K mg base NN "numbered" (defScope sNumbered) f (.ref c) A outer s H E).nox.stack := fun z => by
      rcases List.mem_cons.mp (I.stkSub _ z) with e | e
      · exact I.cne "counts" (s.heap.objs.size + 1) rfl e
      · obtain ⟨_, o, ho, _⟩ := I.ok.funs.mem e
        have := Heap.lt_size ho
        exact absurd (Nat.lt_trans (Nat.lt_succ_self _) this) (Nat.lt_irrefl _)
    refine FB.run (k := 3) scBuilt hr I.env0 bB rv rfl fun cdvB hrB => ?_
    refine built_body (Gm := gm (ords k.parts)) (mk := lm)
      (r := fun f' vs' H' Q' => f' = lm ∧ ∃ y t, vs' = [y] ∧ H' lm = some (.ext (LamF lm cc lamQual lam.par lam.body lam.scope [("counts", s.heap.objs.size + 1)])) ∧ H' cc = some (.ext (CodeF cc lamQual)) ∧ H' d = some (.dK kvs) ∧ KAt H' y t ∧ (∀ n, t = .blk n → n ∈ ords k.parts) ∧ ∀ z H2, Same H' H2 → KAt H2 z (gm (ords k.parts) t) → Q' z H2)
      hrB (by decide) G bG kG mG mr ml ?hc ?hf ⟨_, _, _, _, _, _, hlm⟩ kx hB ?hm ?hq
    case hf =>
      rintro f' vs' H' Q' ⟨rfl, y, t, rfl, h1, _⟩
      exact ⟨_, _, _, _, _, _, h1⟩
    case hm =>
      intro t H2 y Q' ht S2 ky hq
      refine ⟨rfl, y, t, rfl, S2 _ _ hlm, S2 _ _ hcc, S2 _ _ hd, ky, fun n e => ?_, hq⟩
      subst e
      rcases ht with ⟨ht, _⟩ | ht
      · exact ords_in ht
      · cases ht
    case hq =>
      intro y H' S' ky
      rw [bmap_gm] at ky
      exact q1 y H' S' ky
    case hc =>
      rintro f' pins' σ' H' s' vs' us' Q' I' rv' ⟨rfl, y, t, rfl, h1, h2, h3, ky, hin, hq⟩
      obtain ⟨o, ho, hdo⟩ := hcellv
      have hcs : s'.heap.IsCell (s.heap.objs.size + 1) (some (.ref d)) := ⟨o, I'.base.keep _ _ ho hcell hnf (fun z => absurd (show _ ∈ ([] : List Addr) from z) List.not_mem_nil), hdo⟩
      have hcf : H' (s.heap.objs.size + 1) = none := I'.base.free _ _ ho hcell (fun z => absurd (show _ ∈ ([] : List Addr) from z) List.not_mem_nil)
      refine call_lam (k := 2) (N := ["part", "counts"]) (σ₀ := [some y, some (.ref d)]) I' rfl hrB (scLam _) h1 h2 (fun x a e => ?_) (fun name pm ctv => ?_) rv' rfl (fun i x v h1 h2 => ?_) fun hrL => ?_
      · have k1 := PySem.mem_of_lookup e
        simp only [List.mem_singleton, Prod.mk.injEq] at k1
        rw [k1.2]
        exact ⟨hcf, _, hcs⟩
      · obtain ⟨u, rfl, _⟩ := vals1 rv'
        rfl
      · match i, h1, h2 with
        | 0, h1, h2 =>
          cases (Option.some.inj h1)
          cases (Option.some.inj (Option.some.inj h2))
          exact .inl ⟨0, rfl, rfl⟩
        | 1, h1, h2 =>
          cases (Option.some.inj h1)
          cases (Option.some.inj (Option.some.inj h2))
          exact .inr ⟨rfl, _, _, rfl, rfl, hcs⟩
      · have hu := hu_of hrL
        refine ⟨_, pe_ifExp (pt_cmpR op_eq (pe_ix ix_tup (pv 0) pe_int (fun _ _ => rfl)) pe_str (nomark _)) (pe_tup (pa_cons pe_str (pa_cons (pe_dget hu (pv 1) (pe_ix ix_tup (pv 0) pe_int (fun _ _ => rfl)) (fun _ _ => rfl)) pa_nil))) (pv 0), ?_⟩
        obtain ⟨py, ys, rfl, hy, ry⟩ := ky.shape
        refine ⟨_, rfl, py, _, 0, _, rfl, rfl, SqT.of hy, atI_nat (j := 0) rfl, rfl, _, rfl, ?_⟩
        cases t with
        | num =>
          refine ite2 (fun z => absurd z (by simp [hdS]; decide)) fun _ => ?_
          exact ⟨_, rfl, hq _ _ (Same.refl _) ky⟩
        | two g' a b =>
          refine ite2 (fun z => absurd z (by simp [hdS, tag_blk])) fun _ => ?_
          exact ⟨_, rfl, hq _ _ (Same.refl _) ky⟩
        | blk n =>
          refine ite2 (fun _ => ?_) fun z => absurd (by simp [hdS]) z
          cases ry
          have hn := hin n rfl
          have e1 : rank (ords k.parts) n = some (.blk ((ords k.parts).idxOf n : Nat)) := by unfold rank; rw [if_pos hn]
          have e2 : valV kvs (Sum.inl n) = some (.int ((ords k.parts).idxOf n : Nat)) := by rw [hcnt.1, e1]; rfl
          refine ⟨_, rfl, _, rfl, py, _, 1, _, rfl, rfl, SqT.of hy, atI_nat (j := 1) rfl, d, _, rfl, by rw [← e2]; exact DGet.k (k := Sum.inl n) h3, (by show 2 ≤ sizeLine; decide), fun tp htp => ?_⟩
          refine hq _ _ (Same.new htp) ?_
          show KAt _ _ ((rank (ords k.parts) n).getD (.blk n))
          rw [e1]
          exact ⟨tp, rfl, upd_same⟩
  intro ld hld
  have S0 : Same H (upd H ld (.dK [])) := Same.new hld
  refine ⟨_, rfl, v, k, rfl, hk.mono S0.tk, hB, fun lr zs H2 S2 hlr hr2 kz => ?_⟩
  refine ⟨lr, rfl, ⟨_, SqL.of hr2⟩, for_list (xs := zs) (fun j σ H3 => ∃ pt' kvs, σ = [some v, pt', some (.ref ld)] ∧ Same H H3 ∧ H3 lr = some (.lst zs) ∧ Ks H3 zs k.parts ∧ H3 ld = some (.dK kvs) ∧ CntI kvs (ords (k.parts.take j)))
    ⟨none, [], rfl, S0.trans S2, hr2, kz, S2 _ _ upd_same, fun n => rfl, rfl⟩ (fun j σ H3 hj ⟨_, _, _, _, h, _⟩ => SqL.of h) (fun j y σ H3 hy hP => ?_) (fun σ H3 hP => ?_)⟩
  · obtain ⟨pt', kvs, rfl, hS3, hR, kR, hD3, hC3⟩ := hP
    obtain ⟨t, ht, kt⟩ := paired_get kR hy
    have ho : ords (k.parts.take (j + 1)) = seen (ords (k.parts.take j)) t := by
      have := ords_take [] k.parts j ht
      simpa using this
    obtain ⟨px, ys, rfl, hpx, ry⟩ := kt.shape
    have hbound : kvs.length ≤ 100000 := by
      rw [hC3.2]
      have := ords_length (k.parts.take j)
      rw [List.length_take] at this; omega
    refine ⟨_, rfl, px, _, 0, _, rfl, rfl, SqT.of hpx, atI_nat (j := 0) rfl, rfl, _, rfl, ?_⟩
    cases t with
    | num =>
      refine ite2 (fun z => absurd z (by simp [hdS]; decide)) fun _ => ?_
      exact ⟨_, kvs, rfl, hS3, hR, kR, hD3, by rw [ho]; exact hC3⟩
    | two g' a b =>
      refine ite2 (fun z => absurd z (by simp [hdS, tag_blk])) fun _ => ?_
      exact ⟨_, kvs, rfl, hS3, hR, kR, hD3, by rw [ho]; exact hC3⟩
    | blk n =>
      refine ite2 (fun _ => ?_) fun z => absurd (by simp [hdS]) z
      cases ry
      refine ⟨_, rfl, .inr (.inr (.inl ⟨rfl, .inl ⟨_, hD3⟩⟩)), ?_⟩
      refine ⟨_, rfl, px, _, 1, _, rfl, rfl, SqT.of hpx, atI_nat (j := 1) rfl, _, rfl, ld, kvs, rfl, hD3, ?_⟩
      refine ⟨ld, kvs, Sum.inl n, _, rfl, rfl, hD3, lt_line (by omega), fun v' e => ?_, fun e => ?_⟩
      · have hn : n ∈ ords (k.parts.take j) := by
          refine Classical.byContradiction fun z => ?_
          rw [hC3.1, rank_none.mpr z] at e; cases e
        have e3 : seen (ords (k.parts.take j)) (.blk n) = ords (k.parts.take j) := by simp only [seen, if_pos hn]
        exact ⟨_, kvs, rfl, hS3, hR, kR, hD3, by rw [ho, e3]; exact hC3⟩
      · have hn : n ∉ ords (k.parts.take j) := fun z => by
          rw [hC3.1] at e
          cases q2 : rank (ords (k.parts.take j)) n with
          | none => exact rank_none.mp q2 z
          | some t => rw [q2] at e; cases e
        have e3 : seen (ords (k.parts.take j)) (.blk n) = ords (k.parts.take j) ++ [n] := by simp only [seen, if_neg hn]
        have tk : Tk H3 (upd H3 ld (.dK (putK kvs (Sum.inl n) (.int kvs.length)))) := Tk.dic hD3
        have hne : lr ≠ ld := ne_of hR hD3 (by intro z; cases z)
        exact ⟨_, _, rfl, hS3.upd hld, by rw [upd_ne hne]; exact hR, kR.mono tk, upd_same, by rw [ho, e3]; exact hC3.put hn⟩
  · obtain ⟨pt', kvs, rfl, hS3, hR, kR, hD3, hC3⟩ := hP
    rw [Paired.length kz, List.take_length] at hC3
    have hT3 := LamTab.mono hS3 hT
    refine ⟨_, rfl, ps, hT3, fun lm cc H4 hKp hlm0 hlm hcc hT4 _ => ?_⟩
    have hK4 : Kp pt H3 H4 := hKp
    have tk4 : Tk H3 H4 := hK4.tk hT3.at_
    have hd4 : H4 ld = some (.dK kvs) := hKp _ _ hD3 (ne_of hD3 hT3.at_ (by intro z; cases z))
    refine ⟨v, ld, kvs, lm, cc, rfl, rfl, (hk.mono hS3.tk).mono tk4, hd4, hC3, hlm, hcc, fun y H' S' ky => ?_⟩
    obtain ⟨ps', hT4⟩ := hT4
    exact q y H' ((Kp.of hS3).trans (hK4.trans (Kp.of S'))) ⟨ps', LamTab.mono S' hT4⟩ ky
end
end K1

set_option Elab.async false
set_option maxRecDepth 100000
namespace K1
open PySem L2 Wk
/-- all but what S names stays -/
def Kx (S : Addr → Prop) (H H' : Hp) : Prop := ∀ b o, H b = some o → ¬ S b → H' b = some o
section
variable {S : Addr → Prop} {H H1 H2 : Hp}
theorem Kx.refl (S : Addr → Prop) (H : Hp) : Kx S H H := fun _ _ h _ => h
theorem Kx.of (s : Same H H1) : Kx S H H1 := fun b o h _ => s b o h
theorem Kx.trans (a : Kx S H H1) (b : Kx S H1 H2) : Kx S H H2 := fun c o h n => b c o (a c o h n) n
theorem Kx.upd {p : Addr} {o : HO} (a : Kx S H H1) (h : H p = none) : Kx S H (L2.upd H1 p o) := fun b u q n => by rw [upd_ne (ne_of_none q h)]; exact a b u q n
theorem Kx.updS {p : Addr} {o : HO} (a : Kx S H H1) (h : S p) : Kx S H (L2.upd H1 p o) := fun b u q n => by rw [upd_ne (fun z => n (by rw [z]; exact h))]; exact a b u q n
end
/-- what S names is there, and no tuple -/
def Held (S : Addr → Prop) (H : Hp) : Prop := ∀ b, S b → H b ≠ none ∧ ∀ xs, H b ≠ some (.tup xs)
theorem Held.tk {S : Addr → Prop} {H H1 : Hp} (h : Held S H) (k : Kx S H H1) : Tk H H1 := fun p xs e => k p _ e fun z => (h p z).2 xs e
theorem Held.new {S : Addr → Prop} {H : Hp} (h : Held S H) {p : Addr} (e : H p = none) : ¬ S p := fun z => (h p z).1 e
/-- what make is handed for a part -/
def ArgAt {T : Type} (R : T → V → Kd → Prop) (t : T) (H : Hp) (x : V) : Kd → Prop
  | .two f a b => ∃ p xa xb, x = .ref p ∧ H p = some (.tup [.str (tag f), xa, xb]) ∧ R t xa a ∧ R t xb b
  | u => KAt H x u
abbrev Rs {T : Type} (R : T → V → Kd → Prop) (t : T) : List V → List Kd → Prop := Paired (R t)
section
variable {P : Program} {w : World} {K : PySem.W.Frag} {mg : Str → Option Value} {base : Heap} {f g fb : Addr} {fd gd fbd : FuncData}
set_option maxHeartbeats 4000000 in
theorem built_body2 {T : Type} {S : Addr → Prop} {J : T → Hp → Prop} {le : T → T → Prop} {R : T → V → Kd → Prop} {sz : T → Nat} {t0 : T} {mk : Addr} {r : Addr → List V → Hp → VK → Prop} {cdv : Value} {A : Around} {outer : List Env} {s : Shared} {H : Hp} {v : V} {k : Kd} {Q : VK} {np : Nat}
    (hr : Room np (A.deeper (PyProof.Rows.envOfC "built" (defScope sBuilt) s.heap.objs.size f cdv))) (hnp : 1 ≤ np)
    (G : FnOk P w K mg base CX0 1 g gd ["kind"] spParts) (bG : Binds K gd ["kind"] []) (kG : PySem.W.keepIn K (.ref g) = true) (mG : mg "parts" = some (.ref g)) (mr : mg "reversed" = none) (ml : mg "len" = none)
    (hc : ∀ (f' : Addr) (pins : List (Addr × Obj)) (σ : St) (H' : Hp) (s' : Shared) (vs : List V) (us : List Value) (Q' : VK), Inv (XB P w K mg base f cdv A outer s H) pins σ H' s' → Vals vs us → r f' vs H' Q' →
      wpAny (model P w) (XB P w K mg base f cdv A outer s H).A (call (.ref f') us) (EP (XB P w K mg base f cdv A outer s H) pins σ Q') (XB P w K mg base f cdv A outer s H).xe s')
    (hf : ∀ (f' : Addr) (vs : List V) (H' : Hp) (Q' : VK), r f' vs H' Q' → ∃ c qual params body scope cl, H' f' = some (.ext (LamF f' c qual params body scope cl)))
    (hmk : ∃ c qual params body scope cl, H mk = some (.ext (LamF mk c qual params body scope cl))) (hmkS : ¬ S mk) (hk : KAt H v k) (hB : k.size ≤ 100000)
    (hS : ∀ t H, J t H → Held S H) (hJ : ∀ t H H', J t H → (∀ b, S b → H' b = H b) → Tk H H' → J t H')
    (lrf : ∀ t, le t t) (ltr : ∀ a b c, le a b → le b c → le a c) (hR : ∀ t t' v k, le t t' → R t v k → R t' v k) (j0 : J t0 H) (hz0 : sz t0 = 0)
    (hm : ∀ (t : T) (u : Kd) (H1 : Hp) (x : V) (Q' : VK), le t0 t → sz t < k.parts.length → Kx S H H1 → J t H1 → u ∈ k.parts → ArgAt R t H1 x u → (∀ t' y H2, le t t' → sz t' ≤ sz t + 1 → Kx S H1 H2 → J t' H2 → R t' y u → Q' y H2) → r mk [x] H1 Q')
    (q : ∀ t y H', le t0 t → sz t ≤ k.parts.length → Kx S H H' → J t H' → R t y k → Q y H') :
    ∃ t, PSs (XB P w K mg base f cdv A outer s H) (defBody sBuilt) t ∧ t { nx := fun _ H' => Q .non H', rt := Q } (start NB [v, .ref mk]) H := by
  have nd := scBuilt.nd
  refine ⟨_, pss_cons (ps_set (i := 2) nd rfl (Or.inl rfl) (pe_lst pa_nil))
    (pss_cons (ps_for PassesOwn.never rfl (pi_rev rfl mr (pa_cons (pe_call G (hr.mono hnp) rfl mG kG bG .nil pass0 (pa_cons (pv 0) pa_nil)) pa_nil)) (pg_name (i := 3) nd rfl (Or.inl rfl))
      (pss_one (ps_if (pt_cmpR op_eq (pe_callB call_len_seq rfl ml PySem.boot_len (pa_cons (pv 3) pa_nil)) pe_int (nomark _))
        (pss_cons (ps_set (i := 4) nd rfl (Or.inl rfl) (pe_bm0 PySem.F.plainAttrs_list PySem.F.slot_list_pop PySem.F.type_list_pop mt_pop (pv 2)))
        (pss_cons (ps_set (i := 5) nd rfl (Or.inl rfl) (pe_bm0 PySem.F.plainAttrs_list PySem.F.slot_list_pop PySem.F.type_list_pop mt_pop (pv 2)))
          (pss_one (ps_expr (pe_bm PySem.F.plainAttrs_list PySem.F.slot_list_append PySem.F.type_list_append mt_append (pv 2) (pa_cons (pe_callV (i := 1) (pv 1) (pa_cons (pe_tup (pa_cons (pe_ix ix_tup (pv 3) pe_int (fun _ _ => rfl)) (pa_cons (pv 4) (pa_cons (pv 5) pa_nil)))) pa_nil) hc hf) pa_nil))))))
        (pss_one (ps_expr (pe_bm PySem.F.plainAttrs_list PySem.F.slot_list_append PySem.F.type_list_append mt_append (pv 2) (pa_cons (pe_callV (i := 1) (pv 1) (pa_cons (pv 3) pa_nil) hc hf) pa_nil)))))))
    (pss_one (ps_ret (pe_bm0 PySem.F.plainAttrs_list PySem.F.slot_list_pop PySem.F.type_list_pop mt_pop (pv 2))))), ?_⟩
  refine ⟨Nat.zero_le _, fun lp hlp => ?_⟩
  have S1 : Same H (upd H lp (.lst [])) := Same.new hlp
  refine ⟨_, rfl, v, k, rfl, hk.mono S1.tk, hB, fun lr ws H2 S2 hlr hr2 kws => ?_⟩
  refine ⟨lr, ws, rfl, SqL.of hr2, ?_⟩
  have hlp2 : H2 lp = some (.lst []) := S2 _ _ upd_same
  have hlen : ws.length = k.parts.length := Paired.length kws
  have hps : k.parts.length ≤ 100000 := by rw [Kd.parts_length]; exact hB
  have hlrp : lr ≠ lp := fun z => by rw [z, upd_same] at hlr; cases hlr
  have hlr0 : H lr = none := S1.free hlr
  have hlpS : ¬ S lp := (hS _ _ j0).new hlp
  have hlrS : ¬ S lr := (hS _ _ j0).new hlr0
  have S12 : Same H H2 := S1.trans S2
  have same_at : ∀ b, S b → H2 b = H b := fun b hb => by
    cases e : H b with
    | none => exact absurd e ((hS _ _ j0) b hb).1
    | some o => exact S12 b o e
  have j2 : J t0 H2 := hJ _ _ _ j0 same_at S12.tk
  -- a list of our own is written
  have own : ∀ {t : T} {H5 : Hp} {xs ys : List V} {u : Kd}, J t H5 → H5 lp = some (.lst xs) → J t (upd H5 lp (.lst ys)) := fun {t H5 xs ys _} j e => hJ _ _ _ j (fun b hb => upd_ne fun z => hlpS (by rw [← z]; exact hb)) (Tk.lst e)
  refine for_rev (fun i σ H3 => ∃ t p o1 o2 xs, σ = [some v, some (.ref mk), some (.ref lp), p, o1, o2] ∧ le t0 t ∧ sz t ≤ i ∧ Kx S H H3 ∧ J t H3 ∧ H3 lr = some (.lst ws) ∧ H3 lp = some (.lst xs) ∧ Ks H3 ws k.parts ∧ Rs R t xs (dfs [k] (k.parts.length - i)).reverse)
    ⟨t0, none, none, none, [], rfl, lrf _, Nat.le_of_eq hz0, .of S12, j2, hr2, hlp2, kws, ?_⟩ (fun i σ H3 hi ⟨t, p, o1, o2, xs, _, _, _, _, _, h, _⟩ => SqL.of h) (fun i x σ H3 hi hx hP => ?_) (fun σ H3 hP => ?_)
  · rw [Nat.sub_zero, dfs_end (by rw [flat_one]; exact Nat.le_refl _)]
    exact .nil
  · obtain ⟨t, p, o1, o2, xs, rfl, hle, hsz, hK, hj, hRr, hL, kR, kX⟩ := hP
    obtain ⟨u, hu, ku⟩ := paired_get kR hx
    rw [hlen] at hi hu
    obtain ⟨r', hdf⟩ := dfs_get (ts := [k]) (n := k.parts.length - 1 - i) (by rw [flat_one]; exact hu)
    have hst := dfs_step hdf
    rw [show k.parts.length - 1 - i + 1 = k.parts.length - i by omega] at hst
    have hnx : k.parts.length - (i + 1) = k.parts.length - 1 - i := by omega
    rw [hst] at kX
    have hxs : xs.length ≤ 100000 := by
      rw [Paired.length kX, List.length_reverse, ← hst]
      have := dfs_length [k] (k.parts.length - i)
      rw [flat_one] at this; omega
    have htin : u ∈ k.parts := List.mem_of_getElem? hu
    obtain ⟨px, ys, rfl, hpx, ry⟩ := ku.shape
    refine ⟨_, rfl, px, _, rfl, .inr (SqT.of hpx), rfl, _, rfl, ?_⟩
    have hmk3 : ∀ H5, Kx S H H5 → ∃ c qual params body scope cl, H5 mk = some (.ext (LamF mk c qual params body scope cl)) := fun H5 s5 => by
      obtain ⟨c, qual, params, body, scope, cl, e⟩ := hmk
      exact ⟨c, qual, params, body, scope, cl, s5 _ _ e hmkS⟩
    -- behind make, the list as it was put back
    have fin : ∀ (o1' o2' : Option V) (xs1 : List V) (ks1 : List Kd) (H4 : Hp) (t' : T) (y : V) (H5 : Hp), Kx S H H4 → Tk H3 H4 → H4 lr = some (.lst ws) → H4 lp = some (.lst xs1) → J t H4 → Rs R t xs1 ks1 → u :: ks1.reverse = dfs [k] (k.parts.length - (i + 1)) →
        le t t' → sz t' ≤ sz t + 1 → Kx S H4 H5 → J t' H5 → R t' y u → ∃ t p o1 o2 xs', [some v, some (.ref mk), some (.ref lp), some (.ref px), o1', o2'] = [some v, some (.ref mk), some (.ref lp), p, o1, o2] ∧ le t0 t ∧ sz t ≤ i + 1 ∧ Kx S H (upd H5 lp (.lst (xs1 ++ [y]))) ∧ J t (upd H5 lp (.lst (xs1 ++ [y]))) ∧ upd H5 lp (.lst (xs1 ++ [y])) lr = some (.lst ws) ∧
        upd H5 lp (.lst (xs1 ++ [y])) lp = some (.lst xs') ∧ Ks (upd H5 lp (.lst (xs1 ++ [y]))) ws k.parts ∧ Rs R t xs' (dfs [k] (k.parts.length - (i + 1))).reverse := by
      intro o1' o2' xs1 ks1 H4 t' y H5 K4 T4 hR4 hL4 j4 kX1 hdd hle' hs' K5 j5 ry
      have hL5 := K5 _ _ hL4 hlpS
      have tk5 : Tk H4 H5 := (hS _ _ j4).tk K5
      have tk6 : Tk H3 (upd H5 lp (.lst (xs1 ++ [y]))) := (T4.trans tk5).trans (Tk.lst hL5)
      refine ⟨t', _, _, _, xs1 ++ [y], rfl, ltr _ _ _ hle hle', (by omega), (K4.trans K5).upd hlp, own (u := u) j5 hL5, by rw [upd_ne hlrp]; exact K5 _ _ hR4 hlrS, upd_same, kR.mono tk6, ?_⟩
      rw [← hdd, List.reverse_cons, List.reverse_reverse]
      exact paired_app (Paired.imp' (fun a b q => hR _ _ _ _ hle' q) kX1) (.cons ry .nil)
    cases u with
    | num =>
      cases ry
      refine ite2 (fun z => absurd z (by simp)) fun _ => ?_
      refine ⟨_, rfl, .inl ⟨rfl, _, SqL.of hL⟩, ?_⟩
      refine ⟨mk, rfl, hmk3 _ hK, _, rfl, hm t .num H3 _ _ hle (by omega) hK hj htin ku fun t' y H5 l5 s5 K5 j5 r5 => ?_⟩
      exact ⟨lp, xs, y, rfl, rfl, K5 _ _ hL hlpS, lt_line (by omega), fin _ _ xs _ H3 t' y H5 hK (Tk.refl _) hRr hL hj kX (by rw [hnx, hdf, List.reverse_reverse]; rfl) l5 s5 K5 j5 r5⟩
    | blk n =>
      cases ry
      refine ite2 (fun z => absurd z (by simp)) fun _ => ?_
      refine ⟨_, rfl, .inl ⟨rfl, _, SqL.of hL⟩, ?_⟩
      refine ⟨mk, rfl, hmk3 _ hK, _, rfl, hm t (.blk n) H3 _ _ hle (by omega) hK hj htin ku fun t' y H5 l5 s5 K5 j5 r5 => ?_⟩
      exact ⟨lp, xs, y, rfl, rfl, K5 _ _ hL hlpS, lt_line (by omega), fin _ _ xs _ H3 t' y H5 hK (Tk.refl _) hRr hL hj kX (by rw [hnx, hdf, List.reverse_reverse]; rfl) l5 s5 K5 j5 r5⟩
    | two g' a b =>
      obtain ⟨xa, xb, rfl, ka, kb⟩ := ry
      refine ite2 (fun _ => ?_) fun z => absurd (by simp) z
      have kX4 : Rs R t xs (r'.reverse ++ [b] ++ [a]) := by
        have e : (kids (Kd.two g' a b) ++ r').reverse = r'.reverse ++ [b] ++ [a] := by simp [kids]
        rw [← e]; exact kX
      obtain ⟨xs1, ya, rfl, kX5, kya⟩ := paired_snoc_inv kX4
      obtain ⟨xs2, yb, rfl, kX6, kyb⟩ := paired_snoc_inv kX5
      refine ⟨_, rfl, .inl ⟨rfl, _, SqL.of hL⟩, lp, _, ya, rfl, rfl, hL, by simp, ?_⟩
      rw [List.dropLast_concat]
      have hL4 : upd H3 lp (.lst (xs2 ++ [yb])) lp = some (.lst (xs2 ++ [yb])) := upd_same
      refine ⟨_, rfl, .inl ⟨rfl, _, SqL.of hL4⟩, lp, _, yb, rfl, rfl, hL4, by simp, ?_⟩
      rw [List.dropLast_concat, upd_upd]
      have hL5 : upd H3 lp (.lst xs2) lp = some (.lst xs2) := upd_same
      have tk5 : Tk H3 (upd H3 lp (.lst xs2)) := Tk.lst hL
      have K5 : Kx S H (upd H3 lp (.lst xs2)) := hK.upd hlp
      have j5 : J t (upd H3 lp (.lst xs2)) := own (u := a) hj hL
      have hR5 : upd H3 lp (.lst xs2) lr = some (.lst ws) := by rw [upd_ne hlrp]; exact hRr
      have hpx5 := tk5 _ _ hpx
      generalize upd H3 lp (.lst xs2) = H5 at hL5 tk5 K5 j5 hR5 hpx5 ⊢
      refine ⟨_, rfl, .inl ⟨rfl, _, SqL.of hL5⟩, ?_⟩
      refine ⟨mk, rfl, hmk3 _ K5, ?_⟩
      refine ⟨_, rfl, px, _, 0, _, rfl, rfl, SqT.of hpx5, atI_nat (j := 0) rfl, _, rfl, _, rfl, (by show 3 ≤ sizeLine; decide), fun tp htp => ?_⟩
      have S6 : Same H5 (upd H5 tp (.tup [.str (tag g'), ya, yb])) := Same.new htp
      have htpS : ¬ S tp := (hS _ _ j5).new htp
      have j6 : J t (upd H5 tp (.tup [.str (tag g'), ya, yb])) := hJ _ _ _ j5 (fun c hc => upd_ne fun z => htpS (by rw [← z]; exact hc)) S6.tk
      refine hm t (.two g' a b) _ _ _ hle (by omega) (K5.trans (.of S6)) j6 htin ⟨tp, ya, yb, rfl, upd_same, kya, kyb⟩ fun t' y H7 l7 s7 K7 j7 r7 => ?_
      refine ⟨lp, xs2, y, rfl, rfl, K7 _ _ (S6 _ _ hL5) hlpS, lt_line (by simp at hxs; omega), ?_⟩
      exact fin _ _ xs2 _ _ t' y H7 (K5.trans (.of S6)) (tk5.trans S6.tk) (S6 _ _ hR5) (S6 _ _ hL5) j6 kX6 (by rw [hnx, hdf, List.reverse_reverse]) l7 s7 K7 j7 r7
  · obtain ⟨t, p, o1, o2, xs, rfl, hle, hsz, hK, hj, hRr, hL, kR, kX⟩ := hP
    rw [hlen, Nat.sub_self] at kX
    have kX : Rs R t xs [k] := kX
    cases kX with
    | cons kx kn =>
      cases kn
      exact ⟨_, rfl, .inl ⟨rfl, _, SqL.of hL⟩, lp, _, _, rfl, rfl, hL, rfl, q t _ _ hle (by rw [← hlen]; exact hsz) (hK.upd hlp) (own (u := k) hj hL) kx⟩
end
end K1

set_option Elab.async false
set_option maxRecDepth 100000
namespace L2
open PySem PySem.Spec PyProof.Rows
/-- a def of the text, its defaults in dV -/
structure FunD (K : PySem.W.Frag) (x qual : Str) (st : Stmt) (f : Addr) (fd : FuncData) (dV : Value) : Prop where
  ex : ∃ (oc : Value) (od : Option Addr) (kV doc pm : Value) (an : Option Addr) (cdv ct : Value) (osl : Array (Option Value)),
    fd = PySem.W.fnOf x qual (defArgs st) (defBody st) (defScope st) dV kV doc pm an cdv ct ∧ K.lookup f = some ⟨oc, od, .func fd, osl⟩ ∧ PySem.W.codeIn K cdv qual = true
section
variable {P : Program} {w : World} {K : PySem.W.Frag} {mg : Str → Option Value} {base : Heap} {dV : Value}
theorem Fun.d {x qual : Str} {st : Stmt} {f : Addr} {fd : FuncData} (F : Fun K x qual st f fd) : FunD K x qual st f fd .none := ⟨F.ex⟩
theorem FunD.ok {x qual : Str} {st : Stmt} {f : Addr} {fd : FuncData} {N ps : List Str} {k : Nat} {sp : Sp} (F : FunD K x qual st f fd dV) (S : FnScope N ps (defScope st)) (len : ∀ vs H Q E, sp vs H Q E → vs.length = ps.length)
    (hb : ∀ (cdv : Value) (A : Around) (outer : List Env) (s : Shared) (H : Hp) (vs : List V) (Q : VK) (E : XK), Room k (A.deeper (envOfC qual (defScope st) s.heap.objs.size f cdv)) → sp vs H Q E →
      ∃ t, PSs (cxOf CX0 P w K mg base N qual (defScope st) f cdv A outer s H E).nox (defBody st) t ∧ t { nx := fun _ H' => Q .non H', rt := Q } (start N vs) H) : FnOk P w K mg base CX0 (k + 1) f fd ps sp := by
  obtain ⟨oc, od, kV, doc, pm, an, cdv, ct, osl, rfl, l1, l2⟩ := F.ex
  refine fn_of l1 l2 S len fun A outer s H vs Q E hr h => ?_
  obtain ⟨t, ht, q⟩ := hb cdv A outer s H vs Q E hr h
  exact ⟨t, ht.nox, q⟩
theorem FunD.okC {x qual : Str} {st : Stmt} {f c : Addr} {fd : FuncData} {N ps : List Str} {k : Nat} {sp : Sp} (F : FunD K x qual st f fd dV) (hc : fd.code = .ref c) (S : FnScope N ps (defScope st)) (len : ∀ vs H Q E, sp vs H Q E → vs.length = ps.length)
    (hb : ∀ (A : Around) (outer : List Env) (s : Shared) (H : Hp) (vs : List V) (Q : VK) (E : XK), Room k (A.deeper (envOfC qual (defScope st) s.heap.objs.size f (.ref c))) → sp vs H Q E →
      ∃ t, PSs (cxOf CX0 P w K mg base N qual (defScope st) f (.ref c) A outer s H E).nox (defBody st) t ∧ t { nx := fun _ H' => Q .non H', rt := Q } (start N vs) H) : FnOk P w K mg base CX0 (k + 1) f fd ps sp := by
  obtain ⟨oc, od, kV, doc, pm, an, cdv, ct, osl, rfl, l1, l2⟩ := F.ex
  have e : cdv = .ref c := hc
  subst e
  refine fn_of l1 l2 S len fun A outer s H vs Q E hr h => ?_
  obtain ⟨t, ht, q⟩ := hb A outer s H vs Q E hr h
  exact ⟨t, ht.nox, q⟩
theorem FunD.binds {x qual : Str} {st : Stmt} {f : Addr} {fd : FuncData} {ps : List Str} (F : FunD K x qual st f fd dV)
    (h : ∀ (kV doc pm : Value) (an : Option Addr) (cdv ct : Value) (us : List Value), us.length = ps.length → bindArgs (PySem.W.fnOf x qual (defArgs st) (defBody st) (defScope st) dV kV doc pm an cdv ct) ⟨us, []⟩ = pure (ps.zip us)) : Binds K fd ps [] := by
  obtain ⟨oc, od, kV, doc, pm, an, cdv, ct, osl, rfl, l1, l2⟩ := F.ex
  exact .all (h kV doc pm an cdv ct)
end
end L2

set_option Elab.async false
set_option maxRecDepth 100000
namespace L2
open PySem PySem.Spec PyProof.Rows
/-! ### list(zip(t, u)) over two tuples -/
section
variable {P : Program} {w : World} {A : Around} {E : Value → Shared → Prop} {s : Shared}
theorem nt_item {j t : Addr} {n : Nat} {its : Array Value} {v : Value} {Q : Value → Shared → Prop} (hj : s.heap.IsTupleIter j t n) (ht : s.heap.IsTuple t its) (hv : its[n]? = some v)
    (q : ∀ h', h'.IsTupleIter j t (n + 1) → Heap.SameBut j s.heap h' → Q v { s with heap := h' }) : wpAny (model P w) A (Builtin.SmallTypes.nextOf (.ref j)) Q E s := by
  obtain ⟨o1, g1, c1, d1⟩ := id hj
  obtain ⟨o2, g2, _, n2, d2⟩ := ht
  unfold Builtin.SmallTypes.nextOf
  refine wpAny_bind (wpAny_callSpecial?_slot (name := Str.ofString "__next__") hj.typeIs F.slot_tuple_iterator_next (wpAny_call_entry F.slot_tuple_iterator_next hj.typeIs F.entry_tuple_iterator_next ?_ (F.args_tuple_iterator_next_1 _)))
  show wpAny _ _ (field (.ref j) 0 >>= _) _ _ s
  refine wpAny_bind (wpAny_field g1 d1 (x := .ref t) rfl ?_)
  show wpAny _ _ (if (Value.ref t == Value.none) = true then _ else _) _ _ s
  rw [if_neg (by exact Bool.false_ne_true)]
  show wpAny _ _ (field (.ref j) 1 >>= _) _ _ s
  refine wpAny_bind (wpAny_field g1 d1 (x := .int n 0) rfl ?_)
  show wpAny _ _ (seqItems? (.ref t) >>= _) _ _ s
  refine wpAny_bind (wpAny_seqItems g2 d2 ?_)
  simp only [hv, Int.toNat_natCast]
  refine wpAny_bind (wpAny_setField g1 d1 (by simp) (wpAny_pure ⟨v, rfl, wpAny_pure (q _ ?_ (Heap.SameBut.update ..))⟩))
  refine ⟨_, Heap.get?_update_self _ g1 (Obj.isFreed_of_fields (Obj.data_mapFields d1 _)), (Obj.cls_mapFields ..).trans c1, ?_⟩
  rw [Obj.data_mapFields d1]
  simp [rawInt]
theorem nt_end {j t : Addr} {n : Nat} {its : Array Value} {Q : Value → Shared → Prop} (hc : A.handled = none) (hj : s.heap.IsTupleIter j t n) (ht : s.heap.IsTuple t its) (hv : its[n]? = none)
    (q : ∀ h' e, Heap.ExtBut j s.heap h' → (∃ o, h'.get? e = some o ∧ o.cls = .type "StopIteration") → E (.ref e) { s with heap := h' }) : wpAny (model P w) A (Builtin.SmallTypes.nextOf (.ref j)) Q E s := by
  obtain ⟨o1, g1, c1, d1⟩ := id hj
  obtain ⟨o2, g2, _, n2, d2⟩ := ht
  unfold Builtin.SmallTypes.nextOf
  refine wpAny_bind (wpAny_callSpecial?_slot (name := Str.ofString "__next__") hj.typeIs F.slot_tuple_iterator_next (wpAny_call_entry F.slot_tuple_iterator_next hj.typeIs F.entry_tuple_iterator_next ?_ (F.args_tuple_iterator_next_1 _)))
  show wpAny _ _ (field (.ref j) 0 >>= _) _ _ s
  refine wpAny_bind (wpAny_field g1 d1 (x := .ref t) rfl ?_)
  show wpAny _ _ (if (Value.ref t == Value.none) = true then _ else _) _ _ s
  rw [if_neg (by exact Bool.false_ne_true)]
  show wpAny _ _ (field (.ref j) 1 >>= _) _ _ s
  refine wpAny_bind (wpAny_field g1 d1 (x := .int n 0) rfl ?_)
  show wpAny _ _ (seqItems? (.ref t) >>= _) _ _ s
  refine wpAny_bind (wpAny_seqItems g2 d2 ?_)
  simp only [hv, Int.toNat_natCast]
  refine wpAny_bind (wpAny_rule (wpAny_bind (wpAny_setField g1 d1 (by simp) ?_)))
  show wpAny _ _ (newExc (.type "StopIteration") [] >>= _) _ _ _
  refine wpAny_bind ?_
  simp only [newTuple, newExc]
  refine wpAny_bind (wpAny_newObj_type ?_ (by size_fits))
  refine wpAny_bind (m := firstArgMember _ _) (wpAny_of_eq (a := Value.none) rfl ?_)
  refine wpAny_newObj_type ?_ (by size_fits)
  simp only [raiseNew]
  refine wpAny_bind (wpAny_handled ?_)
  rw [show A.in1.handled = none from hc]
  refine wpAny_bind (wpAny_pure (wpAny_throw ?_))
  refine q _ _ (fun b o hb eb => ?_) ⟨_, Heap.get?_push_size _ rfl, rfl⟩
  exact Heap.get?_push_of_some _ (Heap.get?_push_of_some _ ((Heap.get?_update_other _ _ (Ne.symm hb)).trans eb))
end
end L2

set_option Elab.async false
set_option maxRecDepth 100000
namespace L2
open PySem PySem.Spec PyProof.Rows
abbrev ZAt (h : Heap) (z TI TO : Addr) (f0 f1 : Value) : Prop :=
  h.get? z = some { cls := .type "zip", dict := none, data := .fields #[f0, f1, .bool false, .ref TI, .ref TO], slots := #[] }
/-- what a zip of two tuples is made of -/
structure ZSt (h : Heap) (z TI TO i1 i2 t1 t2 : Addr) (k : Nat) (xs ys : Array Value) : Prop where
  ti : IsPair h TI (.ref i1) (.ref i2)
  to : ∃ a b, IsPair h TO a b
  j1 : h.IsTupleIter i1 t1 k
  j2 : h.IsTupleIter i2 t2 k
  p1 : h.IsTuple t1 xs
  p2 : h.IsTuple t2 ys
section
variable {P : Program} {w : World} {A : Around} {E : Value → Shared → Prop} {s : Shared} {z TI TO i1 i2 t1 t2 : Addr} {k : Nat} {xs ys : Array Value} {x y : Value}
theorem zt_free (D : ZipApart z TI TO i1 i2 t1 t2) (hz : ZAt s.heap z TI TO .none (.bool false)) (Z : ZSt s.heap z TI TO i1 i2 t1 t2 k xs ys) (hx : xs[k]? = some x) (hy : ys[k]? = some y) {Q : Value → Shared → Prop}
    (q : ∀ h', ZAt h' z TI TO (rawInt s.heap.objs.size) (.bool false) → ZSt h' z TI TO i1 i2 t1 t2 (k + 1) xs ys → IsPair h' s.heap.objs.size x y → h'.objs.size = s.heap.objs.size + 1 →
      (∀ c o, c ≠ z → c ≠ TO → c ≠ i1 → c ≠ i2 → s.heap.get? c = some o → h'.get? c = some o) → Q (.ref s.heap.objs.size) { s with heap := h' }) :
    wpAny (model P w) A (Builtin.«zip.__next__» ⟨[.ref z], []⟩) (fun fin s' => ∃ v, fin = .done (.ret v) ∧ Q v s') E s := by
  obtain ⟨a, b, hTO⟩ := Z.to
  show wpAny _ _ (field (.ref z) 2 >>= _) _ _ _
  refine wpAny_bind (wpAny_field hz rfl (x := .bool false) rfl ?_)
  show wpAny _ _ (field (.ref z) 3 >>= _) _ _ _
  refine wpAny_bind (wpAny_field hz rfl (x := .ref TI) rfl ?_)
  refine wpAny_bind (wpAny_seqItems Z.ti rfl ?_)
  show wpAny _ _ (Builtin.SmallTypes.ownedTupleIsFree (.ref z) >>= _) _ _ _
  refine wpAny_bind ?_
  unfold Builtin.SmallTypes.ownedTupleIsFree
  refine wpAny_bind (wpAny_field hz rfl (x := .none) rfl (wpAny_pure ?_))
  simp only [if_true]
  refine wpAny_bind (wpAny_rule ?_)
  refine wpAny_bind (wpAny_field hz rfl (x := .ref TO) rfl ?_)
  refine wpAny_bind (wpAny_setField_rec hz (by simp) fun h1 z1 b1 => ?_)
  replace z1 : ZAt h1 z TI TO .ellipsis (.bool false) := z1
  refine wpAny_bind ?_
  simp only [List.forIn_cons, List.forIn_nil, List.zipIdx_cons, List.zipIdx_nil]
  refine wpAny_bind (wpAny_bind (wpAny_onRaise ?_))
  show wpAny _ _ (Builtin.SmallTypes.nextOf (.ref i1) >>= _) _ _ _
  have e1 : ∀ c o, c ≠ z → s.heap.get? c = some o → h1.get? c = some o := fun c o n e => b1.extBut c o n e
  refine wpAny_bind (nt_item (Z.j1.at fun o e => e1 _ o D.i1z e) (Z.p1.at fun o e => e1 _ o D.l1z e) hx fun h2 j2 b2 => wpAny_pure ?_)
  have e2 : ∀ c o, c ≠ z → c ≠ i1 → s.heap.get? c = some o → h2.get? c = some o := fun c o n m e => b2.extBut c o m (e1 c o n e)
  have o2 : IsPair h2 TO a b := e2 _ _ D.TOz D.TOi1 hTO
  refine wpAny_bind (wpAny_seqItems o2 rfl ?_)
  refine wpAny_bind (wpAny_updateSeq_pair o2 fun h3 o3 b3 => ?_)
  replace o3 : IsPair h3 TO x b := o3
  refine wpAny_bind (wpAny_letGo (wpAny_pure ?_))
  refine wpAny_bind (wpAny_bind (wpAny_onRaise ?_))
  show wpAny _ _ (Builtin.SmallTypes.nextOf (.ref i2) >>= _) _ _ _
  have e3 : ∀ c o, c ≠ z → c ≠ i1 → c ≠ TO → s.heap.get? c = some o → h3.get? c = some o := fun c o n m l e => b3.extBut c o l (e2 c o n m e)
  refine wpAny_bind (nt_item (Z.j2.at fun o e => e3 _ o D.i2z D.i12.symm D.TOi2.symm e) (Z.p2.at fun o e => e3 _ o D.l2z D.l2i1 D.l2TO e) hy fun h4 j4 b4 => wpAny_pure ?_)
  have e4 : ∀ c o, c ≠ z → c ≠ i1 → c ≠ TO → c ≠ i2 → s.heap.get? c = some o → h4.get? c = some o := fun c o n m l r e => b4.extBut c o r (e3 c o n m l e)
  have o4 : IsPair h4 TO x b := b4.extBut _ _ D.TOi2 o3
  refine wpAny_bind (wpAny_seqItems o4 rfl ?_)
  refine wpAny_bind (wpAny_updateSeq_pair o4 fun h5 o5 b5 => ?_)
  replace o5 : IsPair h5 TO x y := o5
  refine wpAny_bind (wpAny_letGo (wpAny_pure (wpAny_pure ?_)))
  refine wpAny_bind (wpAny_seqItems o5 rfl ?_)
  refine wpAny_bind (wpAny_newTuple ?_)
  have sz : h5.objs.size = s.heap.objs.size := by rw [b5.1, b4.1, b3.1, b2.1, b1.1]
  have z5 : ZAt h5 z TI TO .ellipsis (.bool false) := b5.extBut _ _ D.TOz.symm (b4.extBut _ _ D.i2z.symm (b3.extBut _ _ D.TOz.symm (b2.extBut _ _ D.i1z.symm z1)))
  have e5 : ∀ c o, c ≠ z → c ≠ i1 → c ≠ TO → c ≠ i2 → s.heap.get? c = some o → h5.get? c = some o := fun c o n m l r e => b5.extBut c o l (e4 c o n m l r e)
  have i5 : h5.IsTupleIter i1 t1 (k + 1) := j2.at fun o e => b5.extBut _ o D.TOi1.symm (b4.extBut _ o D.i12 (b3.extBut _ o D.TOi1.symm e))
  have k5 : h5.IsTupleIter i2 t2 (k + 1) := j4.at fun o e => b5.extBut _ o D.TOi2.symm e
  show wpAny _ _ (Builtin.SmallTypes.ownedTupleHandOut (.ref z) (.ref h5.objs.size) >>= _) _ _ _
  refine wpAny_bind ?_
  unfold Builtin.SmallTypes.ownedTupleHandOut
  have z6 : ZAt (h5.push { cls := .type "tuple", data := .seq #[x, y] }) z TI TO .ellipsis (.bool false) := Heap.get?_push_of_some _ z5
  refine wpAny_bind (wpAny_setField_rec z6 (by simp) fun h7 z7 b7 => ?_)
  replace z7 : ZAt h7 z TI TO (rawInt h5.objs.size) (.bool false) := z7
  refine wpAny_setField_rec z7 (by simp) fun h8 z8 b8 => ?_
  replace z8 : ZAt h8 z TI TO (rawInt h5.objs.size) (.bool false) := z8
  have up : ∀ c o, c ≠ z → h5.get? c = some o → h8.get? c = some o := fun c o n e => b8.extBut c o n (b7.extBut c o n (Heap.get?_push_of_some _ e))
  have zlt : z < h5.objs.size := Heap.lt_size z5
  have new : IsPair h8 h5.objs.size x y := b8.extBut _ _ (Nat.ne_of_gt zlt) (b7.extBut _ _ (Nat.ne_of_gt zlt) (Heap.get?_push_size _ rfl))
  refine wpAny_pure ⟨_, rfl, ?_⟩
  rw [sz] at z8 new ⊢
  refine q h8 z8 ⟨up _ _ D.TIz (e5 _ _ D.TIz D.TIi1 D.TITO D.TIi2 Z.ti), ⟨x, y, up _ _ D.TOz o5⟩, i5.at fun o e => up _ o D.i1z e, k5.at fun o e => up _ o D.i2z e, Z.p1.at fun o e => up _ o D.l1z (e5 _ o D.l1z D.l1i1 D.l1TO D.l1i2 e), Z.p2.at fun o e => up _ o D.l2z (e5 _ o D.l2z D.l2i1 D.l2TO D.l2i2 e)⟩ new ?_ fun c o n m l r e => up c o n (e5 c o n l m r e)
  rw [b8.1, b7.1, Heap.size_push, sz]
end
end L2

set_option Elab.async false
set_option maxRecDepth 100000
namespace L2
open PySem PySem.Spec PyProof.Rows
section
variable {P : Program} {w : World} {A : Around} {E : Value → Shared → Prop} {s : Shared} {z TI TO i1 i2 t1 t2 T : Addr} {k : Nat} {xs ys : Array Value} {x y f1 : Value}
/-- the tuple that was handed out last is still there -/
theorem zt_alive {Q : Bool → Shared → Prop} (hz : ZAt s.heap z TI TO (rawInt T) f1) (hT : ∃ o, s.heap.get? T = some o) (hf : f1 = .bool true ∨ f1 = .bool false)
    (q : ∀ h', ZAt h' z TI TO (rawInt T) (.bool true) → (∀ c o, c ≠ z → s.heap.get? c = some o → h'.get? c = some o) → h'.objs.size = s.heap.objs.size → Q false { s with heap := h' }) :
    wpAny (model P w) A (Builtin.SmallTypes.ownedTupleIsFree (.ref z)) Q E s := by
  obtain ⟨oT, gT⟩ := hT
  unfold Builtin.SmallTypes.ownedTupleIsFree
  refine wpAny_bind (wpAny_field hz rfl (x := rawInt T) rfl ?_)
  show wpAny _ _ (loadIfAlive ((T : Int).toNat) >>= _) _ _ _
  refine wpAny_bind (Q := Q) ?_
  have e : (T : Int).toNat = T := Int.toNat_natCast T
  rw [e]
  intro Γ p hΓ
  show Sem.wp _ _ (Sem.loadIfAlive T _) _ _ _ _
  rw [Sem.wp, gT]
  show Sem.wp _ _ (Sem.pure (some oT)) _ _ _ _
  rw [Sem.wp]
  show wpAny _ _ (field (.ref z) 1 >>= _) _ _ _
  refine wpAny_bind (wpAny_field hz rfl (x := f1) rfl ?_)
  rcases hf with rfl | rfl
  · exact wpAny_pure (q s.heap hz (fun _ _ _ e => e) rfl)
  · show wpAny _ _ (setField (.ref z) 1 (.bool true) >>= _) _ _ _
    refine wpAny_bind (wpAny_setField_rec hz (by simp) fun h1 z1 b1 => wpAny_pure (q h1 z1 (fun c o n e => b1.extBut c o n e) b1.1))
theorem zt_kept (D : ZipApart z TI TO i1 i2 t1 t2) (hz : ZAt s.heap z TI TO (rawInt T) f1) (hT : ∃ o, s.heap.get? T = some o) (hf : f1 = .bool true ∨ f1 = .bool false) (Z : ZSt s.heap z TI TO i1 i2 t1 t2 k xs ys) (hx : xs[k]? = some x) (hy : ys[k]? = some y) {Q : Value → Shared → Prop}
    (q : ∀ h', ZAt h' z TI TO (rawInt T) (.bool true) → ZSt h' z TI TO i1 i2 t1 t2 (k + 1) xs ys → IsPair h' s.heap.objs.size x y → h'.objs.size = s.heap.objs.size + 1 →
      (∀ c o, c ≠ z → c ≠ i1 → c ≠ i2 → s.heap.get? c = some o → h'.get? c = some o) → Q (.ref s.heap.objs.size) { s with heap := h' }) :
    wpAny (model P w) A (Builtin.«zip.__next__» ⟨[.ref z], []⟩) (fun fin s' => ∃ v, fin = .done (.ret v) ∧ Q v s') E s := by
  show wpAny _ _ (field (.ref z) 2 >>= _) _ _ _
  refine wpAny_bind (wpAny_field hz rfl (x := .bool false) rfl ?_)
  show wpAny _ _ (field (.ref z) 3 >>= _) _ _ _
  refine wpAny_bind (wpAny_field hz rfl (x := .ref TI) rfl ?_)
  refine wpAny_bind (wpAny_seqItems Z.ti rfl ?_)
  show wpAny _ _ (Builtin.SmallTypes.ownedTupleIsFree (.ref z) >>= _) _ _ _
  refine wpAny_bind (zt_alive hz hT hf fun h1 z1 e1 s1 => ?_)
  simp only [Bool.false_eq_true, if_false, List.forIn_toArray, List.forIn_cons, List.forIn_nil]
  refine wpAny_bind (wpAny_bind (wpAny_bind (wpAny_holding ?_)))
  show wpAny _ _ (Builtin.SmallTypes.nextOf (.ref i1) >>= _) _ _ _
  refine wpAny_bind (nt_item (Z.j1.at fun o e => e1 _ o D.i1z e) (Z.p1.at fun o e => e1 _ o D.l1z e) hx fun h2 j2 b2 => wpAny_pure ?_)
  have e2 : ∀ c o, c ≠ z → c ≠ i1 → s.heap.get? c = some o → h2.get? c = some o := fun c o n m e => b2.extBut c o m (e1 c o n e)
  refine wpAny_pure ?_
  refine wpAny_bind (wpAny_bind (wpAny_holding ?_))
  show wpAny _ _ (Builtin.SmallTypes.nextOf (.ref i2) >>= _) _ _ _
  refine wpAny_bind (nt_item (Z.j2.at fun o e => e2 _ o D.i2z D.i12.symm e) (Z.p2.at fun o e => e2 _ o D.l2z D.l2i1 e) hy fun h4 j4 b4 => wpAny_pure ?_)
  have e4 : ∀ c o, c ≠ z → c ≠ i1 → c ≠ i2 → s.heap.get? c = some o → h4.get? c = some o := fun c o n m r e => b4.extBut c o r (e2 c o n m e)
  have z4 : ZAt h4 z TI TO (rawInt T) (.bool true) := b4.extBut _ _ D.i2z.symm (b2.extBut _ _ D.i1z.symm z1)
  have sz : h4.objs.size = s.heap.objs.size := by rw [b4.1, b2.1]; exact s1
  refine wpAny_pure (wpAny_pure ?_)
  refine wpAny_bind (wpAny_newTuple (hsz := by show 2 ≤ sizeLine; decide) ?_)
  refine wpAny_pure ⟨_, rfl, ?_⟩
  show Q (.ref h4.objs.size) { s with heap := h4.push { cls := .type "tuple", data := .seq #[x, y] } }
  rw [sz]
  obtain ⟨a, b, hTO⟩ := Z.to
  have up : ∀ c o, h4.get? c = some o → (h4.push { cls := .type "tuple", data := .seq #[x, y] }).get? c = some o := fun c o e => Heap.get?_push_of_some _ e
  have new : IsPair (h4.push { cls := .type "tuple", data := .seq #[x, y] }) s.heap.objs.size x y := by rw [← sz]; exact Heap.get?_push_size _ rfl
  refine q _ (up _ _ z4) ⟨up _ _ (e4 _ _ D.TIz D.TIi1 D.TIi2 Z.ti), ⟨a, b, up _ _ (e4 _ _ D.TOz D.TOi1 D.TOi2 hTO)⟩, j2.at fun o e => up _ o (b4.extBut _ o D.i12 e), j4.at fun o e => up _ o e, Z.p1.at fun o e => up _ o (e4 _ o D.l1z D.l1i1 D.l1i2 e), Z.p2.at fun o e => up _ o (e4 _ o D.l2z D.l2i1 D.l2i2 e)⟩ new ?_ fun c o n m r e => up c o (e4 c o n m r e)
  rw [Heap.size_push, sz]
theorem zt_free_end (hc : A.handled = none) (D : ZipApart z TI TO i1 i2 t1 t2) (hz : ZAt s.heap z TI TO .none (.bool false)) (Z : ZSt s.heap z TI TO i1 i2 t1 t2 k xs ys) (hx : xs[k]? = none) {Q : Fin → Shared → Prop}
    (q : ∀ h' e, (∀ c o, c ≠ z → c ≠ i1 → s.heap.get? c = some o → h'.get? c = some o) → (∃ o, h'.get? e = some o ∧ o.cls = .type "StopIteration") → E (.ref e) { s with heap := h' }) :
    wpAny (model P w) A (Builtin.«zip.__next__» ⟨[.ref z], []⟩) Q E s := by
  show wpAny _ _ (field (.ref z) 2 >>= _) _ _ _
  refine wpAny_bind (wpAny_field hz rfl (x := .bool false) rfl ?_)
  show wpAny _ _ (field (.ref z) 3 >>= _) _ _ _
  refine wpAny_bind (wpAny_field hz rfl (x := .ref TI) rfl ?_)
  refine wpAny_bind (wpAny_seqItems Z.ti rfl ?_)
  show wpAny _ _ (Builtin.SmallTypes.ownedTupleIsFree (.ref z) >>= _) _ _ _
  refine wpAny_bind ?_
  unfold Builtin.SmallTypes.ownedTupleIsFree
  refine wpAny_bind (wpAny_field hz rfl (x := .none) rfl (wpAny_pure ?_))
  simp only [if_true]
  refine wpAny_bind (wpAny_rule ?_)
  refine wpAny_bind (wpAny_field hz rfl (x := .ref TO) rfl ?_)
  refine wpAny_bind (wpAny_setField_rec hz (by simp) fun h1 z1 b1 => ?_)
  replace z1 : ZAt h1 z TI TO .ellipsis (.bool false) := z1
  refine wpAny_bind ?_
  simp only [List.forIn_cons, List.forIn_nil, List.zipIdx_cons, List.zipIdx_nil]
  refine wpAny_bind (wpAny_bind (wpAny_onRaise ?_))
  show wpAny _ _ (Builtin.SmallTypes.nextOf (.ref i1) >>= _) _ _ _
  have e1 : ∀ c o, c ≠ z → s.heap.get? c = some o → h1.get? c = some o := fun c o n e => b1.extBut c o n e
  refine wpAny_bind (nt_end hc (Z.j1.at fun o e => e1 _ o D.i1z e) (Z.p1.at fun o e => e1 _ o D.l1z e) hx fun h2 e b2 he => ?_)
  obtain ⟨oe, g, ce⟩ := he
  have z2 : ZAt h2 z TI TO .ellipsis (.bool false) := b2 _ _ D.i1z.symm z1
  have ne : e ≠ z := fun u => by subst u; rw [z2] at g; cases g; simp at ce
  exact wpAny_setField_rec z2 (by simp) fun h3 _ b3 => q h3 e (fun c o n m u => b3.extBut _ _ n (b2 _ _ m (e1 _ _ n u))) ⟨oe, b3.extBut _ _ ne g, ce⟩
theorem zt_kept_end (hc : A.handled = none) (D : ZipApart z TI TO i1 i2 t1 t2) (hz : ZAt s.heap z TI TO (rawInt T) f1) (hT : ∃ o, s.heap.get? T = some o) (hf : f1 = .bool true ∨ f1 = .bool false) (Z : ZSt s.heap z TI TO i1 i2 t1 t2 k xs ys) (hx : xs[k]? = none) {Q : Fin → Shared → Prop}
    (q : ∀ h' e, (∀ c o, c ≠ z → c ≠ i1 → s.heap.get? c = some o → h'.get? c = some o) → (∃ o, h'.get? e = some o ∧ o.cls = .type "StopIteration") → E (.ref e) { s with heap := h' }) :
    wpAny (model P w) A (Builtin.«zip.__next__» ⟨[.ref z], []⟩) Q E s := by
  show wpAny _ _ (field (.ref z) 2 >>= _) _ _ _
  refine wpAny_bind (wpAny_field hz rfl (x := .bool false) rfl ?_)
  show wpAny _ _ (field (.ref z) 3 >>= _) _ _ _
  refine wpAny_bind (wpAny_field hz rfl (x := .ref TI) rfl ?_)
  refine wpAny_bind (wpAny_seqItems Z.ti rfl ?_)
  show wpAny _ _ (Builtin.SmallTypes.ownedTupleIsFree (.ref z) >>= _) _ _ _
  refine wpAny_bind (zt_alive hz hT hf fun h1 z1 e1 s1 => ?_)
  simp only [Bool.false_eq_true, if_false, List.forIn_toArray, List.forIn_cons, List.forIn_nil]
  refine wpAny_bind (wpAny_bind (wpAny_bind (wpAny_holding ?_)))
  show wpAny _ _ (Builtin.SmallTypes.nextOf (.ref i1) >>= _) _ _ _
  exact wpAny_bind (nt_end hc (Z.j1.at fun o e => e1 _ o D.i1z e) (Z.p1.at fun o e => e1 _ o D.l1z e) hx fun h2 e b2 he => q h2 e (fun c o n m u => b2 _ _ m (e1 _ _ n u)) he)
/-! pyNext of such a zip -/
theorem zn_item {T0 : Option Addr} (D : ZipApart z TI TO i1 i2 t1 t2) (hz : ZAt s.heap z TI TO (match T0 with | none => .none | some T => rawInt T) f1) (hT : ∀ T, T0 = some T → ∃ o, s.heap.get? T = some o) (hf : (T0 = none ∧ f1 = .bool false) ∨ (∃ T, T0 = some T) ∧ (f1 = .bool true ∨ f1 = .bool false))
    (Z : ZSt s.heap z TI TO i1 i2 t1 t2 k xs ys) (hx : xs[k]? = some x) (hy : ys[k]? = some y) {Q : Option Value → Shared → Prop}
    (q : ∀ (h' : Heap) (T : Addr) (f : Value), ZAt h' z TI TO (rawInt T) f → (f = .bool true ∨ f = .bool false) → (∃ o, h'.get? T = some o) → ZSt h' z TI TO i1 i2 t1 t2 (k + 1) xs ys → IsPair h' s.heap.objs.size x y → h'.objs.size = s.heap.objs.size + 1 →
      (∀ c o, c ≠ z → c ≠ TO → c ≠ i1 → c ≠ i2 → s.heap.get? c = some o → h'.get? c = some o) → Q (some (.ref s.heap.objs.size)) { s with heap := h' }) :
    wpAny (model P w) A (pyNext (.ref z)) Q E s := by
  have ty : s.TypeIs (.ref z) "zip" := ⟨_, hz, rfl⟩
  unfold pyNext
  refine wpAny_bind (wpAny_attempt (wpAny_callSpecial?_slot (name := Str.ofString "__next__") ty F.slot_zip_next (wpAny_call_entry F.slot_zip_next ty F.entry_zip_next ?_ (F.args_zip_next_1 _))))
  rcases hf with ⟨rfl, rfl⟩ | ⟨⟨T, rfl⟩, hf⟩
  · exact zt_free D hz Z hx hy fun h' a1 a2 a3 a4 a5 => wpAny_pure (q h' _ _ a1 (.inr rfl) ⟨_, a3⟩ a2 a3 a4 a5)
  · obtain ⟨oT, gT⟩ := hT T rfl
    refine zt_kept D hz ⟨oT, gT⟩ hf Z hx hy fun h' a1 a2 a3 a4 a5 => wpAny_pure (q h' T _ a1 (.inl rfl) ?_ a2 a3 a4 fun c o n _ l r e => a5 c o n l r e)
    have lt : T < s.heap.objs.size := Heap.lt_size gT
    by_cases e1 : T = z
    · subst e1; exact ⟨_, a1⟩
    · by_cases e2 : T = i1
      · subst e2; obtain ⟨o, g, _⟩ := a2.j1; exact ⟨o, g⟩
      · by_cases e3 : T = i2
        · subst e3; obtain ⟨o, g, _⟩ := a2.j2; exact ⟨o, g⟩
        · exact ⟨oT, a5 T oT e1 e2 e3 gT⟩
theorem zn_end {T0 : Option Addr} (hc : A.handled = none) (D : ZipApart z TI TO i1 i2 t1 t2) (hz : ZAt s.heap z TI TO (match T0 with | none => .none | some T => rawInt T) f1) (hT : ∀ T, T0 = some T → ∃ o, s.heap.get? T = some o) (hf : (T0 = none ∧ f1 = .bool false) ∨ (∃ T, T0 = some T) ∧ (f1 = .bool true ∨ f1 = .bool false))
    (Z : ZSt s.heap z TI TO i1 i2 t1 t2 k xs ys) (hx : xs[k]? = none) {Q : Option Value → Shared → Prop}
    (q : ∀ h', (∀ c o, c ≠ z → c ≠ i1 → s.heap.get? c = some o → h'.get? c = some o) → Q none { s with heap := h' }) : wpAny (model P w) A (pyNext (.ref z)) Q E s := by
  have ty : s.TypeIs (.ref z) "zip" := ⟨_, hz, rfl⟩
  unfold pyNext
  rcases hf with ⟨rfl, rfl⟩ | ⟨⟨T, rfl⟩, hf⟩
  · refine wpAny_bind (wpAny_attempt (wpAny_callSpecial?_slot (name := Str.ofString "__next__") ty F.slot_zip_next (wpAny_call_entry F.slot_zip_next ty F.entry_zip_next (zt_free_end (A := A.in1) hc D hz Z hx fun h' e hk he => ?_) (F.args_zip_next_1 _))))
    obtain ⟨o, g, c⟩ := he
    exact wpAny_bind (wpAny_isInstance (T := "StopIteration") (b := true) ⟨o, g, c⟩ isSubtype_stop (wpAny_pure (q _ hk)))
  · refine wpAny_bind (wpAny_attempt (wpAny_callSpecial?_slot (name := Str.ofString "__next__") ty F.slot_zip_next (wpAny_call_entry F.slot_zip_next ty F.entry_zip_next (zt_kept_end (A := A.in1) hc D hz (hT T rfl) hf Z hx fun h' e hk he => ?_) (F.args_zip_next_1 _))))
    obtain ⟨o, g, c⟩ := he
    exact wpAny_bind (wpAny_isInstance (T := "StopIteration") (b := true) ⟨o, g, c⟩ isSubtype_stop (wpAny_pure (q _ hk)))
end
end L2

set_option Elab.async false
set_option maxRecDepth 100000
namespace L2
open PySem PySem.Spec PyProof.Rows
abbrev zA (h : Heap) (t : Addr) : Heap := h.push { cls := .type "tuple_iterator", data := .fields #[.ref t, .int 0 0] }
abbrev zB (h : Heap) (t u : Addr) : Heap := zA (zA h t) u
abbrev zC (h : Heap) (t u : Addr) : Heap := (zB h t u).push { cls := .type "tuple", data := .seq #[.ref h.objs.size, .ref (zA h t).objs.size] }
abbrev zD (h : Heap) (t u : Addr) : Heap := (zC h t u).push { cls := .type "tuple", data := .seq #[.none, .none] }
abbrev zE (h : Heap) (t u : Addr) : Heap := (zD h t u).push { cls := .type "zip", data := .fields #[.none, .bool false, .bool false, .ref (zB h t u).objs.size, .ref (zC h t u).objs.size] }
theorem zip_newT (t u : Addr) (xs ys : Array Value) :
    Meets (Builtin.«zip.__new__» ⟨[.type "zip", .ref t, .ref u], []⟩) (fun _ R s => s.heap.IsTuple t xs ∧ s.heap.IsTuple u ys ∧ R (.ok (.ret (.ref (zD s.heap t u).objs.size))) { s with heap := zE s.heap t u }) :=
  .of_wp fun prog w A R s h => by
    obtain ⟨hp, g, d, tk, os⟩ := s
    obtain ⟨h1, h2, h⟩ := h
    have hsub := sub_zip
    have g1 : Heap.IsTuple (Shared.heap ⟨hp, g, d, tk, os⟩) t xs := h1
    have g2 : Heap.IsTuple (Shared.heap ⟨hp.push { cls := .type "tuple_iterator", data := .fields #[.ref t, .int 0 0] }, g, d, tk, os⟩) u ys := Heap.IsTuple.at h2 fun o e => Heap.get?_push_of_some _ e
    wp_walk using wpAny_pyIter_tuple g1, wpAny_pyIter_tuple g2
    exact ⟨_, rfl, h⟩
section
variable {P : Program} {w : World} {A : Around} {E : Value → Shared → Prop} {s : Shared}
theorem call_zipT {t u : Addr} {xs ys : Array Value} {Q : Value → Shared → Prop} (h1 : s.heap.IsTuple t xs) (h2 : s.heap.IsTuple u ys)
    (q : ∀ h' z TI TO i1 i2, ZipApart z TI TO i1 i2 t u → ZAt h' z TI TO .none (.bool false) → ZSt h' z TI TO i1 i2 t u 0 xs ys → (∀ c o, s.heap.get? c = some o → h'.get? c = some o) →
      (s.heap.objs.size ≤ z ∧ s.heap.objs.size ≤ TO ∧ s.heap.objs.size ≤ i1 ∧ s.heap.objs.size ≤ i2) → Q (.ref z) { s with heap := h' }) :
    wpAny (model P w) A (call (.type "zip") [.ref t, .ref u]) Q E s := by
  refine callType_new F.called_zip (by decide) (F.typeCall_zip_2 _ _) (F.newCall_zip_2 _ _) (fun obj => F.args_object_init_3 obj _ _) F.entry_zip_new (zip_newT t u xs ys) ⟨h1, h2, ?_⟩
  have lt1 : t < s.heap.objs.size := by obtain ⟨_, e, _⟩ := h1; exact Heap.lt_size e
  have lt2 : u < s.heap.objs.size := by obtain ⟨_, e, _⟩ := h2; exact Heap.lt_size e
  have n1 : (zA s.heap t).objs.size = s.heap.objs.size + 1 := Heap.size_push ..
  have n2 : (zB s.heap t u).objs.size = s.heap.objs.size + 2 := by rw [Heap.size_push, n1]
  have n3 : (zC s.heap t u).objs.size = s.heap.objs.size + 3 := by rw [Heap.size_push, n2]
  have n4 : (zD s.heap t u).objs.size = s.heap.objs.size + 4 := by rw [Heap.size_push, n3]
  have g5 : (zE s.heap t u).get? (zD s.heap t u).objs.size = some _ := Heap.get?_push_size _ rfl
  have g4 : (zE s.heap t u).get? (zC s.heap t u).objs.size = some _ := Heap.get?_push_of_some _ (Heap.get?_push_size _ rfl)
  have g3 : (zE s.heap t u).get? (zB s.heap t u).objs.size = some _ := Heap.get?_push_of_some _ (Heap.get?_push_of_some _ (Heap.get?_push_size _ rfl))
  have g2 : (zE s.heap t u).get? (zA s.heap t).objs.size = some _ := Heap.get?_push_of_some _ (Heap.get?_push_of_some _ (Heap.get?_push_of_some _ (Heap.get?_push_size _ rfl)))
  have g1 : (zE s.heap t u).get? s.heap.objs.size = some _ := Heap.get?_push_of_some _ (Heap.get?_push_of_some _ (Heap.get?_push_of_some _ (Heap.get?_push_of_some _ (Heap.get?_push_size _ rfl))))
  have up : ∀ c o, s.heap.get? c = some o → (zE s.heap t u).get? c = some o := fun c o e => Heap.get?_push_of_some _ (Heap.get?_push_of_some _ (Heap.get?_push_of_some _ (Heap.get?_push_of_some _ (Heap.get?_push_of_some _ e))))
  show _ ∧ _
  rw [n2, n3, n4] at g5
  rw [n1, n2] at g3
  rw [n3] at g4
  rw [n1] at g2
  rw [n4]
  refine ⟨⟨_, g5, rfl⟩, q _ _ _ _ _ _ (zipApart_new lt1 lt2) g5 ⟨g3, ⟨_, _, g4⟩, ⟨_, g1, rfl, rfl⟩, ⟨_, g2, rfl, rfl⟩, h1.at fun o e => up _ o e, h2.at fun o e => up _ o e⟩ up ⟨?_, ?_, ?_, ?_⟩⟩ <;> omega
/-- what was made so far -/
structure Made (base : Nat) (h : Heap) (xs ys : Array Value) (acc : Array Value) (k : Nat) : Prop where
  len : acc.size = k
  at_ : ∀ i, i < k → ∃ (T : Addr) (x y : Value), acc[i]? = some (.ref T) ∧ base ≤ T ∧ xs[i]? = some x ∧ ys[i]? = some y ∧ IsPair h T x y
  inj : ∀ (i j : Nat) (T : Addr), acc[i]? = some (.ref T) → acc[j]? = some (.ref T) → i = j
theorem lzip_loop {z TI TO i1 i2 t1 t2 S : Addr} {xs ys : Array Value} {base : Nat} {h₀ : Heap} {res : Value} {R : Result → Shared → Prop} (hc : A.handled = none) (D : ZipApart z TI TO i1 i2 t1 t2) (hS : S ≠ z ∧ S ≠ TO ∧ S ≠ i1 ∧ S ≠ i2 ∧ S ≠ TI ∧ S ≠ t1 ∧ S ≠ t2)
    (hb : base ≤ S ∧ base ≤ z ∧ base ≤ TO ∧ base ≤ i1 ∧ base ≤ i2) (hl : xs.size = ys.size) (hn : xs.size ≤ 1000)
    (q : ∀ s' acc c, s'.os = s.os → s'.gens = s.gens → s'.drawn = s.drawn → (∀ b o, b < base → h₀.get? b = some o → s'.heap.get? b = some o) → s'.heap.get? S = some { cls := .type "list", dict := none, data := .seq acc c, slots := #[] } → Made base s'.heap xs ys acc xs.size → (∀ (i : Nat) (T : Addr), acc[i]? = some (Value.ref T) → T ≠ S) → R (.ok (.ret res)) s') :
    ∀ (m k : Nat) (s' : Shared) (acc : Array Value) (c : Nat) (T0 : Option Addr) (f1 : Value), xs.size - k = m → k ≤ xs.size → s'.os = s.os → s'.gens = s.gens → s'.drawn = s.drawn → base ≤ s'.heap.objs.size →
      ZAt s'.heap z TI TO (match T0 with | none => .none | some T => rawInt T) f1 → (∀ T, T0 = some T → ∃ o, s'.heap.get? T = some o) → ((T0 = none ∧ f1 = .bool false) ∨ (∃ T, T0 = some T) ∧ (f1 = .bool true ∨ f1 = .bool false)) → ZSt s'.heap z TI TO i1 i2 t1 t2 k xs ys →
      (∀ b o, b < base → h₀.get? b = some o → s'.heap.get? b = some o) → s'.heap.get? S = some { cls := .type "list", dict := none, data := .seq acc c, slots := #[] } → Made base s'.heap xs ys acc k → (∀ (i : Nat) (T : Addr), acc[i]? = some (Value.ref T) → T ≠ S ∧ T ≠ z ∧ T ≠ TO ∧ T ≠ i1 ∧ T ≠ i2) →
      codeAny (model P w) A (.builtin "list.extend.loop" ⟨[.ref S, .ref z, res], []⟩) R s' := by
  obtain ⟨S1, S2, S3, S4, S5, S6, S7⟩ := hS
  obtain ⟨b1, b2, b3, b4, b5⟩ := hb
  have ne : ∀ {b c : Nat}, b < base → base ≤ c → b ≠ c := fun x y => Nat.ne_of_lt (Nat.lt_of_lt_of_le x y)
  intro m
  induction m with
  | zero =>
    intro k s' acc c T0 f1 hk hle os gs ds bsz hz hT hf Z old gS M nS
    have ek : k = xs.size := by omega
    subst ek
    refine codeAny_builtin F.entry_extend_loop ?_
    rw [Around.under_plainId F.plain_extend_loop _]
    show wpAny _ A.in1 (pyNext (.ref z) >>= _) _ _ s'
    refine wpAny_bind (zn_end (A := A.in1) hc D hz hT hf Z (by simp) fun h' kp => ?_)
    refine wpAny_pure (q _ acc c os gs ds (fun b o lt e => kp b o (ne lt b2) (ne lt b4) (old b o lt e)) (kp _ _ S1 S3 gS) ⟨M.len, fun i hi => ?_, M.inj⟩ fun i T e => (nS i T e).1)
    obtain ⟨T, x, y, e1, e2, e3, e4, e5⟩ := M.at_ i hi
    obtain ⟨_, n1, _, n3, _⟩ := nS i T e1
    exact ⟨T, x, y, e1, e2, e3, e4, kp _ _ n1 n3 e5⟩
  | succ m ih =>
    intro k s' acc c T0 f1 hk hle os gs ds bsz hz hT hf Z old gS M nS
    have lt : k < xs.size := by omega
    have ex : xs[k]? = some xs[k] := Array.getElem?_eq_getElem lt
    have ey : ys[k]? = some (ys[k]'(by omega)) := Array.getElem?_eq_getElem (by omega)
    refine codeAny_builtin F.entry_extend_loop ?_
    rw [Around.under_plainId F.plain_extend_loop _]
    show wpAny _ A.in1 (pyNext (.ref z) >>= _) _ _ s'
    refine wpAny_bind (zn_item (A := A.in1) D hz hT hf Z ex ey fun h' T f z' hf' gT Z' new sz kp => ?_)
    have gS' := kp _ _ S1 S2 S3 S4 gS
    show wpAny _ A.in1 (updateSeq S (·.push (.ref s'.heap.objs.size)) >>= _) _ _ _
    refine wpAny_bind ?_
    have lS : S < s'.heap.objs.size := Heap.lt_size gS
    have lz : z < s'.heap.objs.size := Heap.lt_size hz
    have lTO : TO < s'.heap.objs.size := by obtain ⟨a, b, e⟩ := Z.to; exact Heap.lt_size e
    have l1 : i1 < s'.heap.objs.size := by obtain ⟨o, e, _⟩ := Z.j1; exact Heap.lt_size e
    have l2 : i2 < s'.heap.objs.size := by obtain ⟨o, e, _⟩ := Z.j2; exact Heap.lt_size e
    have oth : ∀ b o, b ≠ S → h'.get? b = some o → (h'.update S (Obj.mapSeq (·.push (.ref s'.heap.objs.size)))).get? b = some o := fun b o n e => (Heap.get?_update_other _ _ (Ne.symm n)).trans e
    have gS2 := Heap.get?_update_self (Obj.mapSeq (·.push (Value.ref s'.heap.objs.size))) gS' rfl
    have tl : ∀ (i : Nat) (T : Addr), acc[i]? = some (Value.ref T) → T < s'.heap.objs.size := fun i T e => by
      have hi : i < k := by
        have := (Array.getElem?_eq_some_iff.mp e).1
        rw [M.len] at this; exact this
      obtain ⟨T', x, y, e1, _, _, _, e5⟩ := M.at_ i hi
      rw [e] at e1; cases e1
      exact Heap.lt_size e5
    refine wpAny_updateSeq gS' rfl (wpAny_pure ⟨plainId_quiet F.plain_extend_loop _, ?_⟩) (by rw [M.len, sizeLine_eq]; omega) (by show (acc.push _).size ≤ sizeLine + 1; rw [Array.size_push, M.len, sizeLine_eq]; omega)
    refine ih (k + 1) _ (acc.push (.ref s'.heap.objs.size)) _ (some T) f (by omega) lt os gs ds ?_ (oth _ _ S1.symm z') (fun T1 e => ?_) (.inr ⟨⟨T, rfl⟩, hf'⟩) ⟨oth _ _ S5.symm Z'.ti, ?_, Z'.j1.at fun o e => oth _ o S3.symm e, Z'.j2.at fun o e => oth _ o S4.symm e, Z'.p1.at fun o e => oth _ o S6.symm e, Z'.p2.at fun o e => oth _ o S7.symm e⟩ (fun b o hb e => ?_) gS2 ⟨?_, fun i hi => ?_, fun i j T1 e1 e2 => ?_⟩ (fun i T1 e => ?_)
    · show base ≤ (h'.update S _).objs.size
      rw [Heap.size_update, sz]; omega
    · cases e
      obtain ⟨oT, g⟩ := gT
      by_cases e : T = S
      · subst e; exact ⟨_, gS2⟩
      · exact ⟨oT, oth _ _ e g⟩
    · obtain ⟨a, b, e⟩ := Z'.to; exact ⟨a, b, oth _ _ S2.symm e⟩
    · exact oth b o (ne hb b1) (kp b o (ne hb b2) (ne hb b3) (ne hb b4) (ne hb b5) (old b o hb e))
    · rw [Array.size_push, M.len]
    · by_cases hik : i < k
      · obtain ⟨T1, x, y, e1, e2, e3, e4, e5⟩ := M.at_ i hik
        obtain ⟨n0, n1, n2, n3, n4⟩ := nS i T1 e1
        refine ⟨T1, x, y, ?_, e2, e3, e4, oth _ _ n0 (kp _ _ n1 n2 n3 n4 e5)⟩
        rw [Array.getElem?_push_lt (by rw [M.len]; exact hik), ← e1]
        exact (Array.getElem?_eq_getElem (by rw [M.len]; exact hik)).symm
      · have eik : i = k := by omega
        subst eik
        refine ⟨s'.heap.objs.size, _, _, ?_, bsz, ex, ey, oth _ _ (Nat.ne_of_gt lS) new⟩
        have := @Array.getElem?_push_size _ acc (Value.ref s'.heap.objs.size)
        rw [M.len] at this
        exact this
    · have key : ∀ (i : Nat) (T1 : Addr), (acc.push (Value.ref s'.heap.objs.size))[i]? = some (Value.ref T1) → (acc[i]? = some (Value.ref T1) ∧ i < k) ∨ (i = k ∧ T1 = s'.heap.objs.size) := fun i T1 e => by
        rw [Array.getElem?_push] at e
        by_cases hi : i = acc.size
        · rw [if_pos hi] at e
          cases e
          exact .inr ⟨by rw [hi, M.len], rfl⟩
        · rw [if_neg hi] at e
          refine .inl ⟨e, ?_⟩
          have := (Array.getElem?_eq_some_iff.mp e).1
          rw [M.len] at this; exact this
      rcases key i T1 e1 with ⟨a1, a2⟩ | ⟨a1, a2⟩ <;> rcases key j T1 e2 with ⟨c1, c2⟩ | ⟨c1, c2⟩
      · exact M.inj i j T1 a1 c1
      · exact absurd (tl i T1 a1) (by rw [c2]; exact Nat.lt_irrefl _)
      · exact absurd (tl j T1 c1) (by rw [a2]; exact Nat.lt_irrefl _)
      · rw [a1, c1]
    · rw [Array.getElem?_push] at e
      by_cases hi : i = acc.size
      · rw [if_pos hi] at e
        cases e
        exact ⟨Nat.ne_of_gt lS, Nat.ne_of_gt lz, Nat.ne_of_gt lTO, Nat.ne_of_gt l1, Nat.ne_of_gt l2⟩
      · rw [if_neg hi] at e
        exact nS i T1 e
end
end L2

set_option Elab.async false
set_option maxRecDepth 100000
namespace L2
open PySem PySem.Spec PyProof.Rows
theorem zip_no_len : typeLookup (.type "zip") "__len__" = pure none := by rw [typeLookup_type, builtinLookup_eq_fast]; kernel_rfl
theorem zip_no_hint : typeLookup (.type "zip") "__length_hint__" = pure none := by rw [typeLookup_type, builtinLookup_eq_fast]; kernel_rfl
section
variable {P : Program} {w : World} {A : Around} {E : Value → Shared → Prop} {s : Shared}
/-- list(z) of a zip that was just made: base is the size of the heap ahead of it -/
theorem call_listZ {z TI TO i1 i2 t1 t2 : Addr} {xs ys : Array Value} {base : Nat} {h₀ : Heap} {Q : Value → Shared → Prop} (hc : A.handled = none) (D : ZipApart z TI TO i1 i2 t1 t2) (hz : ZAt s.heap z TI TO .none (.bool false)) (Z : ZSt s.heap z TI TO i1 i2 t1 t2 0 xs ys)
    (hb : base ≤ z ∧ base ≤ TO ∧ base ≤ i1 ∧ base ≤ i2) (hl : xs.size = ys.size) (hn : xs.size ≤ 1000) (old : ∀ b o, b < base → h₀.get? b = some o → s.heap.get? b = some o)
    (q : ∀ s' S acc c, s'.os = s.os → s'.gens = s.gens → s'.drawn = s.drawn → (∀ b o, b < base → h₀.get? b = some o → s'.heap.get? b = some o) → base ≤ S → s'.heap.get? S = some { cls := .type "list", dict := none, data := .seq acc c, slots := #[] } → Made base s'.heap xs ys acc xs.size → (∀ (i : Nat) (T : Addr), acc[i]? = some (Value.ref T) → T ≠ S) → Q (.ref S) s') :
    wpAny (model P w) A (call (.type "list") [.ref z]) Q E s := by
  refine callType_codes (Q₁ := fun obj s₁ => obj = .ref s.heap.objs.size ∧ s₁ = { s with heap := s.heap.push { cls := .type "list", data := .seq #[] } }) F.called_list (F.typeCall_list_1 _) F.entry_list_init (code_list_new _ ⟨rfl, rfl⟩) fun obj s₁ h₁ => ?_
  obtain ⟨rfl, rfl⟩ := h₁
  have gS : (s.heap.push { cls := .type "list", data := .seq #[] }).get? s.heap.objs.size = some { cls := .type "list", data := .seq #[] } := Heap.get?_push_size _ rfl
  have up : ∀ c o, s.heap.get? c = some o → (s.heap.push { cls := .type "list", data := .seq #[] }).get? c = some o := fun c o e => Heap.get?_push_of_some _ e
  have lz : z < s.heap.objs.size := Heap.lt_size hz
  have lTI : TI < s.heap.objs.size := Heap.lt_size Z.ti
  have lTO : TO < s.heap.objs.size := by obtain ⟨a, b, e⟩ := Z.to; exact Heap.lt_size e
  have l1 : i1 < s.heap.objs.size := by obtain ⟨o, e, _⟩ := Z.j1; exact Heap.lt_size e
  have l2 : i2 < s.heap.objs.size := by obtain ⟨o, e, _⟩ := Z.j2; exact Heap.lt_size e
  have l3 : t1 < s.heap.objs.size := by obtain ⟨o, e, _⟩ := Z.p1; exact Heap.lt_size e
  have l4 : t2 < s.heap.objs.size := by obtain ⟨o, e, _⟩ := Z.p2; exact Heap.lt_size e
  obtain ⟨a, b, hTO⟩ := Z.to
  have bS : base ≤ s.heap.objs.size := Nat.le_of_lt (Nat.lt_of_le_of_lt hb.1 lz)
  refine ⟨⟨_, gS, rfl⟩, F.args_list_init_2 _ _, ?_⟩
  have ns : Builtin.List.listSameRef (.ref s.heap.objs.size) (.ref z) = false := by simp [Builtin.List.listSameRef, Nat.ne_of_gt lz]
  show wpAny _ A.in1.in1 (do let old ← Builtin.List.listItems (.ref s.heap.objs.size); Builtin.List.listUpdate (.ref s.heap.objs.size) (fun _ => #[]); letGo old.toList.reverse; Builtin.List.listExtendWith (.ref s.heap.objs.size) (.ref z) .none) _ _ _
  refine wpAny_bind ?_
  unfold Builtin.List.listItems
  refine wpAny_bind (wpAny_seqItems gS rfl (wpAny_pure ?_))
  show wpAny _ _ (updateSeq s.heap.objs.size (fun _ => #[]) >>= _) _ _ _
  refine wpAny_bind (wpAny_updateSeq gS rfl ?_)
  have gS2 := Heap.get?_update_self (Obj.mapSeq (fun _ => (#[] : Array Value))) gS rfl
  refine wpAny_bind (wpAny_letGo ?_)
  generalize hh2 : (s.heap.push { cls := .type "list", data := .seq #[] }).update s.heap.objs.size (Obj.mapSeq (fun _ => (#[] : Array Value))) = h2 at gS2 ⊢
  have up2 : ∀ c o, c ≠ s.heap.objs.size → s.heap.get? c = some o → h2.get? c = some o := fun c o n e => by rw [← hh2]; exact (Heap.get?_update_other _ _ (Ne.symm n)).trans (up c o e)
  have z2 : ZAt h2 z TI TO .none (.bool false) := up2 _ _ (Nat.ne_of_lt lz) hz
  have sz2 : h2.objs.size = s.heap.objs.size + 1 := by rw [← hh2, Heap.size_update, Heap.size_push]
  have ty : (⟨h2, s.gens, s.drawn, s.toks, s.os⟩ : Shared).TypeIs (.ref z) "zip" := ⟨_, z2, rfl⟩
  unfold Builtin.List.listExtendWith
  refine wpAny_bind (wpAny_typeOf ty ?_)
  have ne2 : (Value.type "zip" == Value.type "list") = false := by decide
  have ne3 : (Value.type "zip" == Value.type "tuple") = false := by decide
  simp only [ns, ne2, ne3, Bool.or_false, Bool.false_eq_true, if_false]
  refine wpAny_bind (wpAny_pyIter_zip z2 ?_)
  refine wpAny_bind (wpAny_holding ?_)
  unfold Builtin.List.listLengthHint
  refine wpAny_bind (wpAny_specialOf ty zip_no_len ?_)
  show wpAny _ _ (specialOf (Value.ref z) (Str.ofString "__length_hint__") >>= _) _ _ _
  refine wpAny_bind (wpAny_specialOf ty zip_no_hint ?_)
  refine wpAny_pure ?_
  show wpAny _ _ (rule "list.extend.makes-room" >>= _) _ _ _
  refine wpAny_bind (wpAny_rule ?_)
  refine wpAny_bind ?_
  show wpAny _ _ (updateSeq s.heap.objs.size (·.push .none) >>= fun _ => updateSeq s.heap.objs.size (·.pop)) _ _ _
  refine wpAny_bind (wpAny_updateSeq gS2 rfl ?_)
  have gS3 := Heap.get?_update_self (Obj.mapSeq (·.push Value.none)) gS2 rfl
  refine wpAny_updateSeq (hz := by seq_fits) gS3 rfl ?_
  have gS4 := Heap.get?_update_self (Obj.mapSeq (·.pop)) gS3 rfl
  generalize hh4 : (h2.update s.heap.objs.size (Obj.mapSeq (·.push Value.none))).update s.heap.objs.size (Obj.mapSeq (·.pop)) = h4 at gS4 ⊢
  have up4 : ∀ c o, c ≠ s.heap.objs.size → s.heap.get? c = some o → h4.get? c = some o := fun c o n e => by
    rw [← hh4]; exact (Heap.get?_update_other _ _ (Ne.symm n)).trans ((Heap.get?_update_other _ _ (Ne.symm n)).trans (up2 c o n e))
  have sz4 : h4.objs.size = s.heap.objs.size + 1 := by rw [← hh4, Heap.size_update, Heap.size_update, sz2]
  refine wpAny_pure ⟨plainId_quiet F.plain_extend_loop _, ?_⟩
  refine lzip_loop (s := s) (base := base) (h₀ := h₀) (A := A.in1) (S := s.heap.objs.size) hc D ⟨Nat.ne_of_gt lz, Nat.ne_of_gt lTO, Nat.ne_of_gt l1, Nat.ne_of_gt l2, Nat.ne_of_gt lTI, Nat.ne_of_gt l3, Nat.ne_of_gt l4⟩ ⟨bS, hb⟩ hl hn
    (fun s' acc c o1 o2 o3 o4 o5 o6 o7 => ⟨rfl, q s' _ acc c o1 o2 o3 o4 bS o5 o6 o7⟩) xs.size 0 _ #[] _ none (.bool false) (by simp) (Nat.zero_le _) rfl rfl rfl (by show base ≤ h4.objs.size; rw [sz4]; omega) (up4 _ _ (Nat.ne_of_lt lz) hz) (fun _ e => nomatch e) (.inl ⟨rfl, rfl⟩)
    ⟨up4 _ _ (Nat.ne_of_lt lTI) Z.ti, ⟨a, b, up4 _ _ (Nat.ne_of_lt lTO) hTO⟩, Z.j1.at fun o e => up4 _ o (Nat.ne_of_lt l1) e, Z.j2.at fun o e => up4 _ o (Nat.ne_of_lt l2) e, Z.p1.at fun o e => up4 _ o (Nat.ne_of_lt l3) e, Z.p2.at fun o e => up4 _ o (Nat.ne_of_lt l4) e⟩
    (fun b o lt e => up4 b o (Nat.ne_of_lt (Nat.lt_of_lt_of_le lt bS)) (old b o lt e)) gS4 ⟨rfl, fun i hi => absurd hi (Nat.not_lt_zero i), fun i j T e => by simp at e⟩ (fun i T e => by simp at e)
end
end L2

set_option Elab.async false
set_option maxRecDepth 100000
namespace L2
open PySem PySem.Spec PyProof.Rows
/-- tracked things and new ones -/
def andH (H N : Hp) : Hp := fun b => match H b with
  | some o => some o
  | none => N b
theorem andH_old {H N : Hp} {b : Addr} {o : HO} (e : H b = some o) : andH H N b = some o := by unfold andH; rw [e]
theorem andH_new {H N : Hp} {b : Addr} (e : H b = none) : andH H N b = N b := by unfold andH; rw [e]
section
variable {X : Cx} {pins : List (Addr × Obj)} {σ : St} {H : Hp} {s : Shared}
/-- many new objects are tracked at once -/
theorem Inv.more {N : Hp} {s' : Shared} (I : Inv X pins σ H s) (os : s'.os = s.os) (gs : s'.gens = s.gens) (k : ∀ b u, s.heap.get? b = some u → s'.heap.get? b = some u) (hN : ∀ b o, N b = some o → s.heap.objs.size ≤ b)
    (new : ∀ b o, N b = some o → ObjOk X.prog X.w (andH H N) s'.heap b o) : Inv X pins σ (andH H N) s' := by
  have same : ∀ b o, H b = some o → andH H N b = some o := fun b o e => andH_old e
  have un : Un X.fs [] H (andH H N) s.heap s'.heap :=
    ⟨fun b u q _ _ _ => k b u q, fun b u q _ _ _ => ⟨u.slots, k b u q⟩, fun b u q n _ => by
      rw [andH_new n]
      cases e : N b with
      | none => rfl
      | some o => exact absurd (Nat.lt_of_lt_of_le (Heap.lt_size q) (hN b o e)) (Nat.lt_irrefl _), fun b u q _ => ⟨u, k b u q⟩, fun b xs q => same b _ q, fun b u xs q => same b _ q, fun b ps q => ⟨#[], by rw [same b _ q]; simp⟩⟩
  have ok : HOk X.prog X.w (andH H N) s'.heap := fun b o e => by
    cases q : H b with
    | some u =>
      rw [andH_old q] at e
      injection e with e
      subst e
      exact (I.hok b u q).stay (fun c v _ g => k c v g) (fun c g => same c _ g) fun c xs g => same c _ g
    | none =>
      rw [andH_new q] at e
      exact new b o e
  have J := I.un (h' := s'.heap) (t' := s'.toks) un ok
  refine ⟨J.ok, os.trans I.os, by rw [gs]; exact I.bare, J.base, J.loc, J.cell, J.free, J.freeC, J.pin, J.hok, J.len⟩
end
section
variable {X : Cx} {a b : Expr} {ta tb : TE} {p1 p2 pos1 pos2 : Pos}
def LZ (K : PySem.W.Frag) (x y : V) (H2 : Hp) (Q : VK) : Prop := ∃ t u xs ys, x = .ref t ∧ y = .ref u ∧ SqT K H2 t xs ∧ SqT K H2 u ys ∧ xs.length = ys.length ∧ xs.length ≤ 1000 ∧
  ∀ (l : Addr) (Ts : List Addr) (H' : Hp), Same H2 H' → H2 l = none → (∀ T ∈ Ts, H2 T = none) → H' l = some (.lst (Ts.map V.ref)) → Ts.length = xs.length → (∀ (i : Nat) (T : Addr) (x y : V), Ts[i]? = some T → xs[i]? = some x → ys[i]? = some y → H' T = some (.tup [x, y])) → Q (.ref l) H'
def tLZ (K : PySem.W.Frag) (ta tb : TE) : TE := fun σ H Q => ta σ H fun x H1 => tb σ H1 fun y H2 => LZ K x y H2 Q
def LZs (K : PySem.W.Frag) (Q : VK) (vs : List V) (H2 : Hp) : Prop := match vs with
  | [x, y] => LZ K x y H2 Q
  | _ => False
def adr : Value → Addr
  | .ref T => T
  | _ => 0
theorem lookup_zip {α : Type} : ∀ {Ts : List Addr} {ps : List α} {i : Nat} {T : Addr} {p : α}, (∀ (i j : Nat) (T : Addr), Ts[i]? = some T → Ts[j]? = some T → i = j) → Ts[i]? = some T → ps[i]? = some p → (Ts.zip ps).lookup T = some p
  | [], _, _, _, _, _, h, _ => by simp at h
  | T0 :: Ts, [], _, _, _, _, _, h => by simp at h
  | T0 :: Ts, p0 :: ps, 0, T, p, _, h1, h2 => by
    simp at h1 h2
    subst h1 h2
    simp
  | T0 :: Ts, p0 :: ps, i + 1, T, p, inj, h1, h2 => by
    have ne : T ≠ T0 := fun e => by
      have := inj 0 (i + 1) T (by simp [e]) h1
      omega
    have b : (T == T0) = false := by simpa using ne
    rw [List.zip_cons_cons, List.lookup_cons, b]
    exact lookup_zip (fun i j T a b => by have := inj (i + 1) (j + 1) T (by simpa using a) (by simpa using b); omega) (by simpa using h1) (by simpa using h2)
theorem mem_zip_lookup {α : Type} {Ts : List Addr} {ps : List α} {T : Addr} {p : α} (h : (Ts.zip ps).lookup T = some p) : ∃ i : Nat, Ts[i]? = some T ∧ ps[i]? = some p := by
  have hm : (T, p) ∈ Ts.zip ps := by
    generalize Ts.zip ps = l at h
    induction l with
    | nil => simp at h
    | cons q l ih =>
      obtain ⟨q1, q2⟩ := q
      rw [List.lookup_cons] at h
      by_cases e : T = q1
      · subst e; simp at h; subst h; simp
      · have b : (T == q1) = false := by simpa using e
        rw [b] at h
        exact List.mem_cons_of_mem _ (ih h)
  obtain ⟨i, hi⟩ := List.mem_iff_getElem?.mp hm
  rw [List.getElem?_zip_eq_some] at hi
  exact ⟨i, hi⟩
theorem vals_refs : ∀ Ts : List Addr, Vals (Ts.map V.ref) (Ts.map Value.ref)
  | [] => .nil
  | T :: r => .cons rfl (vals_refs r)
theorem vals_cons_inv {x : V} {xs : List V} {us : List Value} (h : Vals (x :: xs) us) : ∃ u us', us = u :: us' ∧ RelV x u ∧ Vals xs us' := by
  cases h with
  | cons a b => exact ⟨_, _, rfl, a, b⟩
theorem pe_lzip (hc : X.calm = true) (hgl : Gl X "list") (hml : X.mg "list" = none) (hgz : Gl X "zip") (hmz : X.mg "zip" = none) (ha : PE X a ta) (hb : PE X b tb) (hs : starEach [a, b] X.env = [(false, eval a X.env), (false, eval b X.env)] := by rfl) (hs2 : starEach [b] X.env = [(false, eval b X.env)] := by rfl)
    (hs3 : starEach [.Call (.Name "zip" p2) [a, b] [] pos2] X.env = [(false, eval (.Call (.Name "zip" p2) [a, b] [] pos2) X.env)] := by rfl) :
    PE X (.Call (.Name "list" p1) [.Call (.Name "zip" p2) [a, b] [] pos2] [] pos1) (tLZ X.K ta tb) := by
  intro pins s σ H Q I h
  have hpa : PA X [a, b] (tCons ta (tCons tb tNil)) := pa_cons ha (pa_cons hb pa_nil hs2) (by rw [hs, hs2])
  have cal := I.ok.hd hc
  refine wpAny_Call_Name_kw (ld_blt I hgl hml PyProof.Rows.boot_list ?_)
  refine PyProof.Rows.callWith_type1 ?_ hs3 rfl
  rw [hs3]
  show wpAny _ _ (spliced [(false, eval (.Call (.Name "zip" p2) [a, b] [] pos2) X.env)]) _ _ _
  refine Calls.spliced_cons (wpAny_Call_Name_kw (ld_blt I hgz hmz PyProof.Rows.boot_zip ?_))
  refine PyProof.Rows.callWith_type1 (thn (hpa pos2 pins s σ H (LZs X.K Q) I h) fun us s2 ⟨vs, H2, I2, rv, q2⟩ => ?_) (by rw [hs, hs2]) (by rw [hs2]; rfl)
  match vs, q2 with
  | [x, y], q2 =>
    obtain ⟨t, u, xs, ys, rfl, rfl, hT, hU, hlen, hn, q⟩ := q2
    obtain ⟨v1, us1, rfl, e1, rv1⟩ := vals_cons_inv rv
    obtain ⟨v2, us2, rfl, e2, rv2⟩ := vals_cons_inv rv1
    cases rv2
    obtain rfl : v1 = Value.ref t := e1
    obtain rfl : v2 = Value.ref u := e2
    obtain ⟨its1, r1, g1, z1⟩ := I2.tuple hT
    obtain ⟨its2, r2, g2, z2⟩ := I2.tuple hU
    have n1 := r1.length
    have n2 := r2.length
    refine call_zipT (s := s2) (xs := its1.toArray) (ys := its2.toArray) (by exact g1) (by exact g2) fun h' z TI TO i1 i2 D hz Z up hb => ?_
    refine Calls.spliced_nil ?_
    refine call_listZ (s := { s2 with heap := h' }) (base := s2.heap.objs.size) (h₀ := s2.heap) cal D hz Z hb (by simp only [List.size_toArray]; omega) (by simp only [List.size_toArray]; omega) (fun b o _ e => up b o e) fun s' S acc c os gs ds old bS gS M nS => ?_
    have hsz : (its1.toArray).size = xs.length := by simp only [List.size_toArray]; omega
    rw [hsz] at M
    have hTs : acc.toList = (acc.toList.map adr).map Value.ref := by
      apply List.ext_getElem?
      intro i
      rw [List.getElem?_map, List.getElem?_map]
      by_cases hi : i < xs.length
      · obtain ⟨T, _, _, e1, _⟩ := M.at_ i hi
        have e1' : acc.toList[i]? = some (.ref T) := by rw [← e1]; simp
        rw [e1']; rfl
      · have : acc.toList[i]? = none := List.getElem?_eq_none_iff.mpr (by rw [Array.length_toList, M.len]; omega)
        rw [this]; rfl
    generalize hTd : acc.toList.map adr = Ts at hTs
    have hTl : Ts.length = xs.length := by rw [← hTd, List.length_map, Array.length_toList, M.len]
    have hat : ∀ (i : Nat) (T : Addr), Ts[i]? = some T → acc[i]? = some (Value.ref T) := fun i T e => by
      have e1 : acc.toList[i]? = some (Value.ref T) := by rw [hTs, List.getElem?_map, e]; rfl
      rw [← e1]; simp
    have inj : ∀ (i j : Nat) (T : Addr), Ts[i]? = some T → Ts[j]? = some T → i = j := fun i j T a b => M.inj i j T (hat i T a) (hat j T b)
    have full : ∀ (i : Nat) (T : Addr), Ts[i]? = some T → ∃ vx vy x y, xs[i]? = some vx ∧ ys[i]? = some vy ∧ RelV vx x ∧ RelV vy y ∧ IsPair s'.heap T x y ∧ s2.heap.objs.size ≤ T := fun i T e => by
      have hi : i < xs.length := by rw [← hTl]; exact (List.getElem?_eq_some_iff.mp e).1
      obtain ⟨T', x, y, e1, e2, e3, e4, e5⟩ := M.at_ i hi
      have := (hat i T e).symm.trans e1
      cases this
      obtain ⟨x', ex, rx⟩ := r1.get (List.getElem?_eq_getElem hi)
      have hi2 : i < ys.length := by omega
      obtain ⟨y', ey, ry⟩ := r2.get (List.getElem?_eq_getElem hi2)
      have e3' : its1[i]? = some x := by rw [← e3]; simp
      have e4' : its2[i]? = some y := by rw [← e4]; simp
      rw [ex] at e3'; cases e3'
      rw [ey] at e4'; cases e4'
      exact ⟨_, _, _, _, List.getElem?_eq_getElem hi, List.getElem?_eq_getElem hi2, rx, ry, e5, e2⟩
    have nTS : ∀ (i : Nat) (T : Addr), Ts[i]? = some T → T ≠ S := fun i T e => nS i T (hat i T e)
    let N : Hp := fun b => if b = S then some (.lst (Ts.map V.ref)) else ((Ts.zip (xs.zip ys)).lookup b).map fun p => .tup [p.1, p.2]
    have NS : N S = some (.lst (Ts.map V.ref)) := if_pos rfl
    have NT : ∀ (i : Nat) (T : Addr) (x y : V), Ts[i]? = some T → xs[i]? = some x → ys[i]? = some y → N T = some (.tup [x, y]) := fun i T x y e ex ey => by
      show (if T = S then _ else _) = _
      rw [if_neg (nTS i T e), lookup_zip (p := (x, y)) inj e (by rw [List.getElem?_zip_eq_some]; exact ⟨ex, ey⟩)]
      rfl
    have back : ∀ b o, N b = some o → (b = S ∧ o = .lst (Ts.map V.ref)) ∨ ∃ i T x y, b = T ∧ Ts[i]? = some T ∧ xs[i]? = some x ∧ ys[i]? = some y ∧ o = .tup [x, y] := fun b o e => by
      by_cases hbS : b = S
      · rw [hbS, NS] at e; cases e; exact .inl ⟨hbS, rfl⟩
      · have e' : ((Ts.zip (xs.zip ys)).lookup b).map (fun p => HO.tup [p.1, p.2]) = some o := by rw [← e]; exact (if_neg hbS).symm
        obtain ⟨p, ep, rfl⟩ := Option.map_eq_some_iff.mp e'
        obtain ⟨i, h1, h2⟩ := mem_zip_lookup ep
        rw [List.getElem?_zip_eq_some] at h2
        exact .inr ⟨i, b, p.1, p.2, rfl, h1, h2.1, h2.2, rfl⟩
    have big : ∀ b o, N b = some o → s2.heap.objs.size ≤ b := fun b o e => by
      rcases back b o e with ⟨rfl, _⟩ | ⟨i, T, x, y, rfl, h1, _⟩
      · exact bS
      · obtain ⟨_, _, _, _, _, _, _, _, _, h⟩ := full i b h1; exact h
    have I3 : Inv X pins σ (andH H2 N) s' := by
      refine I2.more os gs (fun b u e => old b u (Heap.lt_size e) e) big fun b o e => ?_
      rcases back b o e with ⟨rfl, rfl⟩ | ⟨i, T, x, y, rfl, h1, hx, hy, rfl⟩
      · refine ⟨by rw [List.length_map, hTl]; exact z1, acc.toList, c, ?_, by rw [gS]⟩
        rw [hTs]
        exact vals_refs Ts
      · obtain ⟨vx, vy, x', y', ex, ey, rx, ry, e5, _⟩ := full i b h1
        rw [hx] at ex; cases ex
        rw [hy] at ey; cases ey
        exact ⟨by show 2 ≤ sizeLine; decide, [x', y'], .cons rx (.cons ry .nil), _, e5, rfl, _, rfl⟩
    have new : ∀ b, s2.heap.objs.size ≤ b → H2 b = none := fun b hb => I2.hok.fresh hb
    refine ⟨.ref S, _, I3, rfl, q S Ts _ (fun b o e => andH_old e) (new S bS) (fun T hT => ?_) (by rw [andH_new (new S bS)]; exact NS) hTl fun i T x y e ex ey => ?_⟩
    · obtain ⟨i, hi⟩ := List.mem_iff_getElem?.mp hT
      obtain ⟨_, _, _, _, _, _, _, _, _, h⟩ := full i T hi
      exact new T h
    · obtain ⟨_, _, _, _, _, _, _, _, _, h⟩ := full i T e
      rw [andH_new (new T h)]
      exact NT i T x y e ex ey
end
end L2

set_option Elab.async false
namespace Wk
/-! ### matching, by fillings -/
def got (χ : Phi) (n : Int) : Kd := (χ n).getD (.blk n)
theorem fill_blk (χ : Phi) (n : Int) : (Kd.blk n).fill χ = got χ n := rfl
/-- the blanks of a kind -/
def Has (n : Int) : Kd → Prop
  | .num => False
  | .blk m => m = n
  | .two _ a b => Has n a ∨ Has n b
theorem fill_congr {φ ψ : Phi} : ∀ k : Kd, (∀ n, Has n k → got φ n = got ψ n) → k.fill φ = k.fill ψ
  | .num, _ => rfl
  | .blk n, h => h n rfl
  | .two f a b, h => by
    show Kd.two f (a.fill φ) (b.fill φ) = Kd.two f (a.fill ψ) (b.fill ψ)
    rw [fill_congr a fun n q => h n (.inl q), fill_congr b fun n q => h n (.inr q)]
theorem fill_congr' {φ ψ : Phi} : ∀ k : Kd, k.fill φ = k.fill ψ → ∀ n, Has n k → got φ n = got ψ n
  | .num, _, _, h => h.elim
  | .blk m, e, n, h => by cases h; exact e
  | .two f a b, e, n, h => by
    have e' : Kd.two f (a.fill φ) (b.fill φ) = Kd.two f (a.fill ψ) (b.fill ψ) := e
    injection e' with _ e1 e2
    rcases h with h | h
    · exact fill_congr' a e1 n h
    · exact fill_congr' b e2 n h
def Ext (φ χ : Phi) : Prop := ∀ n t, φ n = some t → χ n = some t
def Met (φ χ : Phi) : Prop := ∀ n t, φ n = some t → got χ n = t
theorem Ext.trans {a b c : Phi} (h : Ext a b) (h' : Ext b c) : Ext a c := fun n t e => h' n t (h n t e)
theorem put_ext {φ : Phi} {n : Int} {t : Kd} (h : φ n = none) : Ext φ (put φ n t) := fun m u e => by
  unfold put
  by_cases q : m = n
  · subst q; rw [h] at e; cases e
  · rw [if_neg q]; exact e
theorem mt_sound : ∀ (w : Kd) (φ ψ : Phi) (k : Kd), mt φ w k = some ψ → Ext φ ψ ∧ (∀ n, Has n w → ψ n ≠ none) ∧ w.fill ψ = k
  | .blk n, φ, ψ, k, h => by
    have h' : (match φ n with | none => some (put φ n k) | some u => if u = k then some φ else none) = some ψ := h
    cases e : φ n with
    | none =>
      rw [e] at h'
      cases h'
      have hp : put φ n k n = some k := by simp [put]
      exact ⟨put_ext e, fun m q => by cases q; rw [hp]; exact Option.some_ne_none _, by show (put φ n k n).getD _ = k; rw [hp]; rfl⟩
    | some u =>
      rw [e] at h'
      by_cases q : u = k
      · simp only [if_pos q] at h'
        cases h'
        exact ⟨fun _ _ z => z, fun m q' => by cases q'; rw [e]; exact Option.some_ne_none _, by show (φ n).getD _ = k; rw [e]; exact q⟩
      · simp only [if_neg q] at h'
        cases h'
  | .num, φ, ψ, k, h => by
    cases k with
    | num => cases h; exact ⟨fun _ _ z => z, fun _ q => q.elim, rfl⟩
    | blk m => cases h
    | two g c d => cases h
  | .two f a b, φ, ψ, k, h => by
    cases k with
    | num => cases h
    | blk m => cases h
    | two g c d =>
      have h' : (if f = g then (mt φ b d).bind fun ψ => mt ψ a c else none) = some ψ := h
      by_cases q : f = g
      · rw [if_pos q] at h'
        cases e : mt φ b d with
        | none => rw [e] at h'; cases h'
        | some χ =>
          rw [e] at h'
          obtain ⟨x1, y1, z1⟩ := mt_sound b φ χ d e
          obtain ⟨x2, y2, z2⟩ := mt_sound a χ ψ c h'
          have keep : ∀ n, Has n b → ψ n = χ n := fun n hn => by
            cases e2 : χ n with
            | none => exact absurd e2 (y1 n hn)
            | some t => exact x2 n t e2
          refine ⟨x1.trans x2, fun n hn => ?_, ?_⟩
          · rcases hn with hn | hn
            · exact y2 n hn
            · rw [keep n hn]; exact y1 n hn
          · show Kd.two f (a.fill ψ) (b.fill ψ) = _
            rw [z2, fill_congr (ψ := χ) b fun n hn => by unfold got; rw [keep n hn], z1, q]
      · rw [if_neg q] at h'; cases h'
theorem mt_complete : ∀ (w : Kd) (φ χ : Phi), Met φ χ → ∃ ψ, mt φ w (w.fill χ) = some ψ ∧ Met ψ χ
  | .blk n, φ, χ, h => by
    show ∃ ψ, (match φ n with | none => some (put φ n (got χ n)) | some u => if u = got χ n then some φ else none) = some ψ ∧ Met ψ χ
    cases e : φ n with
    | none =>
      refine ⟨_, rfl, fun m t q => ?_⟩
      unfold put at q
      by_cases hm : m = n
      · subst hm; rw [if_pos rfl] at q; exact Option.some.inj q
      · rw [if_neg hm] at q; exact h m t q
    | some u =>
      have : u = got χ n := (h n u e).symm
      exact ⟨φ, by simp only [if_pos this], h⟩
  | .num, φ, χ, h => ⟨φ, rfl, h⟩
  | .two f a b, φ, χ, h => by
    obtain ⟨ψ1, e1, h1⟩ := mt_complete b φ χ h
    obtain ⟨ψ2, e2, h2⟩ := mt_complete a ψ1 χ h1
    refine ⟨ψ2, ?_, h2⟩
    show (if f = f then (mt φ b (b.fill χ)).bind fun ψ => mt ψ a (a.fill χ) else none) = some ψ2
    rw [if_pos rfl, e1]
    exact e2
theorem fit_iff (w k : Kd) : fit w k = true ↔ ∃ φ : Phi, w.fill φ = k := by
  unfold fit
  have e : mts (fun _ => none) [(w, k)] = mt (fun _ => none) w k := by
    show (mt (fun _ => none) w k).bind (fun ψ => some ψ) = _
    cases mt (fun _ => none) w k <;> rfl
  rw [e]
  constructor
  · intro h
    obtain ⟨ψ, hψ⟩ := Option.isSome_iff_exists.mp h
    exact ⟨ψ, (mt_sound w _ ψ k hψ).2.2⟩
  · rintro ⟨φ, rfl⟩
    obtain ⟨ψ, hψ, _⟩ := mt_complete w (fun _ => none) φ (fun _ _ z => nomatch z)
    rw [hψ]; rfl

/-! ### forms -/
inductive Fm where
  | num
  | blk (o : Option Int)
  | two (f : Bool) (a b : Nat)
  deriving DecidableEq
inductive Den (fs : List Fm) : Nat → Kd → Prop
  | num {i : Nat} : fs[i]? = some .num → Den fs i .num
  | blk {i : Nat} {n : Int} : fs[i]? = some (.blk (some n)) → Den fs i (.blk n)
  | two {i : Nat} {f : Bool} {a b : Nat} {x y : Kd} : fs[i]? = some (.two f a b) → Den fs a x → Den fs b y → Den fs i (.two f x y)
theorem Den.fn {fs : List Fm} {i : Nat} {k k' : Kd} (h : Den fs i k) (h' : Den fs i k') : k = k' := by
  induction h generalizing k' with
  | num e => cases h' with
    | num _ => rfl
    | blk e' => rw [e] at e'; cases e'
    | two e' _ _ => rw [e] at e'; cases e'
  | blk e => cases h' with
    | num e' => rw [e] at e'; cases e'
    | blk e' => rw [e] at e'; cases e'; rfl
    | two e' _ _ => rw [e] at e'; cases e'
  | two e _ _ ih1 ih2 => cases h' with
    | num e' => rw [e] at e'; cases e'
    | blk e' => rw [e] at e'; cases e'
    | two e' h1 h2 => rw [e] at e'; cases e'; rw [ih1 h1, ih2 h2]
theorem get_app {α : Type} {xs ys : List α} {i : Nat} {x : α} (h : xs[i]? = some x) : (xs ++ ys)[i]? = some x := by
  rw [List.getElem?_append_left (List.getElem?_eq_some_iff.mp h).1]; exact h
theorem Den.mono {fs gs : List Fm} {i : Nat} {k : Kd} (h : Den fs i k) : Den (fs ++ gs) i k := by
  induction h with
  | num e => exact .num (get_app e)
  | blk e => exact .blk (get_app e)
  | two e _ _ ih1 ih2 => exact .two (get_app e) ih1 ih2
theorem Den.lt {fs : List Fm} {i : Nat} {k : Kd} (h : Den fs i k) : i < fs.length := by
  cases h with
  | num e => exact (List.getElem?_eq_some_iff.mp e).1
  | blk e => exact (List.getElem?_eq_some_iff.mp e).1
  | two e _ _ => exact (List.getElem?_eq_some_iff.mp e).1
def Uniq (fs : List Fm) : Prop := ∀ (i j : Nat) (f : Fm), fs[i]? = some f → fs[j]? = some f → i = j
theorem Den.inj {fs : List Fm} (u : Uniq fs) {k : Kd} : ∀ {i j : Nat}, Den fs i k → Den fs j k → i = j := by
  induction k with
  | num => intro i j h h'; cases h with | num e => cases h' with | num e' => exact u i j _ e e'
  | blk n => intro i j h h'; cases h with | blk e => cases h' with | blk e' => exact u i j _ e e'
  | two f a b iha ihb =>
    intro i j h h'
    cases h with
    | two e h1 h2 => cases h' with
      | two e' h1' h2' =>
        cases iha h1 h1'
        cases ihb h2 h2'
        exact u i j _ e e'
/-- each node stands for a kind -/
def AllDen (fs : List Fm) : Prop := ∀ i, i < fs.length → ∃ k, Den fs i k
theorem AllDen.nil : AllDen [] := fun i h => absurd h (Nat.not_lt_zero i)
theorem AllDen.snoc {fs : List Fm} (h : AllDen fs) (f : Fm) (hf : ∃ k, Den (fs ++ [f]) fs.length k) : AllDen (fs ++ [f]) := fun i hi => by
  rw [List.length_append] at hi
  by_cases q : i < fs.length
  · obtain ⟨k, d⟩ := h i q; exact ⟨k, d.mono⟩
  · have : i = fs.length := by have : [f].length = 1 := rfl; omega
    rw [this]; exact hf
/-! ### what comes of putting in, node by node -/
/-- y at r is x at l with something put in -/
def Sol (fs : List Fm) (φ : Phi) (l r : Nat) : Prop := ∃ x y, Den fs l x ∧ Den fs r y ∧ x.fill φ = y
theorem Sol.same {fs : List Fm} (u : Uniq fs) {φ : Phi} {l r r' : Nat} (h : Sol fs φ l r) (h' : Sol fs φ l r') : r = r' := by
  obtain ⟨x, y, d1, d2, e⟩ := h
  obtain ⟨x', y', d1', d2', e'⟩ := h'
  have := d1.fn d1'
  subst this
  rw [e] at e'
  subst e'
  exact d2.inj u d2'
theorem Sol.num {fs : List Fm} {φ : Phi} {l r : Nat} (h : Sol fs φ l r) (e : fs[l]? = some .num) : fs[r]? = some .num := by
  obtain ⟨x, y, d1, d2, q⟩ := h
  cases d1.fn (.num e)
  cases q
  cases d2 with | num e => exact e
theorem Sol.two {fs : List Fm} {φ : Phi} {l r : Nat} {f : Bool} {a b : Nat} (h : Sol fs φ l r) (e : fs[l]? = some (.two f a b)) : ∃ c d, fs[r]? = some (.two f c d) ∧ Sol fs φ a c ∧ Sol fs φ b d := by
  obtain ⟨x, y, d1, d2, q⟩ := h
  cases d1 with
  | num e' => rw [e] at e'; cases e'
  | blk e' => rw [e] at e'; cases e'
  | two e' h1 h2 =>
    rw [e] at e'
    cases e'
    cases q
    cases d2 with
    | two e2 g1 g2 => exact ⟨_, _, e2, ⟨_, _, h1, g1, rfl⟩, ⟨_, _, h2, g2, rfl⟩⟩
abbrev PutM := Nat → Option Nat
/-- closed: what is put in for a node agrees with what is put in for its parts, but for those that wait -/
def Closed (fs : List Fm) (m : PutM) (ws : List (Nat × Nat)) : Prop := ∀ l r, m l = some r → l < fs.length ∧ r < fs.length ∧
  match fs[l]? with
  | some .num => fs[r]? = some .num
  | some (.two f a b) => ∃ c d, fs[r]? = some (.two f c d) ∧ (m a = some c ∨ (a, c) ∈ ws) ∧ (m b = some d ∨ (b, d) ∈ ws)
  | _ => True
/-- what the blanks get -/
noncomputable def phiOf (fs : List Fm) (m : PutM) : Phi := fun n => by
  classical
  exact if h : ∃ t l r, fs[l]? = some (.blk (some n)) ∧ m l = some r ∧ Den fs r t then some h.choose else none
theorem phiOf_at {fs : List Fm} (u : Uniq fs) {m : PutM} {n : Int} {l r : Nat} {t : Kd} (e : fs[l]? = some (.blk (some n))) (hm : m l = some r) (d : Den fs r t) : phiOf fs m n = some t := by
  classical
  have h : ∃ t l r, fs[l]? = some (.blk (some n)) ∧ m l = some r ∧ Den fs r t := ⟨t, l, r, e, hm, d⟩
  unfold phiOf
  rw [dif_pos h]
  obtain ⟨l', r', e', hm', d'⟩ := h.choose_spec
  have := u l l' _ e e'
  subst this
  rw [hm] at hm'
  cases hm'
  rw [d.fn d']
theorem closed_sol {fs : List Fm} (u : Uniq fs) (al : AllDen fs) {m : PutM} (h : Closed fs m []) {l r : Nat} {x : Kd} (d : Den fs l x) (hm : m l = some r) : Sol fs (phiOf fs m) l r := by
  induction d generalizing r with
  | @num i e =>
    obtain ⟨_, _, c⟩ := h _ _ hm
    rw [e] at c
    exact ⟨_, _, .num e, .num c, rfl⟩
  | @blk i n e =>
    obtain ⟨_, hr, _⟩ := h _ _ hm
    obtain ⟨t, dt⟩ := al r hr
    exact ⟨_, t, .blk e, dt, by show (phiOf fs m n).getD _ = t; rw [phiOf_at u e hm dt]; rfl⟩
  | @two i f a b x y e d1 d2 ih1 ih2 =>
    obtain ⟨_, _, c⟩ := h _ _ hm
    rw [e] at c
    obtain ⟨c', d', er, ha, hb⟩ := c
    have ha' : m a = some c' := ha.resolve_right (by simp)
    have hb' : m b = some d' := hb.resolve_right (by simp)
    obtain ⟨x1, y1, p1, q1, r1⟩ := ih1 ha'
    obtain ⟨x2, y2, p2, q2, r2⟩ := ih2 hb'
    exact ⟨_, _, .two e p1 p2, .two er q1 q2, by show Kd.two f _ _ = _; rw [r1, r2]⟩
end Wk

set_option Elab.async false
namespace Wk
/-! ### whether one becomes the other, node by node -/
def putM (m : PutM) (l r : Nat) : PutM := fun j => if j = l then some r else m j
structure Bec (t : List Fm) (l0 r0 : Nat) (m : PutM) (ws : List (Nat × Nat)) : Prop where
  cl : Closed t m ws
  st : m l0 = some r0 ∨ (l0, r0) ∈ ws
  bd : ∀ p ∈ ws, p.1 < t.length ∧ p.2 < t.length
  nec : ∀ φ, Sol t φ l0 r0 → (∀ l r, m l = some r → Sol t φ l r) ∧ ∀ p ∈ ws, Sol t φ p.1 p.2
section
variable {t : List Fm} {l0 r0 l r : Nat} {m : PutM} {ws : List (Nat × Nat)}
theorem Closed.imp {m m' : PutM} {ws ws' : List (Nat × Nat)} (h : Closed t m ws) (hm : ∀ l r, m' l = some r → m l = some r) (hk : ∀ a c, (m a = some c ∨ (a, c) ∈ ws) → (m' a = some c ∨ (a, c) ∈ ws')) : Closed t m' ws' := by
  intro l r e
  obtain ⟨h1, h2, h3⟩ := h l r (hm l r e)
  refine ⟨h1, h2, ?_⟩
  cases q : t[l]? with
  | none => trivial
  | some f =>
    rw [q] at h3
    cases f with
    | num => exact h3
    | blk o => trivial
    | two f a b =>
      obtain ⟨c, d, e1, e2, e3⟩ := h3
      exact ⟨c, d, e1, hk a c e2, hk b d e3⟩
theorem bec_start (h1 : l0 < t.length) (h2 : r0 < t.length) : Bec t l0 r0 (fun _ => none) [(l0, r0)] :=
  ⟨fun l r e => (nomatch e), .inr (by simp), fun p hp => by rw [List.mem_singleton.mp hp]; exact ⟨h1, h2⟩, fun φ h => ⟨fun l r e => (nomatch e), fun p hp => by rw [List.mem_singleton.mp hp]; exact h⟩⟩
theorem bec_known (B : Bec t l0 r0 m (ws ++ [(l, r)])) (e : m l = some r) : Bec t l0 r0 m ws := by
  have key : ∀ a c, (m a = some c ∨ (a, c) ∈ ws ++ [(l, r)]) → (m a = some c ∨ (a, c) ∈ ws) := fun a c h => by
    rcases h with h | h
    · exact .inl h
    · rcases List.mem_append.mp h with h | h
      · exact .inr h
      · have := List.mem_singleton.mp h
        cases this
        exact .inl e
  exact ⟨B.cl.imp (fun _ _ z => z) key, key _ _ B.st, fun p hp => B.bd p (List.mem_append_left _ hp), fun φ h => ⟨(B.nec φ h).1, fun p hp => (B.nec φ h).2 p (List.mem_append_left _ hp)⟩⟩
theorem bec_clash (u : Uniq t) (B : Bec t l0 r0 m (ws ++ [(l, r)])) {r' : Nat} (e : m l = some r') (ne : r' ≠ r) : ¬ ∃ φ, Sol t φ l0 r0 := by
  rintro ⟨φ, h⟩
  obtain ⟨h1, h2⟩ := B.nec φ h
  exact ne ((h1 l r' e).same u (h2 (l, r) (by simp)))
/-- a new one, its parts waiting -/
theorem bec_put (B : Bec t l0 r0 m (ws ++ [(l, r)])) (e : m l = none) (more : List (Nat × Nat)) (hb : ∀ p ∈ more, p.1 < t.length ∧ p.2 < t.length) (hs : ∀ φ, Sol t φ l r → ∀ p ∈ more, Sol t φ p.1 p.2)
    (hf : match t[l]? with | some .num => t[r]? = some .num | some (.two f a b) => ∃ c d, t[r]? = some (.two f c d) ∧ (a, c) ∈ more ∧ (b, d) ∈ more | _ => True) : Bec t l0 r0 (putM m l r) (ws ++ more) := by
  have hlr := B.bd (l, r) (by simp)
  have old : ∀ a c, m a = some c → putM m l r a = some c := fun a c h => by
    unfold putM
    by_cases q : a = l
    · subst q; rw [e] at h; cases h
    · rw [if_neg q]; exact h
  have key : ∀ a c, (m a = some c ∨ (a, c) ∈ ws ++ [(l, r)]) → (putM m l r a = some c ∨ (a, c) ∈ ws ++ more) := fun a c h => by
    rcases h with h | h
    · exact .inl (old a c h)
    · rcases List.mem_append.mp h with h | h
      · exact .inr (List.mem_append_left _ h)
      · have := List.mem_singleton.mp h
        cases this
        exact .inl (by unfold putM; rw [if_pos rfl])
  refine ⟨fun l' r' e' => ?_, key _ _ B.st, fun p hp => ?_, fun φ h => ?_⟩
  · unfold putM at e'
    by_cases q : l' = l
    · subst q
      rw [if_pos rfl] at e'
      cases e'
      refine ⟨hlr.1, hlr.2, ?_⟩
      cases q : t[l']? with
      | none => trivial
      | some f =>
        rw [q] at hf
        cases f with
        | num => exact hf
        | blk o => trivial
        | two f a b =>
          obtain ⟨c, d, e1, e2, e3⟩ := hf
          exact ⟨c, d, e1, .inr (List.mem_append_right _ e2), .inr (List.mem_append_right _ e3)⟩
    · rw [if_neg q] at e'
      have := (B.cl.imp (m' := m) (fun _ _ z => z) (fun _ _ z => z)) l' r' e'
      obtain ⟨h1, h2, h3⟩ := this
      refine ⟨h1, h2, ?_⟩
      cases q2 : t[l']? with
      | none => trivial
      | some f =>
        rw [q2] at h3
        cases f with
        | num => exact h3
        | blk o => trivial
        | two f a b =>
          obtain ⟨c, d, e1, e2, e3⟩ := h3
          exact ⟨c, d, e1, key a c e2, key b d e3⟩
  · rcases List.mem_append.mp hp with h | h
    · exact B.bd p (List.mem_append_left _ h)
    · exact hb p h
  · obtain ⟨h1, h2⟩ := B.nec φ h
    have hlr' := h2 (l, r) (by simp)
    refine ⟨fun l' r' e' => ?_, fun p hp => ?_⟩
    · unfold putM at e'
      by_cases q : l' = l
      · subst q; rw [if_pos rfl] at e'; cases e'; exact hlr'
      · rw [if_neg q] at e'; exact h1 l' r' e'
    · rcases List.mem_append.mp hp with h | h
      · exact h2 p (List.mem_append_left _ h)
      · exact hs φ hlr' p h
theorem bec_no_num (B : Bec t l0 r0 m (ws ++ [(l, r)])) (e : t[l]? = some .num) (ne : t[r]? ≠ some .num) : ¬ ∃ φ, Sol t φ l0 r0 := by
  rintro ⟨φ, h⟩
  exact ne (((B.nec φ h).2 (l, r) (by simp)).num e)
theorem bec_no_two (B : Bec t l0 r0 m (ws ++ [(l, r)])) {f : Bool} {a b : Nat} (e : t[l]? = some (.two f a b)) (ne : ∀ c d, t[r]? ≠ some (.two f c d)) : ¬ ∃ φ, Sol t φ l0 r0 := by
  rintro ⟨φ, h⟩
  obtain ⟨c, d, e', _⟩ := ((B.nec φ h).2 (l, r) (by simp)).two e
  exact ne c d e'
theorem bec_end (u : Uniq t) (al : AllDen t) (B : Bec t l0 r0 m []) {x : Kd} (d : Den t l0 x) : ∃ φ, Sol t φ l0 r0 :=
  ⟨_, closed_sol u al B.cl d (B.st.resolve_right (by simp))⟩
theorem has_fit {x y : Kd} (d1 : Den t l0 x) (d2 : Den t r0 y) : fit x y = true ↔ ∃ φ, Sol t φ l0 r0 := by
  rw [fit_iff]
  constructor
  · rintro ⟨φ, e⟩
    exact ⟨φ, x, y, d1, d2, e⟩
  · rintro ⟨φ, x', y', e1, e2, e⟩
    rw [d1.fn e1, d2.fn e2]
    exact ⟨φ, e⟩
theorem two_kids {f : Bool} {a b i : Nat} (al : AllDen t) (hi : i < t.length) (e : t[i]? = some (.two f a b)) : a < t.length ∧ b < t.length := by
  obtain ⟨k, d⟩ := al i hi
  cases d with
  | num e' => rw [e] at e'; cases e'
  | blk e' => rw [e] at e'; cases e'
  | two e' d1 d2 => rw [e] at e'; cases e'; exact ⟨d1.lt, d2.lt⟩
end
/-! ### so many numbers below n -/
theorem few_below : ∀ (n : Nat) (l : List Nat), l.Nodup → (∀ x ∈ l, x < n) → l.length ≤ n := by
  intro n
  induction n with
  | zero =>
    intro l _ h
    cases l with
    | nil => exact Nat.le_refl _
    | cons a r => exact absurd (h a (by simp)) (Nat.not_lt_zero a)
  | succ n ih =>
    intro l hn h
    by_cases hm : n ∈ l
    · have h1 : (l.erase n).length ≤ n := ih (l.erase n) (hn.erase n) fun x hx => by
        have h2 := h x (List.mem_of_mem_erase hx)
        have h3 : x ≠ n := fun z => by
          subst z
          exact absurd hx (by rw [hn.mem_erase_iff]; simp)
        omega
      rw [List.length_erase_of_mem hm] at h1
      omega
    · exact Nat.le_succ_of_le (ih l hn fun x hx => by
        have h2 := h x hx
        have h3 : x ≠ n := fun z => hm (by rw [← z]; exact hx)
        omega)
end Wk

set_option Elab.async false
set_option maxRecDepth 100000
namespace K1
open PySem L2 Wk
/-! ### forms as tuples, and the known ones -/
def fmK : Fm → List Key
  | .num => [Sum.inr "number"]
  | .blk (some n) => [Sum.inr "blank", Sum.inl n]
  | .blk none => [Sum.inr "blank"]
  | .two f a b => [Sum.inr (tag f), Sum.inl (a : Int), Sum.inl (b : Int)]
def fmV (f : Fm) : List V := (fmK f).map kV
theorem tag_ne_num (f : Bool) : tag f ≠ ("number" : Str) := by cases f <;> decide +kernel
theorem tag_ne_blk (f : Bool) : tag f ≠ ("blank" : Str) := by cases f <;> decide +kernel
theorem tag_inj {f g : Bool} (h : tag f = tag g) : f = g := by
  cases f <;> cases g
  · rfl
  · exact absurd h (by decide +kernel)
  · exact absurd h (by decide +kernel)
  · rfl
theorem num_ne_blk : ¬ (("number" : Str) = "blank") := by decide +kernel
theorem fmK_inj : ∀ {f g : Fm}, fmK f = fmK g → f = g := by
  intro f g h
  cases f with
  | num =>
    cases g with
    | num => rfl
    | blk o =>
      cases o with
      | none => simp only [fmK, List.cons.injEq, Sum.inr.injEq] at h; exact absurd h.1 num_ne_blk
      | some n => simp [fmK] at h
    | two f' a b => simp [fmK] at h
  | blk o =>
    cases g with
    | num =>
      cases o with
      | none => simp only [fmK, List.cons.injEq, Sum.inr.injEq] at h; exact absurd h.1.symm num_ne_blk
      | some n => simp [fmK] at h
    | blk o' =>
      cases o <;> cases o' <;> simp [fmK] at h
      · rfl
      · rw [h]
    | two f' a b => cases o <;> simp [fmK] at h
  | two f' a b =>
    cases g with
    | num => simp [fmK] at h
    | blk o => cases o <;> simp [fmK] at h
    | two g' c d =>
      simp only [fmK, List.cons.injEq, Sum.inr.injEq, Sum.inl.injEq] at h
      obtain ⟨h1, h2, h3, _⟩ := h
      rw [tag_inj h1, Int.ofNat.inj h2, Int.ofNat.inj h3]
def kvsFrom : Nat → List Fm → List (List Key × V)
  | _, [] => []
  | i, f :: r => (fmK f, .int (i : Nat)) :: kvsFrom (i + 1) r
def kvsOf (t : List Fm) : List (List Key × V) := kvsFrom 0 t
theorem kvsFrom_len : ∀ (t : List Fm) (i : Nat), (kvsFrom i t).length = t.length
  | [], _ => rfl
  | f :: r, i => by simp [kvsFrom, kvsFrom_len r]
theorem kvsFrom_app : ∀ (t : List Fm) (f : Fm) (i : Nat), kvsFrom i (t ++ [f]) = kvsFrom i t ++ [(fmK f, .int ((i + t.length : Nat) : Int))]
  | [], f, i => by simp [kvsFrom]
  | g :: r, f, i => by
    show (fmK g, _) :: kvsFrom (i + 1) (r ++ [f]) = (fmK g, _) :: kvsFrom (i + 1) r ++ _
    rw [kvsFrom_app r f (i + 1)]
    simp
    omega
/-- where a form is, if it is there -/
def whereF (t : List Fm) (f : Fm) : Option Nat := t.idxOf? f
theorem val_from (f : Fm) : ∀ (t : List Fm) (i : Nat), valV (kvsFrom i t) (fmK f) = (t.idxOf? f).map fun j => V.int ((i + j : Nat) : Int) := by
  intro t
  induction t with
  | nil => intro i; rfl
  | cons g r ih =>
    intro i
    have hv : valV ((fmK g, V.int (i : Nat)) :: kvsFrom (i + 1) r) (fmK f) = if fmK f = fmK g then some (.int (i : Nat)) else valV (kvsFrom (i + 1) r) (fmK f) := by
      unfold valV
      rw [List.find?_cons]
      by_cases e : fmK f = fmK g
      · rw [if_pos e]
        have : decide (fmK g = fmK f) = true := decide_eq_true e.symm
        simp only [this]
        rfl
      · rw [if_neg e]
        have : decide (fmK g = fmK f) = false := decide_eq_false fun z => e z.symm
        simp only [this]
    show valV ((fmK g, V.int (i : Nat)) :: kvsFrom (i + 1) r) (fmK f) = _
    rw [hv, List.idxOf?_cons]
    by_cases e : g = f
    · subst e
      simp
    · have e1 : ¬ fmK f = fmK g := fun z => e (fmK_inj z).symm
      have e2 : (g == f) = false := by simpa using e
      rw [if_neg e1, e2, ih (i + 1)]
      cases r.idxOf? f with
      | none => rfl
      | some j => simp; omega
theorem val_of (f : Fm) (t : List Fm) : valV (kvsOf t) (fmK f) = (t.idxOf? f).map fun j => V.int ((j : Nat) : Int) := by
  unfold kvsOf
  rw [val_from]
  simp
theorem put_of {f : Fm} {t : List Fm} (h : t.idxOf? f = none) : putK (kvsOf t) (fmK f) (.int ((t.length : Nat) : Int)) = kvsOf (t ++ [f]) := by
  rw [putK_new _ (by rw [val_of, h]; rfl)]
  unfold kvsOf
  rw [kvsFrom_app]
  simp
theorem idx_at {f : Fm} {t : List Fm} {i : Nat} (h : t.idxOf? f = some i) : t[i]? = some f := by
  induction t generalizing i with
  | nil => simp at h
  | cons g r ih =>
    rw [List.idxOf?_cons] at h
    by_cases e : g = f
    · subst e; simp at h; subst h; rfl
    · have b : (g == f) = false := by simpa using e
      rw [b] at h
      obtain ⟨j, hj, rfl⟩ := Option.map_eq_some_iff.mp (by simpa using h : (r.idxOf? f).map (· + 1) = some i)
      simpa using ih hj
theorem idx_none {f : Fm} {t : List Fm} (h : t.idxOf? f = none) : f ∉ t := by
  induction t with
  | nil => simp
  | cons g r ih =>
    rw [List.idxOf?_cons] at h
    by_cases e : g = f
    · subst e; simp at h
    · have b : (g == f) = false := by simpa using e
      rw [b] at h
      have h' : r.idxOf? f = none := by simpa using h
      simp only [List.mem_cons, not_or]
      exact ⟨fun z => e z.symm, ih h'⟩
end K1

set_option Elab.async false
set_option maxRecDepth 100000
namespace K1
open PySem L2 Wk
def FmAt (H : Hp) (v : V) (f : Fm) : Prop := ∃ b, v = .ref b ∧ H b = some (.tup (fmV f))
theorem FmAt.mono {H H' : Hp} (k : Tk H H') {v : V} {f : Fm} (h : FmAt H v f) : FmAt H' v f := let ⟨b, e, h⟩ := h; ⟨b, e, k _ _ h⟩
structure Lay where
  p : Addr
  dx : Addr
  L1 : Addr
  L2 : Addr
  L3 : Addr
  L4 : Addr
def fldsOf (A : Lay) : List (Str × V) := [("forms", .ref A.L1), ("links", .ref A.L2), ("levels", .ref A.L3), ("lowered", .ref A.L4)]
/-- the nodes of a table -/
structure NodAt (C : Addr) (A : Lay) (t : List Fm) (H : Hp) : Prop where
  ins : H A.p = some (.ins C A.dx (fldsOf A))
  fms : ∃ ws, H A.L1 = some (.lst ws) ∧ Paired (FmAt H) ws t
  lks : ∃ ws, H A.L2 = some (.lst ws) ∧ ws.length = t.length
  lvs : ∃ ws, H A.L3 = some (.lst ws) ∧ ws.length = t.length
  n12 : A.L1 ≠ A.L2
  n13 : A.L1 ≠ A.L3
  n23 : A.L2 ≠ A.L3
def S3 (A : Lay) (b : Addr) : Prop := b = A.L1 ∨ b = A.L2 ∨ b = A.L3
theorem NodAt.keep {C : Addr} {A : Lay} {t : List Fm} {H H' : Hp} (h : NodAt C A t H) (p : H' A.p = H A.p) (l : ∀ b, S3 A b → H' b = H b) (k : Tk H H') : NodAt C A t H' := by
  obtain ⟨ws, e, r⟩ := h.fms
  obtain ⟨w2, e2, r2⟩ := h.lks
  obtain ⟨w3, e3, r3⟩ := h.lvs
  exact ⟨p.trans h.ins, ⟨ws, (l _ (.inl rfl)).trans e, Paired.imp' (fun _ _ q => q.mono k) r⟩, ⟨w2, (l _ (.inr (.inl rfl))).trans e2, r2⟩, ⟨w3, (l _ (.inr (.inr rfl))).trans e3, r3⟩, h.n12, h.n13, h.n23⟩
theorem NodAt.same {C : Addr} {A : Lay} {t : List Fm} {H H' : Hp} (h : NodAt C A t H) (s : Same H H') : NodAt C A t H' := by
  obtain ⟨ws, e, r⟩ := h.fms
  obtain ⟨w2, e2, r2⟩ := h.lks
  obtain ⟨w3, e3, r3⟩ := h.lvs
  refine ⟨s _ _ h.ins, ⟨ws, s _ _ e, Paired.imp' (fun _ _ q => q.mono s.tk) r⟩, ⟨w2, s _ _ e2, r2⟩, ⟨w3, s _ _ e3, r3⟩, h.n12, h.n13, h.n23⟩
/-- what is wanted of the class Nodes -/
structure NCls (K : PySem.W.Frag) (C : Addr) : Prop where
  cl : Cls K C
  n1 : NoAttr K C "forms"
  n2 : NoAttr K C "links"
  n3 : NoAttr K C "levels"
  n4 : NoAttr K C "lowered"
section
variable {P : Program} {w : World} {K : PySem.W.Frag} {mg : Str → Option Value} {base : Heap} {f aA : Addr} {fd dA : FuncData} {C : Addr}
/-! ### __init__ -/
def spInit (C : Addr) : Sp := fun vs H Q _ => ∃ p dx, vs = [.ref p] ∧ H p = some (.ins C dx []) ∧ ∀ A H', A.p = p → A.dx = dx → (∀ b o, H b = some o → b ≠ p → H' b = some o) → NodAt C A [] H' → (H A.L1 = none ∧ H A.L2 = none ∧ H A.L3 = none) → Q .non H'
theorem scInit : FnScope ["self"] ["self"] (defScope sInit) := ⟨rfl, rfl, rfl, by decide +kernel, rfl, by decide +kernel, by decide +kernel⟩
set_option maxHeartbeats 4000000 in
theorem ok_init (F : Fun K "__init__" "Nodes.__init__" sInit f fd) (N : NCls K C) : FnOk P w K mg base CX0 1 f fd ["self"] (spInit C) := by
  refine F.ok scInit (fun vs H Q E h => ?_) (fun cdv A outer s H vs Q E hr h => ?_)
  · obtain ⟨p, dx, rfl, _⟩ := h
    rfl
  obtain ⟨p, dx, rfl, hp, q⟩ := h
  refine ⟨_, pss_cons (ps_fld (pv 0) (pe_lst pa_nil) rfl) (pss_cons (ps_fld (pv 0) (pe_lst pa_nil) rfl) (pss_cons (ps_fld (pv 0) (pe_lst pa_nil) rfl) (pss_one (ps_fld (pv 0) (pe_lst pa_nil) rfl)))), ?_⟩
  refine ⟨Nat.zero_le _, fun l1 h1 => ?_⟩
  have p1 : upd H l1 (.lst []) p = some (.ins C dx []) := by rw [upd_ne (ne_of_none hp h1)]; exact hp
  refine ⟨_, rfl, p, C, dx, _, rfl, p1, N.cl, N.n1, by decide, ?_⟩
  refine ⟨Nat.zero_le _, fun l2 h2 => ?_⟩
  generalize hH1 : upd (upd H l1 (.lst [])) p (.ins C dx (putF "forms" (.ref l1) [])) = H1 at h2 ⊢
  have q1 : H1 p = some (.ins C dx (putF "forms" (.ref l1) [])) := by rw [← hH1]; exact upd_same
  have nl1 : l1 ≠ p := fun z => by rw [z, hp] at h1; cases h1
  have a1 : H1 l1 = some (.lst []) := by rw [← hH1, upd_ne nl1]; exact upd_same
  have k1 : ∀ b o, H b = some o → b ≠ p → H1 b = some o := fun b o e n => by rw [← hH1, upd_ne n, upd_ne (ne_of_none e h1)]; exact e
  have p2 : upd H1 l2 (.lst []) p = some (.ins C dx (putF "forms" (.ref l1) [])) := by rw [upd_ne (ne_of_none q1 h2)]; exact q1
  refine ⟨_, rfl, p, C, dx, _, rfl, p2, N.cl, N.n2, (by exact (by decide : 1 < 1000)), ?_⟩
  refine ⟨Nat.zero_le _, fun l3 h3 => ?_⟩
  generalize hH2 : upd (upd H1 l2 (.lst [])) p (.ins C dx (putF "links" (.ref l2) (putF "forms" (.ref l1) []))) = H2 at h3 ⊢
  have q2 : H2 p = some (.ins C dx (putF "links" (.ref l2) (putF "forms" (.ref l1) []))) := by rw [← hH2]; exact upd_same
  have nl2 : l2 ≠ p := fun z => by rw [z, q1] at h2; cases h2
  have a2 : H2 l2 = some (.lst []) := by rw [← hH2, upd_ne nl2]; exact upd_same
  have k2 : ∀ b o, H1 b = some o → b ≠ p → H2 b = some o := fun b o e n => by rw [← hH2, upd_ne n, upd_ne (ne_of_none e h2)]; exact e
  have p3 : upd H2 l3 (.lst []) p = some (.ins C dx (putF "links" (.ref l2) (putF "forms" (.ref l1) []))) := by rw [upd_ne (ne_of_none q2 h3)]; exact q2
  refine ⟨_, rfl, p, C, dx, _, rfl, p3, N.cl, N.n3, (by exact (by decide : 2 < 1000)), ?_⟩
  refine ⟨Nat.zero_le _, fun l4 h4 => ?_⟩
  generalize hH3 : upd (upd H2 l3 (.lst [])) p (.ins C dx (putF "levels" (.ref l3) (putF "links" (.ref l2) (putF "forms" (.ref l1) [])))) = H3 at h4 ⊢
  have q3 : H3 p = some (.ins C dx (putF "levels" (.ref l3) (putF "links" (.ref l2) (putF "forms" (.ref l1) [])))) := by rw [← hH3]; exact upd_same
  have nl3 : l3 ≠ p := fun z => by rw [z, q2] at h3; cases h3
  have a3 : H3 l3 = some (.lst []) := by rw [← hH3, upd_ne nl3]; exact upd_same
  have k3 : ∀ b o, H2 b = some o → b ≠ p → H3 b = some o := fun b o e n => by rw [← hH3, upd_ne n, upd_ne (ne_of_none e h3)]; exact e
  have p4 : upd H3 l4 (.lst []) p = some (.ins C dx (putF "levels" (.ref l3) (putF "links" (.ref l2) (putF "forms" (.ref l1) [])))) := by rw [upd_ne (ne_of_none q3 h4)]; exact q3
  refine ⟨_, rfl, p, C, dx, _, rfl, p4, N.cl, N.n4, (by exact (by decide : 3 < 1000)), ?_⟩
  generalize hH4 : upd (upd H3 l4 (.lst [])) p (.ins C dx (putF "lowered" (.ref l4) (putF "levels" (.ref l3) (putF "links" (.ref l2) (putF "forms" (.ref l1) []))))) = H4
  have q4 : H4 p = some (.ins C dx (fldsOf ⟨p, dx, l1, l2, l3, l4⟩)) := by rw [← hH4]; exact upd_same
  have k4 : ∀ b o, H3 b = some o → b ≠ p → H4 b = some o := fun b o e n => by rw [← hH4, upd_ne n, upd_ne (ne_of_none e h4)]; exact e
  have n12 : l1 ≠ l2 := fun z => by rw [← z, a1] at h2; cases h2
  have n13 : l1 ≠ l3 := fun z => by rw [← z, k2 _ _ a1 nl1] at h3; cases h3
  have n23 : l2 ≠ l3 := fun z => by rw [← z, a2] at h3; cases h3
  have f2 : H l2 = none := by
    cases e : H l2 with
    | none => rfl
    | some o => rw [k1 _ _ e nl2] at h2; cases h2
  have f3 : H l3 = none := by
    cases e : H l3 with
    | none => rfl
    | some o => rw [k2 _ _ (k1 _ _ e nl3) nl3] at h3; cases h3
  refine q ⟨p, dx, l1, l2, l3, l4⟩ H4 rfl rfl (fun b o e n => k4 _ _ (k3 _ _ (k2 _ _ (k1 _ _ e n) n) n) n) ⟨q4, ⟨[], k4 _ _ (k3 _ _ (k2 _ _ a1 nl1) nl1) nl1, .nil⟩, ⟨[], k4 _ _ (k3 _ _ a2 nl2) nl2, rfl⟩, ⟨[], k4 _ _ a3 nl3, rfl⟩, n12, n13, n23⟩ ⟨h1, f2, f3⟩
end
end K1

set_option Elab.async false
set_option maxRecDepth 100000
namespace K1
open PySem L2 Wk
section
variable {P : Program} {w : World} {K : PySem.W.Frag} {mg : Str → Option Value} {base : Heap} {f aA : Addr} {fd dA : FuncData} {C : Addr} {dV : Value}
theorem fld_forms (A : Lay) : (fldsOf A).lookup ("forms" : Str) = some (V.ref A.L1) := by unfold fldsOf; rfl
theorem fld_links (A : Lay) : (fldsOf A).lookup ("links" : Str) = some (V.ref A.L2) := by unfold fldsOf; rfl
theorem fld_levels (A : Lay) : (fldsOf A).lookup ("levels" : Str) = some (V.ref A.L3) := by unfold fldsOf; rfl
/-! ### added -/
def spAdded (C : Addr) : Sp := fun vs H Q _ => ∃ A t fm b lv, vs = [.ref A.p, .ref b, lv] ∧ H b = some (.tup (fmV fm)) ∧ NodAt C A t H ∧ t.length ≤ 200000 ∧ ∀ H', Kx (S3 A) H H' → NodAt C A (t ++ [fm]) H' → Q (.int ((t.length : Nat) : Int)) H'
theorem scAdded : FnScope ["self", "form", "level", "node"] ["self", "form", "level"] (defScope sAdded) := ⟨rfl, rfl, rfl, by decide +kernel, rfl, by decide +kernel, by decide +kernel⟩
set_option maxHeartbeats 4000000 in
theorem ok_added (F : FunD K "added" "Nodes.added" sAdded f fd dV) (N : NCls K C) (ml : mg "len" = none) : FnOk P w K mg base CX0 1 f fd ["self", "form", "level"] (spAdded C) := by
  refine F.ok scAdded (fun vs H Q E h => ?_) (fun cdv A outer s H vs Q E hr h => ?_)
  · obtain ⟨A, t, fm, b, lv, rfl, _⟩ := h
    rfl
  obtain ⟨A, t, fm, b, lv, rfl, hb, hN, hl, q⟩ := h
  have nd := scAdded.nd
  refine ⟨_, pss_cons (ps_set (i := 3) nd rfl (Or.inl rfl) (pe_callB call_len_seq rfl ml PySem.boot_len (pa_cons (pe_fld (pv 0) rfl) pa_nil)))
    (pss_cons (ps_expr (pe_bm PySem.F.plainAttrs_list PySem.F.slot_list_append PySem.F.type_list_append mt_append (pe_fld (pv 0) rfl) (pa_cons (pv 1) pa_nil)))
    (pss_cons (ps_expr (pe_bm PySem.F.plainAttrs_list PySem.F.slot_list_append PySem.F.type_list_append mt_append (pe_fld (pv 0) rfl) (pa_cons (pv 3) pa_nil)))
    (pss_cons (ps_expr (pe_bm PySem.F.plainAttrs_list PySem.F.slot_list_append PySem.F.type_list_append mt_append (pe_fld (pv 0) rfl) (pa_cons (pv 2) pa_nil)))
    (pss_one (ps_ret (pv 3)))))), ?_⟩
  obtain ⟨ws, e1, r1⟩ := hN.fms
  obtain ⟨w2, e2, r2⟩ := hN.lks
  obtain ⟨w3, e3, r3⟩ := hN.lvs
  have nl : ws.length = t.length := Paired.length r1
  refine ⟨_, rfl, A.p, C, A.dx, _, _, rfl, hN.ins, N.cl, N.n1, fld_forms A, A.L1, ws, rfl, .inl (SqL.of e1), ?_⟩
  refine ⟨_, rfl, A.p, C, A.dx, _, _, rfl, hN.ins, N.cl, N.n1, fld_forms A, .inl ⟨rfl, _, SqL.of e1⟩, _, rfl, A.L1, _, _, rfl, rfl, e1, lt_line (by omega), ?_⟩
  have p1 : A.p ≠ A.L1 := ne_of hN.ins e1 (by intro z; cases z)
  have p2 : A.p ≠ A.L2 := ne_of hN.ins e2 (by intro z; cases z)
  have p3 : A.p ≠ A.L3 := ne_of hN.ins e3 (by intro z; cases z)
  generalize hH1 : upd H A.L1 (.lst (ws ++ [.ref b])) = H1
  have i1 : H1 A.p = some (.ins C A.dx (fldsOf A)) := by rw [← hH1, upd_ne p1]; exact hN.ins
  have a1 : H1 A.L1 = some (.lst (ws ++ [.ref b])) := by rw [← hH1]; exact upd_same
  have a2 : H1 A.L2 = some (.lst w2) := by rw [← hH1, upd_ne hN.n12.symm]; exact e2
  have a3 : H1 A.L3 = some (.lst w3) := by rw [← hH1, upd_ne hN.n13.symm]; exact e3
  have t1 : Tk H H1 := by rw [← hH1]; exact Tk.lst e1
  have k1 : Kx (S3 A) H H1 := by rw [← hH1]; exact (Kx.refl _ _).updS (.inl rfl)
  refine ⟨_, rfl, A.p, C, A.dx, _, _, rfl, i1, N.cl, N.n2, fld_links A, .inl ⟨rfl, _, SqL.of a2⟩, _, rfl, A.L2, _, _, rfl, rfl, a2, lt_line (by omega), ?_⟩
  generalize hH2 : upd H1 A.L2 (.lst (w2 ++ [.int (ws.length : Nat)])) = H2
  have i2 : H2 A.p = some (.ins C A.dx (fldsOf A)) := by rw [← hH2, upd_ne p2]; exact i1
  have b1 : H2 A.L1 = some (.lst (ws ++ [.ref b])) := by rw [← hH2, upd_ne hN.n12]; exact a1
  have b2 : H2 A.L2 = some (.lst (w2 ++ [.int (ws.length : Nat)])) := by rw [← hH2]; exact upd_same
  have b3 : H2 A.L3 = some (.lst w3) := by rw [← hH2, upd_ne hN.n23.symm]; exact a3
  have t2 : Tk H H2 := by rw [← hH2]; exact t1.trans (Tk.lst a2)
  have k2 : Kx (S3 A) H H2 := by rw [← hH2]; exact k1.updS (.inr (.inl rfl))
  refine ⟨_, rfl, A.p, C, A.dx, fldsOf A, .ref A.L3, rfl, i2, N.cl, N.n3, fld_levels A, .inl ⟨rfl, _, SqL.of b3⟩, _, rfl, A.L3, _, _, rfl, rfl, b3, lt_line (by omega), ?_⟩
  generalize hH3 : upd H2 A.L3 (.lst (w3 ++ [lv])) = H3
  have i3 : H3 A.p = some (.ins C A.dx (fldsOf A)) := by rw [← hH3, upd_ne p3]; exact i2
  have c1 : H3 A.L1 = some (.lst (ws ++ [.ref b])) := by rw [← hH3, upd_ne hN.n13]; exact b1
  have c2 : H3 A.L2 = some (.lst (w2 ++ [.int (ws.length : Nat)])) := by rw [← hH3, upd_ne hN.n23]; exact b2
  have c3 : H3 A.L3 = some (.lst (w3 ++ [lv])) := by rw [← hH3]; exact upd_same
  have t3 : Tk H H3 := by rw [← hH3]; exact t2.trans (Tk.lst b3)
  have k3 : Kx (S3 A) H H3 := by rw [← hH3]; exact k2.updS (.inr (.inr rfl))
  refine ⟨_, rfl, ?_⟩
  rw [nl]
  exact q H3 k3 ⟨i3, ⟨_, c1, paired_app (Paired.imp' (fun _ _ z => z.mono t3) r1) (.cons ⟨b, rfl, t3 _ _ hb⟩ .nil)⟩, ⟨_, c2, by simp [r2]⟩, ⟨_, c3, by simp [r3]⟩, hN.n12, hN.n13, hN.n23⟩
/-! ### laid_part -/
def layF (t : List Fm) (fm : Fm) : Nat × List Fm := match t.idxOf? fm with
  | some i => (i, t)
  | none => (t.length, t ++ [fm])
def S4 (A : Lay) (D : Addr) (b : Addr) : Prop := S3 A b ∨ b = D
/-- the nodes, and the dict of those that are known -/
structure TabAt (C : Addr) (A : Lay) (D : Addr) (t : List Fm) (H : Hp) : Prop where
  nod : NodAt C A t H
  kno : H D = some (.dT (kvsOf t))
def spLaidPart (C : Addr) : Sp := fun vs H Q _ => ∃ A D t fm b lv, vs = [.ref A.p, .ref b, .ref D, lv] ∧ H b = some (.tup (fmV fm)) ∧ TabAt C A D t H ∧ t.length ≤ 200000 ∧ ∀ H', Kx (S4 A D) H H' → TabAt C A D (layF t fm).2 H' → Q (.int (((layF t fm).1 : Nat) : Int)) H'
theorem scLaidPart : FnScope ["self", "part", "known", "level"] ["self", "part", "known", "level"] (defScope sLaidPart) := ⟨rfl, rfl, rfl, by decide +kernel, rfl, by decide +kernel, by decide +kernel⟩
set_option maxHeartbeats 4000000 in
theorem ok_laidPart (F : Fun K "laid_part" "Nodes.laid_part" sLaidPart f fd) (N : NCls K C) (M : Meth K C "added" aA) (GA : FnOk P w K mg base CX0 1 aA dA ["self", "form", "level"] (spAdded C)) (bA : Binds K dA ["self", "form", "level"] []) :
    FnOk P w K mg base CX0 2 f fd ["self", "part", "known", "level"] (spLaidPart C) := by
  refine F.ok (k := 1) scLaidPart (fun vs H Q E h => ?_) (fun cdv A' outer s H vs Q E hr h => ?_)
  · obtain ⟨A, D, t, fm, b, lv, rfl, _⟩ := h
    rfl
  obtain ⟨A, D, t, fm, b, lv, rfl, hb, hT, hl, q⟩ := h
  have nd := scLaidPart.nd
  have hu := hu_of hr
  refine ⟨_, pss_cons (ps_if (pt_cmp (pc_dnotin hu (pv 1) (pv 2))) (pss_one (ps_dput hu (pv 2) (pv 1) (pe_meth (pv 0) N.cl M GA hr bA .nil pass0 (pa_cons (pv 1) (pa_cons (pv 3) pa_nil))) rfl)) pss_nil)
    (pss_one (ps_ret (pe_dget hu (pv 2) (pv 1) (fun _ _ => rfl)))), ?_⟩
  have hv := val_of fm t
  unfold layF at q
  refine ⟨_, rfl, _, rfl, D, _, rfl, DGet.t hT.kno hb, _, rfl, ?_⟩
  cases hi : t.idxOf? fm with
  | some i =>
    rw [hi] at hv q
    rw [hv]
    refine iteF ?_
    refine ⟨_, rfl, _, rfl, D, _, rfl, ?_, q H (Kx.refl _ _) hT⟩
    have := DGet.t hT.kno hb
    rw [hv] at this
    exact this
  | none =>
    rw [hi] at hv q
    rw [hv]
    refine iteT ?_
    refine ⟨_, rfl, A.p, A.dx, _, rfl, hT.nod.ins, by unfold fldsOf; rfl, _, rfl, _, rfl, A, t, fm, b, lv, rfl, hb, hT.nod, hl, fun H1 K1 N1 => ?_⟩
    obtain ⟨ws, e1, _⟩ := hT.nod.fms
    obtain ⟨w2, e2, _⟩ := hT.nod.lks
    obtain ⟨w3, e3, _⟩ := hT.nod.lvs
    have nD : ¬ S3 A D := by
      have hk := hT.kno
      rintro (z | z | z)
      · rw [z, e1] at hk; cases hk
      · rw [z, e2] at hk; cases hk
      · rw [z, e3] at hk; cases hk
    have nb : ¬ S3 A b := by
      rintro (z | z | z)
      · rw [z, e1] at hb; cases hb
      · rw [z, e2] at hb; cases hb
      · rw [z, e3] at hb; cases hb
    have hD1 := K1 _ _ hT.kno nD
    have hb1 := K1 _ _ hb nb
    refine ⟨_, rfl, _, rfl, D, _, rfl, DPut.t hD1 hb1 (lt_line (by unfold kvsOf; rw [kvsFrom_len]; omega)), ?_⟩
    rw [put_of hi]
    have hD2 : upd H1 D (.dT (kvsOf (t ++ [fm]))) D = some (.dT (kvsOf (t ++ [fm]))) := upd_same
    have tk : Tk H1 (upd H1 D (.dT (kvsOf (t ++ [fm])))) := .upd fun xs e => by rw [hD1] at e; cases e
    have K2 : Kx (S4 A D) H (upd H1 D (.dT (kvsOf (t ++ [fm])))) := fun c o e n => by
      rw [upd_ne fun z => n (.inr z)]
      exact K1 c o e fun z => n (.inl z)
    have N2 : NodAt C A (t ++ [fm]) (upd H1 D (.dT (kvsOf (t ++ [fm])))) := N1.keep (upd_ne (ne_of N1.ins hD1 (by intro z; cases z))) (fun c hc => upd_ne fun z => nD (by rw [← z]; exact hc)) tk
    generalize upd H1 D (.dT (kvsOf (t ++ [fm]))) = H2 at hD2 tk K2 N2 ⊢
    have hv2 : valV (kvsOf (t ++ [fm])) (fmK fm) = some (.int ((t.length : Nat) : Int)) := by
      rw [← put_of hi, valV_put, if_pos rfl]
    refine ⟨_, rfl, _, rfl, D, _, rfl, ?_, q H2 K2 ⟨N2, hD2⟩⟩
    have := DGet.t hD2 (tk _ _ hb1)
    rw [hv2] at this
    exact this
end
end K1

set_option Elab.async false
set_option maxRecDepth 100000
namespace K1
open PySem L2 Wk
/-! ### the nodes, abstractly -/
theorem uniq_snoc {t : List Fm} {f : Fm} (u : Uniq t) (h : f ∉ t) : Uniq (t ++ [f]) := by
  intro i j g hi hj
  have lt : ∀ {k : Nat}, (t ++ [f])[k]? = some g → (k < t.length ∧ t[k]? = some g) ∨ (k = t.length ∧ g = f) := fun {k} e => by
    by_cases q : k < t.length
    · rw [List.getElem?_append_left q] at e; exact .inl ⟨q, e⟩
    · rw [List.getElem?_append_right (by omega)] at e
      have hk : k - t.length = 0 := by
        have := (List.getElem?_eq_some_iff.mp e).1
        simp at this; omega
      rw [hk] at e
      simp at e
      exact .inr ⟨by omega, e.symm⟩
  rcases lt hi with ⟨a1, a2⟩ | ⟨a1, a2⟩ <;> rcases lt hj with ⟨b1, b2⟩ | ⟨b1, b2⟩
  · exact u i j g a2 b2
  · exact absurd (List.mem_of_getElem? a2) (by rw [b2]; exact h)
  · exact absurd (List.mem_of_getElem? b2) (by rw [a2]; exact h)
  · rw [a1, b1]
/-- fm is the form of the kind u, its parts in t -/
def FmOf (t : List Fm) : Kd → Fm → Prop
  | .num, f => f = .num
  | .blk n, f => f = .blk (some n)
  | .two g a b, f => ∃ i j, f = .two g i j ∧ Den t i a ∧ Den t j b
theorem FmOf.den {t : List Fm} {u : Kd} {f : Fm} {i : Nat} (h : FmOf t u f) (e : t[i]? = some f) : Den t i u := by
  cases u with
  | num => cases h; exact .num e
  | blk n => cases h; exact .blk e
  | two g a b =>
    obtain ⟨i', j', rfl, d1, d2⟩ := h
    exact .two e d1 d2
theorem FmOf.mono {t more : List Fm} {u : Kd} {f : Fm} (h : FmOf t u f) : FmOf (t ++ more) u f := by
  cases u with
  | num => exact h
  | blk n => exact h
  | two g a b =>
    obtain ⟨i', j', rfl, d1, d2⟩ := h
    exact ⟨i', j', rfl, d1.mono, d2.mono⟩
theorem layF_ok {t : List Fm} {u : Kd} {f : Fm} (hu : Uniq t) (ha : AllDen t) (h : FmOf t u f) : (∃ more, (layF t f).2 = t ++ more) ∧ (layF t f).2.length ≤ t.length + 1 ∧ Uniq (layF t f).2 ∧ AllDen (layF t f).2 ∧ Den (layF t f).2 (layF t f).1 u := by
  unfold layF
  cases e : t.idxOf? f with
  | some i => exact ⟨⟨[], by simp⟩, Nat.le_succ _, hu, ha, h.den (idx_at e)⟩
  | none =>
    have d : Den (t ++ [f]) t.length u := h.mono.den (by rw [List.getElem?_append_right (Nat.le_refl _)]; simp)
    exact ⟨⟨[f], rfl⟩, by simp, uniq_snoc hu (idx_none e), ha.snoc f ⟨u, d⟩, d⟩
/-! ### laid -/
abbrev lamL : Lam := lamOf sLaid
abbrev lamLQual : Str := (("Nodes.laid" : Str) ++ ".<locals>.") ++ "<lambda>"
abbrev NL : List Str := ["self", "kind", "known", "level"]
def S5 (A : Lay) (D : Addr) (b : Addr) : Prop := S4 A D b ∨ b = A.p
theorem TabAt.keep {C : Addr} {A : Lay} {D : Addr} {t : List Fm} {H H' : Hp} (h : TabAt C A D t H) (e : ∀ b, S5 A D b → H' b = H b) (k : Tk H H') : TabAt C A D t H' :=
  ⟨h.nod.keep (e _ (.inr rfl)) (fun b hb => e b (.inl (.inl hb))) k, (e _ (.inl (.inr rfl))).trans h.kno⟩
theorem TabAt.held {C : Addr} {A : Lay} {D : Addr} {t : List Fm} {H : Hp} (h : TabAt C A D t H) : Held (S5 A D) H := by
  obtain ⟨ws, e1, _⟩ := h.nod.fms
  obtain ⟨w2, e2, _⟩ := h.nod.lks
  obtain ⟨w3, e3, _⟩ := h.nod.lvs
  have key : ∀ {b : Addr} {o : HO}, H b = some o → (∀ xs, o ≠ .tup xs) → H b ≠ none ∧ ∀ xs, H b ≠ some (.tup xs) := fun {b o} e n => ⟨by rw [e]; simp, fun xs z => by rw [e] at z; exact n xs (Option.some.inj z)⟩
  rintro b (((rfl | rfl | rfl) | rfl) | rfl)
  · exact key e1 (by intro xs z; cases z)
  · exact key e2 (by intro xs z; cases z)
  · exact key e3 (by intro xs z; cases z)
  · exact key h.kno (by intro xs z; cases z)
  · exact key h.nod.ins (by intro xs z; cases z)
theorem TabAt.notS {C : Addr} {A : Lay} {D : Addr} {t : List Fm} {H : Hp} (h : TabAt C A D t H) {b : Addr} {o : HO} (e : H b = some o) (n1 : ∀ xs, o ≠ .lst xs) (n2 : ∀ xs, o ≠ .dT xs) (n3 : ∀ C dx fs, o ≠ .ins C dx fs) : ¬ S5 A D b := by
  obtain ⟨ws, e1, _⟩ := h.nod.fms
  obtain ⟨w2, e2, _⟩ := h.nod.lks
  obtain ⟨w3, e3, _⟩ := h.nod.lvs
  rintro (((rfl | rfl | rfl) | rfl) | rfl)
  · rw [e1] at e; exact n1 _ (Option.some.inj e).symm
  · rw [e2] at e; exact n1 _ (Option.some.inj e).symm
  · rw [e3] at e; exact n1 _ (Option.some.inj e).symm
  · rw [h.kno] at e; exact n2 _ (Option.some.inj e).symm
  · rw [h.nod.ins] at e; exact n3 _ _ _ (Option.some.inj e).symm
section
variable {P : Program} {w : World} {K : PySem.W.Frag} {mg : Str → Option Value} {base : Heap} {f g fb aP c pt : Addr} {fd gd fbd dP : FuncData} {C : Addr} {dV : Value}
def spLaid (C pt : Addr) : Sp := fun vs H Q _ => ∃ A D t v k lv ps, vs = [.ref A.p, v, .ref D, lv] ∧ KAt H v k ∧ k.size ≤ 50000 ∧ TabAt C A D t H ∧ Uniq t ∧ AllDen t ∧ t.length ≤ 100000 ∧ LamTab H pt lamL.pos lamLQual ps ∧
  ∀ t' (i : Nat) H', (∃ more, t' = t ++ more) → t'.length ≤ t.length + k.size → Uniq t' → AllDen t' → Den t' i k → TabAt C A D t' H' → (∀ b o, H b = some o → ¬ S5 A D b → b ≠ pt → H' b = some o) → (∃ ps', LamTab H' pt lamL.pos lamLQual ps') → Q (.int (i : Nat)) H'
theorem scLaid : FnScope NL NL (defScope sLaid) := ⟨rfl, rfl, rfl, by decide +kernel, rfl, by decide +kernel, by decide +kernel⟩
abbrev clL (n : Nat) : List (Str × Addr) := [("self", n + 1), ("level", n + 1 + 1 + 1), ("known", n + 1 + 1)]
theorem scLamL (n : Nat) : LamScope ["part"] lamL.scope (clL n) := by
  refine ⟨rfl, rfl, rfl, by decide +kernel, by decide +kernel, by decide +kernel, fun x h => ?_, fun x y a h1 h2 => ?_⟩
  · have hm := PySem.mem_of_lookup h
    have hm' : (x, NameKind.free) ∈ [(("part" : Str), NameKind.local), ("known", .free), ("level", .free), ("self", .free)] := hm
    simp only [List.mem_cons, List.not_mem_nil, or_false, Prod.mk.injEq] at hm'
    rcases hm' with ⟨_, z⟩ | ⟨z, _⟩ | ⟨z, _⟩ | ⟨z, _⟩
    · cases z
    · subst z; exact ⟨_, rfl⟩
    · subst z; exact ⟨_, rfl⟩
    · subst z; exact ⟨_, rfl⟩
  · have k1 := PySem.mem_of_lookup h1
    have k2 := PySem.mem_of_lookup h2
    simp only [clL, List.mem_cons, List.not_mem_nil, or_false, Prod.mk.injEq] at k1 k2
    rcases k1 with ⟨a1, a2⟩ | ⟨a1, a2⟩ | ⟨a1, a2⟩ <;> rcases k2 with ⟨b1, b2⟩ | ⟨b1, b2⟩ | ⟨b1, b2⟩ <;> first | (exact a1.trans b1.symm) | (exact absurd (a2.symm.trans b2) (by show ¬ ((_ : Nat) = _); omega))
set_option maxHeartbeats 8000000 in
theorem ok_laid (F : FunD K "laid" "Nodes.laid" sLaid f fd dV) (hcode : fd.code = .ref c) (hCd : PySem.W.CodeHd base c pt) (hBm : BMain mg base) (N : NCls K C) (M : Meth K C "laid_part" aP)
    (GP : FnOk P w K mg base CX0 2 aP dP ["self", "part", "known", "level"] (spLaidPart C)) (bP : Binds K dP ["self", "part", "known", "level"] [])
    (G : FnOk P w K mg base CX0 1 g gd ["kind"] spParts) (bG : Binds K gd ["kind"] []) (kG : PySem.W.keepIn K (.ref g) = true) (mG : mg "parts" = some (.ref g))
    (FB : Fun K "built" "built" sBuilt fb fbd) (bB : Binds K fbd ["kind", "make"] []) (mB : mg "built" = some (.ref fb)) (mr : mg "reversed" = none) (ml : mg "len" = none) :
    FnOk P w K mg base CX0 6 f fd NL (spLaid C pt) := by
  refine F.okC (k := 5) hcode scLaid (fun vs H Q E h => ?_) (fun A' outer s H vs Q E hr h => ?_)
  · obtain ⟨A, D, t, v, k, lv, ps, rfl, _⟩ := h
    rfl
  obtain ⟨A, D, t0, v, k, lv, ps, rfl, hk, hB, hT, hU, hA, hl, hLT, q⟩ := h
  have nd := scLaid.nd
  have CO : CodeOk (cxOf CX0 P w K mg base NL "Nodes.laid" (defScope sLaid) f (.ref c) A' outer s H E).nox pt := ⟨⟨c, rfl, hCd⟩, hBm.ex⟩
  have hps : k.parts.length = k.size := Kd.parts_length k
  refine ⟨_, pss_one (ps_ret (pe_callS (sp := fun σ vs H1 Q1 => ∃ x lm cc, vs = [x, .ref lm] ∧ σ[0]? = some (some (.ref A.p)) ∧ σ[2]? = some (some (.ref D)) ∧ σ[3]? = some (some lv) ∧ KAt H1 x k ∧ TabAt C A D t0 H1 ∧
        H1 lm = some (.ext (LamF lm cc lamLQual lamL.par lamL.body lamL.scope (clL s.heap.objs.size))) ∧ H1 cc = some (.ext (CodeF cc lamLQual)) ∧
        ∀ t' (i : Nat) H', (∃ more, t' = t0 ++ more) → t'.length ≤ t0.length + k.size → Uniq t' → AllDen t' → Den t' i k → TabAt C A D t' H' → Kx (S5 A D) H1 H' → Q1 (.int (i : Nat)) H')
      rfl mB FB.kp ?run (pa_cons (pv 1) (pa_cons (pe_lam CO rfl rfl) pa_nil)))), ?_⟩
  case run =>
    intro pins σ H1 s1 vs us Q1 I rv h
    obtain ⟨x, lm, cc, rfl, s0, s2, s3, kx, hT1, hlm, hcc, q1⟩ := h
    -- the cells
    obtain ⟨m, hns, hloc⟩ := I.loc
    have nofr : ∀ (y : Str) (a : Addr), (cxOf CX0 P w K mg base NL "Nodes.laid" (defScope sLaid) f (.ref c) A' outer s H E).nox.env.cells.lookup y = some a → s.heap.objs.size < a → a ∉ frs (cxOf CX0 P w K mg base NL "Nodes.laid" (defScope sLaid) f (.ref c) A' outer s H E).nox.stack := fun y a e lt z => by
      rcases List.mem_cons.mp (I.stkSub _ z) with u | u
      · exact I.cne y a e u
      · obtain ⟨_, o, ho, _⟩ := I.ok.funs.mem u
        exact absurd (Nat.lt_trans lt (Heap.lt_size ho)) (Nat.lt_irrefl _)
    have cellOf : ∀ (j : Nat) (y : Str) (vv : V) (a : Addr), NL[j]? = some y → σ[j]? = some (some vv) → (defScope sLaid).names.lookup y = some .cell → (cxOf CX0 P w K mg base NL "Nodes.laid" (defScope sLaid) f (.ref c) A' outer s H E).nox.env.cells.lookup y = some a → ∃ u, RelV vv u ∧ s1.heap.IsCell a (some u) ∧ H1 a = none := fun j y vv a e1 e2 e3 e4 => by
      obtain ⟨u, ru, lk⟩ := hloc j y vv e1 e2 (Or.inr (Or.inl e3))
      rcases lk with ⟨z, _⟩ | ⟨_, c0, hc0, hv0⟩
      · have z' : (defScope sLaid).names.lookup y = some .local := z
        rw [e3] at z'; cases z'
      · rw [e4] at hc0; cases hc0
        exact ⟨u, ru, hv0, I.freeC _ _ e4⟩
    obtain ⟨u1, ru1, ⟨o1, g1, d1⟩, f1⟩ := cellOf 0 "self" _ (s.heap.objs.size + 1) rfl s0 rfl rfl
    obtain ⟨u2, ru2, ⟨o2, g2, d2⟩, f2⟩ := cellOf 2 "known" _ (s.heap.objs.size + 1 + 1) rfl s2 rfl rfl
    obtain ⟨u3, ru3, ⟨o3, g3, d3⟩, f3⟩ := cellOf 3 "level" _ (s.heap.objs.size + 1 + 1 + 1) rfl s3 rfl rfl
    have n1 := nofr "self" (s.heap.objs.size + 1) rfl (by omega)
    have n2 := nofr "known" (s.heap.objs.size + 1 + 1) rfl (by omega)
    have n3 := nofr "level" (s.heap.objs.size + 1 + 1 + 1) rfl (by omega)
    have hmkS : ¬ S5 A D lm := hT1.notS hlm (by intro xs z; cases z) (by intro xs z; cases z) (by intro _ _ _ z; cases z)
    have hccS : ¬ S5 A D cc := hT1.notS hcc (by intro xs z; cases z) (by intro xs z; cases z) (by intro _ _ _ z; cases z)
    refine FB.run (k := 4) scBuilt hr I.env0 bB rv rfl fun cdvB hrB => ?_
    refine built_body2 (T := List Fm) (S := S5 A D) (J := fun t H => TabAt C A D t H ∧ Uniq t ∧ AllDen t) (le := fun a b => ∃ more, b = a ++ more) (R := fun t y u => ∃ i : Nat, y = .int (i : Nat) ∧ Den t i u) (sz := fun t => t.length - t0.length) (t0 := t0) (mk := lm)
      (r := fun f' vs' H' Q' => f' = lm ∧ ∃ y t fm, vs' = [y] ∧ H' lm = some (.ext (LamF lm cc lamLQual lamL.par lamL.body lamL.scope (clL s.heap.objs.size))) ∧ H' cc = some (.ext (CodeF cc lamLQual)) ∧ FmAt H' y fm ∧ TabAt C A D t H' ∧ t.length ≤ 200000 ∧ ∀ H2, Kx (S4 A D) H' H2 → TabAt C A D (layF t fm).2 H2 → Q' (.int (((layF t fm).1 : Nat) : Int)) H2)
      hrB (by decide) G bG kG mG mr ml ?hc ?hf ⟨_, _, _, _, _, _, hlm⟩ hmkS kx (by omega) (fun t H h => h.1.held) (fun t H H' h e k => ⟨h.1.keep e k, h.2⟩) (fun t => ⟨[], by simp⟩) (fun a b c h1 h2 => ?ltr) (fun t t' y u h1 h2 => ?hR) ⟨hT1, hU, hA⟩ (Nat.sub_self _) ?hm ?hq
    case ltr =>
      obtain ⟨m1, rfl⟩ := h1
      obtain ⟨m2, rfl⟩ := h2
      exact ⟨m1 ++ m2, by simp⟩
    case hR =>
      obtain ⟨m1, rfl⟩ := h1
      obtain ⟨i, e, d⟩ := h2
      exact ⟨i, e, d.mono⟩
    case hf =>
      rintro f' vs' H' Q' ⟨rfl, y, t, fm, rfl, h1, _⟩
      exact ⟨_, _, _, _, _, _, h1⟩
    case hm =>
      intro t u H2 y Q' hle hsz hK hJ hin ha hq
      obtain ⟨m1, rfl⟩ := hle
      have hlen : (t0 ++ m1).length ≤ 200000 := by
        have : (t0 ++ m1).length - t0.length < k.parts.length := hsz
        rw [hps] at this; omega
      have go : ∀ fm, FmAt H2 y fm → FmOf (t0 ++ m1) u fm → lm = lm ∧ ∃ y' t fm, [y] = [y'] ∧ H2 lm = some (.ext (LamF lm cc lamLQual lamL.par lamL.body lamL.scope (clL s.heap.objs.size))) ∧ H2 cc = some (.ext (CodeF cc lamLQual)) ∧ FmAt H2 y' fm ∧ TabAt C A D t H2 ∧ t.length ≤ 200000 ∧ ∀ H3, Kx (S4 A D) H2 H3 → TabAt C A D (layF t fm).2 H3 → Q' (.int (((layF t fm).1 : Nat) : Int)) H3 := fun fm h1 h2 => by
        obtain ⟨a1, a2, a3, a4, a5⟩ := layF_ok hJ.2.1 hJ.2.2 h2
        refine ⟨rfl, y, t0 ++ m1, fm, rfl, hK _ _ hlm hmkS, hK _ _ hcc hccS, h1, hJ.1, hlen, fun H3 K3 T3 => ?_⟩
        exact hq (layF (t0 ++ m1) fm).2 _ H3 a1 (by omega) (fun b o e n => K3 b o e fun z => n (.inl z)) ⟨T3, a3, a4⟩ ⟨_, rfl, a5⟩
      cases u with
      | num =>
        obtain ⟨p, rfl, hp⟩ := ha
        exact go .num ⟨p, rfl, hp⟩ rfl
      | blk n =>
        obtain ⟨p, rfl, hp⟩ := ha
        exact go (.blk (some n)) ⟨p, rfl, hp⟩ rfl
      | two g' a b =>
        obtain ⟨p, xa, xb, rfl, hp, ⟨i, rfl, da⟩, ⟨j, rfl, db⟩⟩ := ha
        exact go (.two g' i j) ⟨p, rfl, hp⟩ ⟨i, j, rfl, da, db⟩
    case hq =>
      intro t y H' hle hsz hK hJ hR
      obtain ⟨i, rfl, d⟩ := hR
      obtain ⟨m1, rfl⟩ := hle
      refine q1 (t0 ++ m1) i H' ⟨m1, rfl⟩ ?_ hJ.2.1 hJ.2.2 d hJ.1 hK
      have : (t0 ++ m1).length - t0.length ≤ k.parts.length := hsz
      rw [hps] at this
      omega
    case hc =>
      rintro f' pins' σ' H' s' vs' us' Q' I' rv' ⟨rfl, y, t, fm, rfl, h1, h2, hy, hTt, hlt, hq⟩
      have noex : ∀ b : Addr, b ∉ ([] : List Addr) := fun b z => absurd z List.not_mem_nil
      have c1 : s'.heap.IsCell (s.heap.objs.size + 1) (some u1) := ⟨o1, I'.base.keep _ _ g1 f1 n1 (noex _), d1⟩
      have c2 : s'.heap.IsCell (s.heap.objs.size + 1 + 1) (some u2) := ⟨o2, I'.base.keep _ _ g2 f2 n2 (noex _), d2⟩
      have c3 : s'.heap.IsCell (s.heap.objs.size + 1 + 1 + 1) (some u3) := ⟨o3, I'.base.keep _ _ g3 f3 n3 (noex _), d3⟩
      have k1 : H' (s.heap.objs.size + 1) = none := I'.base.free _ _ g1 f1 (noex _)
      have k2 : H' (s.heap.objs.size + 1 + 1) = none := I'.base.free _ _ g2 f2 (noex _)
      have k3 : H' (s.heap.objs.size + 1 + 1 + 1) = none := I'.base.free _ _ g3 f3 (noex _)
      refine call_lam (k := 3) (N := ["part", "self", "known", "level"]) (σ₀ := [some y, some (.ref A.p), some (.ref D), some lv]) I' rfl hrB (scLamL _) h1 h2 (fun x a e => ?_) (fun name pm ctv => ?_) rv' rfl (fun i x v h1 h2 => ?_) fun hrL => ?_
      · have z := PySem.mem_of_lookup e
        simp only [clL, List.mem_cons, List.not_mem_nil, or_false, Prod.mk.injEq] at z
        rcases z with ⟨_, rfl⟩ | ⟨_, rfl⟩ | ⟨_, rfl⟩
        · exact ⟨k1, _, c1⟩
        · exact ⟨k3, _, c3⟩
        · exact ⟨k2, _, c2⟩
      · obtain ⟨u, rfl, _⟩ := vals1 rv'
        rfl
      · match i, h1, h2 with
        | 0, h1, h2 =>
          cases (Option.some.inj h1)
          cases (Option.some.inj (Option.some.inj h2))
          exact .inl ⟨0, rfl, rfl⟩
        | 1, h1, h2 =>
          cases (Option.some.inj h1)
          cases (Option.some.inj (Option.some.inj h2))
          exact .inr ⟨rfl, _, _, rfl, ru1, c1⟩
        | 2, h1, h2 =>
          cases (Option.some.inj h1)
          cases (Option.some.inj (Option.some.inj h2))
          exact .inr ⟨rfl, _, _, rfl, ru2, c2⟩
        | 3, h1, h2 =>
          cases (Option.some.inj h1)
          cases (Option.some.inj (Option.some.inj h2))
          exact .inr ⟨rfl, _, _, rfl, ru3, c3⟩
      · obtain ⟨b, rfl, hb⟩ := hy
        refine ⟨_, pe_meth (pv 1) N.cl M GP (hrL.mono (by decide)) bP .nil pass0 (pa_cons (pv 0) (pa_cons (pv 2) (pa_cons (pv 3) pa_nil))), ?_⟩
        refine ⟨_, rfl, A.p, A.dx, _, rfl, hTt.nod.ins, by unfold fldsOf; rfl, _, rfl, _, rfl, _, rfl, A, D, t, fm, b, lv, rfl, hb, hTt, hlt, fun H2 K2 T2 => hq H2 K2 T2⟩
  refine ⟨_, rfl, ps, hLT, fun lm cc H4 hKp hlm0 hlm hcc hT4 _ => ?_⟩
  have tk4 : Tk H H4 := fun b xs e => hKp b _ e (ne_of e hLT.at_ (by intro z; cases z))
  have nS : ¬ S5 A D pt := hT.notS hLT.at_ (by intro xs z; cases z) (by intro xs z; cases z) (by intro _ _ _ z; cases z)
  have hT1 : TabAt C A D t0 H4 := hT.keep (fun b hb => by
    cases e : H b with
    | none => exact absurd e (hT.held b hb).1
    | some o => exact hKp b o e fun z => nS (by rw [← z]; exact hb)) tk4
  refine ⟨v, lm, cc, rfl, rfl, rfl, rfl, hk.mono tk4, hT1, hlm, hcc, fun t' i H' h1 h2 h3 h4 h5 h6 h7 => ?_⟩
  obtain ⟨ps', hT4⟩ := hT4
  have nS4 : ¬ S5 A D pt := nS
  refine q t' i H' h1 h2 h3 h4 h5 h6 (fun b o e n m => h7 b o (hKp b o e m) n) ⟨ps', h7 _ _ hT4.at_ nS, hT4.ok, hT4.known.imp id fun ⟨c', a, b⟩ => ⟨c', a, ?_⟩⟩
  exact h7 _ _ b (hT1.notS b (by intro xs z; cases z) (by intro xs z; cases z) (by intro _ _ _ z; cases z))
end
end K1

set_option Elab.async false
set_option maxRecDepth 100000
namespace K1
open PySem L2 Wk
theorem iteN {c : Bool} {A B : Prop} (h : c = false) (x : B) : if c = true then A else B := by rw [if_neg (by rw [h]; exact Bool.false_ne_true)]; exact x
def fmHd : Fm → Str
  | .num => "number"
  | .blk _ => "blank"
  | .two f _ _ => tag f
theorem fm_hd (f : Fm) : atI (fmV f) 0 = some (.str (fmHd f)) := by
  cases f with
  | num => rfl
  | blk o => cases o <;> rfl
  | two f a b => rfl
theorem paired_get2 {α β : Type} {F : α → β → Prop} : ∀ {a : List α} {b : List β} {i : Nat} {y : β}, Paired F a b → b[i]? = some y → ∃ x, a[i]? = some x ∧ F x y
  | _, _, _, _, .nil, h => by simp at h
  | x :: a, y' :: b, 0, y, .cons h _, e => by simp at e; subst e; exact ⟨x, rfl, h⟩
  | x :: a, y' :: b, i + 1, y, .cons _ r, e => by
    obtain ⟨x', e', h'⟩ := paired_get2 r (by simpa using e)
    exact ⟨x', by simpa using e', h'⟩
def PrAt (H : Hp) (v : V) (p : Nat × Nat) : Prop := ∃ b, v = .ref b ∧ H b = some (.tup [.int (p.1 : Nat), .int (p.2 : Nat)])
theorem PrAt.mono {H H' : Hp} (k : Tk H H') {v : V} {p : Nat × Nat} (h : PrAt H v p) : PrAt H' v p := let ⟨b, e, h⟩ := h; ⟨b, e, k _ _ h⟩
/-- the dict of what was put in -/
structure PM (n : Nat) (kvs : List (Key × V)) (m : PutM) (dom : List Nat) : Prop where
  val : ∀ l : Nat, valV kvs (Sum.inl (l : Int)) = (m l).map fun r => V.int ((r : Nat) : Int)
  len : kvs.length = dom.length
  nd : dom.Nodup
  lt : ∀ x ∈ dom, x < n
  mem : ∀ l, m l = none → l ∉ dom
theorem PM.le {n : Nat} {kvs : List (Key × V)} {m : PutM} {dom : List Nat} (h : PM n kvs m dom) : dom.length ≤ n := few_below n dom h.nd h.lt
theorem PM.put {n : Nat} {kvs : List (Key × V)} {m : PutM} {dom : List Nat} (h : PM n kvs m dom) {l r : Nat} (e : m l = none) (hl : l < n) : PM n (putK kvs (Sum.inl (l : Int)) (.int (r : Nat))) (putM m l r) (l :: dom) := by
  have hv : valV kvs (Sum.inl (l : Int)) = none := by rw [h.val, e]; rfl
  refine ⟨fun j => ?_, by rw [putK_new _ hv, List.length_append, h.len]; simp, List.nodup_cons.mpr ⟨h.mem l e, h.nd⟩, fun x hx => ?_, fun j hj => ?_⟩
  · rw [valV_put]
    unfold putM
    by_cases q : j = l
    · subst q; rw [if_pos rfl, if_pos rfl]; rfl
    · rw [if_neg (fun z => q (by injection z with z; omega)), if_neg q, h.val]
  · rcases List.mem_cons.mp hx with rfl | hx
    · exact hl
    · exact h.lt x hx
  · unfold putM at hj
    by_cases q : j = l
    · rw [if_pos q] at hj; cases hj
    · rw [if_neg q] at hj
      intro z
      rcases List.mem_cons.mp z with z | z
      · exact q z
      · exact h.mem j hj z
abbrev NBe : List Str := ["self", "wide", "kind", "kept", "put_in", "waiting", "both", "left", "right", "form"]
section
variable {P : Program} {w : World} {K : PySem.W.Frag} {mg : Str → Option Value} {base : Heap} {f : Addr} {fd : FuncData} {C : Addr}
def spBecomes (C : Addr) : Sp := fun vs H Q _ => ∃ A t dk x y, ∃ l r : Nat, vs = [.ref A.p, .int (l : Nat), .int (r : Nat), .ref dk] ∧ NodAt C A t H ∧ H dk = some (.dK []) ∧ t.length ≤ 200000 ∧ Uniq t ∧ AllDen t ∧ Den t l x ∧ Den t r y ∧ ∀ H', Same H H' → Q (.bl (fit x y)) H'
theorem scBecomes : FnScope NBe ["self", "wide", "kind", "kept"] (defScope sBecomes) := ⟨rfl, rfl, rfl, by decide +kernel, rfl, by decide +kernel, by decide +kernel⟩
set_option maxHeartbeats 8000000 in
theorem ok_becomes (F : Fun K "becomes" "Nodes.becomes" sBecomes f fd) (N : NCls K C) (mli : mg "list" = none) (mz : mg "zip" = none) : FnOk P w K mg base CX0 1 f fd ["self", "wide", "kind", "kept"] (spBecomes C) := by
  refine F.ok scBecomes (fun vs H Q E h => ?_) (fun cdv A' outer s H vs Q E hr h => ?_)
  · obtain ⟨A, t, dk, x, y, l, r, rfl, _⟩ := h
    rfl
  obtain ⟨A, t, dk, x, y, l0, r0, rfl, hN, hdk, hl, hU, hA, d1, d2, q⟩ := h
  have nd := scBecomes.nd
  have hu := hu_of hr
  refine ⟨_, pss_cons (ps_set (i := 4) nd rfl (Or.inl rfl) pe_dnewK)
    (pss_cons (ps_set (i := 5) nd rfl (Or.inl rfl) (pe_lst (pa_cons (pe_tup (pa_cons (pv 1) (pa_cons (pv 2) pa_nil))) pa_nil)))
    (pss_cons (ps_while PassesOwn.never (pt_truth (pv 5) (fun _ => rfl))
      (pss_cons (ps_set (i := 6) nd rfl (Or.inl rfl) (pe_bm0 PySem.F.plainAttrs_list PySem.F.slot_list_pop PySem.F.type_list_pop mt_pop (pv 5)))
      (pss_cons (ps_set (i := 7) nd rfl (Or.inl rfl) (pe_ix ix_tup (pv 6) pe_int (fun _ _ => rfl)))
      (pss_cons (ps_set (i := 8) nd rfl (Or.inl rfl) (pe_ix ix_tup (pv 6) pe_int (fun _ _ => rfl)))
      (pss_cons (ps_if (pt_cmp (pc_din hu (pv 7) (pv 4))) (pss_cons (ps_if (pt_cmpR op_ne (pe_dget hu (pv 4) (pv 7) (fun _ _ => rfl)) (pv 8) (nomark _)) (pss_one (ps_ret pe_bl)) pss_nil) (pss_one ps_continue)) pss_nil)
      (pss_cons (ps_dput hu (pv 4) (pv 7) (pv 8) rfl)
      (pss_cons (ps_set (i := 9) nd rfl (Or.inl rfl) (pe_ix ix_list (pe_fld (pv 0) rfl) (pv 7) (fun _ _ => rfl)))
      (pss_one (ps_if (pt_cmpR op_eq (pe_ix ix_tup (pv 9) pe_int (fun _ _ => rfl)) pe_str (nomark _))
        (pss_one (ps_if (PW.pt (pw_and (pt_cmp (pc_din hu (pv 7) (pv 3))) (pw_and1 (pt_cmpR op_ne (pv 7) (pv 8) (nomark _))))) (pss_one (ps_ret pe_bl)) pss_nil))
        (pss_one (ps_if (pt_cmpR op_ne (pe_ix ix_tup (pv 9) pe_int (fun _ _ => rfl)) (pe_ix ix_tup (pe_ix ix_list (pe_fld (pv 0) rfl) (pv 8) (fun _ _ => rfl)) pe_int (fun _ _ => rfl)) (nomark _)) (pss_one (ps_ret pe_bl))
          (pss_one (ps_expr (pe_bm PySem.F.plainAttrs_list PySem.F.slot_list_extend PySem.F.type_list_extend mt_extend (pv 5) (pa_cons (pe_lzip rfl rfl mli rfl mz (pe_slice sl_tup (pv 9) (po_some pe_int) po_none) (pe_slice sl_tup (pe_ix ix_list (pe_fld (pv 0) rfl) (pv 8) (fun _ _ => rfl)) (po_some pe_int) po_none)) pa_nil)))))))))))))))
    (pss_one (ps_ret pe_bl)))), ?_⟩
  have hfit := has_fit (l0 := l0) (r0 := r0) d1 d2
  intro dp hdp
  have S0 : Same H (upd H dp (.dK [])) := Same.new hdp
  refine ⟨_, rfl, _, rfl, (by show 2 ≤ sizeLine; decide), fun tp htp => ⟨(by show 1 ≤ sizeLine; decide), fun lw hlw => ?_⟩⟩
  have S1 : Same (upd H dp (.dK [])) (upd (upd H dp (.dK [])) tp (.tup [.int (l0 : Nat), .int (r0 : Nat)])) := Same.new htp
  have S2 := S1.trans (Same.new (o := .lst [.ref tp]) hlw)
  have ht2 : upd (upd (upd H dp (.dK [])) tp (.tup [.int (l0 : Nat), .int (r0 : Nat)])) lw (.lst [.ref tp]) tp = some (.tup [.int (l0 : Nat), .int (r0 : Nat)]) := (Same.new hlw) _ _ upd_same
  have hd2 := S2 _ _ (upd_same (H := H) (a := dp) (o := .dK []))
  have hw2 : upd (upd (upd H dp (.dK [])) tp (.tup [.int (l0 : Nat), .int (r0 : Nat)])) lw (.lst [.ref tp]) lw = some (.lst [.ref tp]) := upd_same
  have flw : H lw = none := S0.free (S1.free hlw)
  have S3 := S0.trans S2
  generalize upd (upd (upd H dp (.dK [])) tp (.tup [.int (l0 : Nat), .int (r0 : Nat)])) lw (.lst [.ref tp]) = H2 at ht2 hd2 hw2 S3
  refine ⟨(fun μ σ H1 => ∃ kvs m dom ws vs bo lf rg fo, σ = [some (.ref A.p), some (.int (l0 : Nat)), some (.int (r0 : Nat)), some (.ref dk), some (.ref dp), some (.ref lw), bo, lf, rg, fo] ∧ μ = 3 * (t.length - dom.length) + ws.length ∧ Same H H1 ∧ H1 dp = some (.dK kvs) ∧ PM t.length kvs m dom ∧ H1 lw = some (.lst vs) ∧ Paired (PrAt H1) vs ws ∧ Bec t l0 r0 m ws ∧ ws.length ≤ 2 * dom.length + 1),
    ⟨3 * (t.length - 0) + 1, [], fun _ => none, [], [(l0, r0)], [.ref tp], none, none, none, none, rfl, rfl, S3, hd2, ⟨fun l => rfl, rfl, List.nodup_nil, fun x hx => by simp at hx, fun l _ => by simp⟩, hw2, .cons ⟨tp, rfl, ht2⟩ .nil, bec_start d1.lt d2.lt, by simp⟩, ?_⟩
  rintro μ σ H1 ⟨kvs, m, dom, ws, vs, bo, lf, rg, fo, rfl, rfl, hS, hD, pm, hW, kW, B, hwl⟩
  have hdl := pm.le
  refine ⟨_, rfl, _, .inl ⟨_, SqL.of hW, rfl⟩, ?_⟩
  rcases List.eq_nil_or_concat ws with rfl | ⟨ws', ⟨l, r⟩, rfl⟩
  · cases kW
    refine iteF ?_
    have := hfit.mpr (bec_end hU hA B d1)
    have q' := q H1 hS
    rw [this] at q'
    exact q'
  rw [List.concat_eq_append] at kW B hwl ⊢
  obtain ⟨vs', v, rfl, kW', kv⟩ := paired_snoc_inv kW
  obtain ⟨b, rfl, hb⟩ := kv
  have hlr := B.bd (l, r) (by simp)
  have wl : (ws' ++ [(l, r)]).length = ws'.length + 1 := by simp
  have vl : vs'.length = ws'.length := Paired.length kW'
  refine iteB (by simp) ?_
  refine ⟨_, fun _ _ z => z, ?_⟩
  refine ⟨_, rfl, .inl ⟨rfl, _, SqL.of hW⟩, lw, vs' ++ [.ref b], .ref b, rfl, rfl, hW, (by simp), ?_⟩
  rw [List.dropLast_concat]
  have tkp : Tk H1 (upd H1 lw (.lst vs')) := Tk.lst hW
  have hbp := tkp _ _ hb
  have hWp : upd H1 lw (.lst vs') lw = some (.lst vs') := upd_same
  have hDp : upd H1 lw (.lst vs') dp = some (.dK kvs) := by rw [upd_ne (ne_of hD hW (by intro z; cases z))]; exact hD
  have hSp : Same H (upd H1 lw (.lst vs')) := hS.upd flw
  have kWp := Paired.imp' (fun _ _ z => PrAt.mono tkp z) kW'
  generalize upd H1 lw (.lst vs') = H3 at hbp hWp hDp hSp kWp ⊢
  refine ⟨_, rfl, b, _, 0, _, rfl, rfl, SqT.of hbp, atI_nat (j := 0) rfl, ?_⟩
  refine ⟨_, rfl, b, _, 1, _, rfl, rfl, SqT.of hbp, atI_nat (j := 1) rfl, ?_⟩
  refine ⟨_, rfl, _, rfl, dp, _, rfl, DGet.k (k := Sum.inl (l : Int)) hDp, _, rfl, ?_⟩
  have hno : (¬ ∃ φ, Sol t φ l0 r0) → ∀ H', Same H H' → Q (.bl false) H' := fun h H' S' => by
    have q' := q H' S'
    have e : fit x y = false := Bool.eq_false_iff.mpr fun z => h (hfit.mp z)
    rw [e] at q'; exact q'
  rw [pm.val]
  cases hm : m l with
  | some r' =>
    refine iteT ?_
    refine ⟨_, rfl, _, rfl, dp, .int (r' : Nat), rfl, ?_, _, rfl, rfl, _, rfl, ?_⟩
    · have := DGet.k (k := Sum.inl (l : Int)) hDp
      rw [pm.val, hm] at this
      exact this
    · by_cases e : r' = r
      · subst e
        refine iteN (by simp) ?_
        exact ⟨3 * (t.length - dom.length) + ws'.length, by omega, kvs, m, dom, ws', vs', _, _, _, _, rfl, rfl, hSp, hDp, pm, hWp, kWp, bec_known B hm, by omega⟩
      · refine iteB (by simp; omega) ?_
        exact hno (bec_clash hU B hm e) H3 hSp
  | none =>
    refine iteF ?_
    have hNp := hN.same hSp
    obtain ⟨fs, e1, r1⟩ := hNp.fms
    obtain ⟨fm, hfm⟩ : ∃ fm, t[l]? = some fm := ⟨t[l], List.getElem?_eq_getElem hlr.1⟩
    obtain ⟨gm', hgm⟩ : ∃ gm', t[r]? = some gm' := ⟨t[r], List.getElem?_eq_getElem hlr.2⟩
    have dlt : dom.length < t.length := by
      have h2 := few_below t.length (l :: dom) (List.nodup_cons.mpr ⟨pm.mem l hm, pm.nd⟩) fun z hz => by
        rcases List.mem_cons.mp hz with rfl | hz
        · exact hlr.1
        · exact pm.lt z hz
      exact h2
    have pm2 := pm.put (r := r) hm hlr.1
    refine ⟨_, rfl, _, rfl, _, rfl, dp, _, rfl, DPut.k (k := Sum.inl (l : Int)) hDp (lt_line (by rw [pm.len]; omega)), ?_⟩
    have tkd : Tk H3 (upd H3 dp (.dK (putK kvs (Sum.inl (l : Int)) (.int (r : Nat))))) := Tk.dic hDp
    have hDd : upd H3 dp (.dK (putK kvs (Sum.inl (l : Int)) (.int (r : Nat)))) dp = some (.dK (putK kvs (Sum.inl (l : Int)) (.int (r : Nat)))) := upd_same
    have hWd : upd H3 dp (.dK (putK kvs (Sum.inl (l : Int)) (.int (r : Nat)))) lw = some (.lst vs') := by rw [upd_ne (ne_of hWp hDp (by intro z; cases z))]; exact hWp
    have hSd : Same H (upd H3 dp (.dK (putK kvs (Sum.inl (l : Int)) (.int (r : Nat))))) := hSp.upd hdp
    have kWd := Paired.imp' (fun _ _ z => PrAt.mono tkd z) kWp
    have hNd := hN.same hSd
    generalize upd H3 dp (.dK (putK kvs (Sum.inl (l : Int)) (.int (r : Nat)))) = H4 at tkd hDd hWd hSd kWd hNd ⊢
    obtain ⟨fs4, e4, r4⟩ := hNd.fms
    obtain ⟨vf, evf, bf, rfl, hbf⟩ := paired_get2 r4 hfm
    obtain ⟨vg, evg, bg, rfl, hbg⟩ := paired_get2 r4 hgm
    have hdk4 := hSd _ _ hdk
    refine ⟨_, rfl, A.p, C, A.dx, fldsOf A, .ref A.L1, rfl, hNd.ins, N.cl, N.n1, fld_forms A, _, rfl, A.L1, _, _, _, rfl, rfl, SqL.of e4, atI_nat evf, ?_⟩
    refine ⟨_, rfl, bf, _, 0, _, rfl, rfl, SqT.of hbf, fm_hd fm, rfl, _, rfl, ?_⟩
    have nxt : ∀ (more : List (Nat × Nat)) (vm : List V) (H5 : Hp), Bec t l0 r0 (putM m l r) (ws' ++ more) → more.length ≤ 2 → Same H H5 → H5 dp = some (.dK (putK kvs (Sum.inl (l : Int)) (.int (r : Nat)))) → H5 lw = some (.lst (vs' ++ vm)) → Paired (PrAt H5) (vs' ++ vm) (ws' ++ more) →
        ∃ m', m' < 3 * (t.length - dom.length) + (ws' ++ [(l, r)]).length ∧ ∃ kvs m dom ws vs bo lf rg fo, [some (V.ref A.p), some (.int (l0 : Nat)), some (.int (r0 : Nat)), some (.ref dk), some (.ref dp), some (.ref lw), some (.ref b), some (.int (l : Nat)), some (.int (r : Nat)), some (.ref bf)] = [some (.ref A.p), some (.int (l0 : Nat)), some (.int (r0 : Nat)), some (.ref dk), some (.ref dp), some (.ref lw), bo, lf, rg, fo] ∧ m' = 3 * (t.length - dom.length) + ws.length ∧ Same H H5 ∧ H5 dp = some (.dK kvs) ∧ PM t.length kvs m dom ∧ H5 lw = some (.lst vs) ∧ Paired (PrAt H5) vs ws ∧ Bec t l0 r0 m ws ∧ ws.length ≤ 2 * dom.length + 1 :=
      fun more vm H5 b1 b2 b3 b4 b5 b6 => ⟨3 * (t.length - (l :: dom).length) + (ws' ++ more).length, by simp only [List.length_cons, List.length_append, List.length_nil]; omega, _, _, l :: dom, ws' ++ more, vs' ++ vm, _, _, _, _, rfl, rfl, b3, b4, pm2, b5, b6, b1, by simp only [List.length_cons, List.length_append] at hwl ⊢; simp at hwl; omega⟩
    cases fm with
    | blk o =>
      refine iteB (by simp [fmHd]) ?_
      refine ⟨_, rfl, _, rfl, dk, _, rfl, DGet.k (k := Sum.inl (l : Int)) hdk4, _, rfl, iteF ?_⟩
      refine nxt [] [] H4 ?_ (by simp) hSd hDd (by simpa using hWd) (by simpa using kWd)
      exact bec_put B hm [] (by simp) (fun φ _ p hp => by simp at hp) (by rw [hfm]; trivial)
    | num =>
      refine iteN (decide_eq_false (by simp [fmHd]; exact num_ne_blk)) ?_
      refine ⟨_, rfl, bf, _, 0, _, rfl, rfl, SqT.of hbf, fm_hd .num, _, rfl, A.p, C, A.dx, fldsOf A, .ref A.L1, rfl, hNd.ins, N.cl, N.n1, fld_forms A, _, rfl, A.L1, _, _, _, rfl, rfl, SqL.of e4, atI_nat evg, bg, _, 0, _, rfl, rfl, SqT.of hbg, fm_hd gm', rfl, _, rfl, ?_⟩
      have no : gm' ≠ .num → ¬ ∃ φ, Sol t φ l0 r0 := fun z => bec_no_num B hfm (by rw [hgm]; intro y; exact z (Option.some.inj y))
      cases gm' with
      | blk o =>
        refine iteB (by simp [fmHd]; exact num_ne_blk) ?_
        exact hno (no (by intro z; cases z)) H4 hSd
      | two g' a2 c2 =>
        refine iteB (by simp [fmHd]; exact fun z => tag_ne_num g' z.symm) ?_
        exact hno (no (by intro z; cases z)) H4 hSd
      | num =>
        refine iteN (by simp [fmHd]) ?_
        refine ⟨_, rfl, .inl ⟨rfl, _, SqL.of hWd⟩, _, rfl, _, rfl, bf, _, rfl, SqT.of hbf, (by decide), fun p1 hp1 => ?_⟩
        have S5 : Same H4 (upd H4 p1 (.tup (cutV (fmV .num) (some 1) none))) := Same.new hp1
        have hp1' : upd H4 p1 (.tup (cutV (fmV .num) (some 1) none)) p1 = some (.tup []) := upd_same
        generalize upd H4 p1 (.tup (cutV (fmV .num) (some 1) none)) = H5 at S5 hp1'
        refine ⟨_, rfl, A.p, C, A.dx, fldsOf A, .ref A.L1, rfl, S5 _ _ hNd.ins, N.cl, N.n1, fld_forms A, _, rfl, A.L1, _, _, _, rfl, rfl, SqL.of (S5 _ _ e4), atI_nat evg, _, rfl, bg, _, rfl, SqT.of (S5 _ _ hbg), (by decide), fun p2 hp2 => ?_⟩
        have S6 : Same H5 (upd H5 p2 (.tup (cutV (fmV .num) (some 1) none))) := Same.new hp2
        have hp2' : upd H5 p2 (.tup (cutV (fmV .num) (some 1) none)) p2 = some (.tup []) := upd_same
        generalize upd H5 p2 (.tup (cutV (fmV .num) (some 1) none)) = H6 at S6 hp2'
        refine ⟨p1, p2, [], [], rfl, rfl, SqT.of (S6 _ _ hp1'), SqT.of hp2', rfl, by simp, fun lz Ts H7 S7 hlz hTs hL hlen hat => ?_⟩
        have S8 := S5.trans (S6.trans S7)
        have hW7 := S8 _ _ hWd
        obtain rfl : Ts = [] := List.eq_nil_of_length_eq_zero hlen
        refine ⟨lw, lz, vs', _, rfl, rfl, hW7, hL, le_line (by simp; omega), ?_⟩
        refine nxt [] [] _ ?_ (by simp) ((hSd.trans S8).upd flw) ?_ upd_same ?_
        · exact bec_put B hm [] (by simp) (fun φ _ p hp => by simp at hp) (by rw [hfm]; exact hgm)
        · rw [upd_ne (ne_of hDd hWd (by intro z; cases z))]; exact S8 _ _ hDd
        · have := Paired.imp' (fun _ _ z => PrAt.mono (S8.tk.trans (Tk.lst (o := .lst (vs' ++ [])) hW7)) z) kWd
          simpa using this
    | two f' a c =>
      refine iteN (decide_eq_false (by simp [fmHd]; exact tag_ne_blk f')) ?_
      refine ⟨_, rfl, bf, _, 0, _, rfl, rfl, SqT.of hbf, fm_hd (.two f' a c), _, rfl, A.p, C, A.dx, fldsOf A, .ref A.L1, rfl, hNd.ins, N.cl, N.n1, fld_forms A, _, rfl, A.L1, _, _, _, rfl, rfl, SqL.of e4, atI_nat evg, bg, _, 0, _, rfl, rfl, SqT.of hbg, fm_hd gm', rfl, _, rfl, ?_⟩
      have no : (∀ c' d', gm' ≠ .two f' c' d') → ¬ ∃ φ, Sol t φ l0 r0 := fun z => bec_no_two B hfm (fun c' d' y => by rw [hgm] at y; exact z c' d' (Option.some.inj y))
      cases gm' with
      | num =>
        refine iteB (by simp [fmHd]; exact tag_ne_num f') ?_
        exact hno (no (by intro _ _ z; cases z)) H4 hSd
      | blk o =>
        refine iteB (by simp [fmHd]; exact tag_ne_blk f') ?_
        exact hno (no (by intro _ _ z; cases z)) H4 hSd
      | two g' a2 c2 =>
        by_cases eg : f' = g'
        · subst eg
          refine iteN (by simp [fmHd]) ?_
          have kl := two_kids hA hlr.1 hfm
          have kr := two_kids hA hlr.2 hgm
          refine ⟨_, rfl, .inl ⟨rfl, _, SqL.of hWd⟩, _, rfl, _, rfl, bf, _, rfl, SqT.of hbf, (by show ¬ (HT.sIx 3 0 (some 1) = 0 ∧ HT.sIx 3 3 none = 3); decide), fun p1 hp1 => ?_⟩
          have S5 : Same H4 (upd H4 p1 (.tup (cutV (fmV (.two f' a c)) (some 1) none))) := Same.new hp1
          have hp1' : upd H4 p1 (.tup (cutV (fmV (.two f' a c)) (some 1) none)) p1 = some (.tup [.int (a : Nat), .int (c : Nat)]) := upd_same
          generalize upd H4 p1 (.tup (cutV (fmV (.two f' a c)) (some 1) none)) = H5 at S5 hp1'
          refine ⟨_, rfl, A.p, C, A.dx, fldsOf A, .ref A.L1, rfl, S5 _ _ hNd.ins, N.cl, N.n1, fld_forms A, _, rfl, A.L1, _, _, _, rfl, rfl, SqL.of (S5 _ _ e4), atI_nat evg, _, rfl, bg, _, rfl, SqT.of (S5 _ _ hbg), (by show ¬ (HT.sIx 3 0 (some 1) = 0 ∧ HT.sIx 3 3 none = 3); decide), fun p2 hp2 => ?_⟩
          have S6 : Same H5 (upd H5 p2 (.tup (cutV (fmV (.two f' a2 c2)) (some 1) none))) := Same.new hp2
          have hp2' : upd H5 p2 (.tup (cutV (fmV (.two f' a2 c2)) (some 1) none)) p2 = some (.tup [.int (a2 : Nat), .int (c2 : Nat)]) := upd_same
          generalize upd H5 p2 (.tup (cutV (fmV (.two f' a2 c2)) (some 1) none)) = H6 at S6 hp2'
          refine ⟨p1, p2, [.int (a : Nat), .int (c : Nat)], [.int (a2 : Nat), .int (c2 : Nat)], rfl, rfl, SqT.of (S6 _ _ hp1'), SqT.of hp2', rfl, by simp, fun lz Ts H7 S7 hlz hTs hL hlen hat => ?_⟩
          have S8 := S5.trans (S6.trans S7)
          have hW7 := S8 _ _ hWd
          obtain ⟨T1, T2, rfl⟩ : ∃ T1 T2, Ts = [T1, T2] := by
            match Ts, hlen with
            | [T1, T2], _ => exact ⟨T1, T2, rfl⟩
          have g1 := hat 0 T1 _ _ rfl rfl rfl
          have g2 := hat 1 T2 _ _ rfl rfl rfl
          refine ⟨lw, lz, vs', _, rfl, rfl, hW7, hL, le_line (by simp; omega), ?_⟩
          have tk9 : Tk H7 (upd H7 lw (.lst (vs' ++ [T1, T2].map V.ref))) := Tk.lst hW7
          refine nxt [(a, a2), (c, c2)] [.ref T1, .ref T2] _ ?_ (by simp) ((hSd.trans S8).upd flw) ?_ upd_same ?_
          · refine bec_put B hm _ (fun p hp => ?_) (fun φ hs p hp => ?_) (by rw [hfm]; exact ⟨a2, c2, hgm, by simp, by simp⟩)
            · simp only [List.mem_cons, List.not_mem_nil, or_false] at hp
              rcases hp with rfl | rfl
              · exact ⟨kl.1, kr.1⟩
              · exact ⟨kl.2, kr.2⟩
            · obtain ⟨c', d', e', s1, s2⟩ := hs.two hfm
              rw [hgm] at e'
              cases e'
              simp only [List.mem_cons, List.not_mem_nil, or_false] at hp
              rcases hp with rfl | rfl
              · exact s1
              · exact s2
          · rw [upd_ne (ne_of hDd hWd (by intro z; cases z))]; exact S8 _ _ hDd
          · exact paired_app (Paired.imp' (fun _ _ z => PrAt.mono (S8.tk.trans tk9) z) kWd) (.cons ⟨T1, rfl, tk9 _ _ g1⟩ (.cons ⟨T2, rfl, tk9 _ _ g2⟩ .nil))
        · refine iteB (by simp [fmHd]; exact fun z => eg (tag_inj z)) ?_
          exact hno (no (by intro _ _ z; cases z; exact eg rfl)) H4 hSd
end
end K1

set_option Elab.async false
set_option maxRecDepth 100000
namespace K1
open PySem L2 Wk
section
variable {P : Program} {w : World} {K : PySem.W.Frag} {mg : Str → Option Value} {base : Heap} {f aI aL aB pt : Addr} {fd dI dL dB : FuncData} {C : Addr} {tk : Tok}
def spFits (pt : Addr) : Sp := fun vs H Q _ => ∃ v1 v2 k1 k2 ps, vs = [v1, v2] ∧ KAt H v1 k1 ∧ KAt H v2 k2 ∧ k1.size ≤ 50000 ∧ k2.size ≤ 50000 ∧ LamTab H pt lamL.pos lamLQual ps ∧ ∀ H', Kp pt H H' → (∃ ps', LamTab H' pt lamL.pos lamLQual ps') → Q (.bl (fit k1 k2)) H'
theorem scFits : FnScope ["wide", "kind", "table", "known"] ["wide", "kind"] (defScope sFits) := ⟨rfl, rfl, rfl, by decide +kernel, rfl, by decide +kernel, by decide +kernel⟩
set_option maxHeartbeats 8000000 in
theorem ok_fits (F : Fun K "fits" "fits" sFits f fd) (N : NCls K C) (mC : mg "Nodes" = some (.ref C)) (MK : Mk K C aI) (GI : FnOk P w K mg base CX0 1 aI dI ["self"] (spInit C)) (bI : Binds K dI ["self"] [])
    (ML : Meth K C "laid" aL) (GL : FnOk P w K mg base CX0 6 aL dL NL (spLaid C pt)) (bL : Binds K dL NL [.int 1 tk])
    (MB : Meth K C "becomes" aB) (GB : FnOk P w K mg base CX0 1 aB dB ["self", "wide", "kind", "kept"] (spBecomes C)) (bB : Binds K dB ["self", "wide", "kind", "kept"] []) :
    FnOk P w K mg base CX0 7 f fd ["wide", "kind"] (spFits pt) := by
  refine F.ok (k := 6) scFits (fun vs H Q E h => ?_) (fun cdv A' outer s H vs Q E hr h => ?_)
  · obtain ⟨v1, v2, k1, k2, ps, rfl, _⟩ := h
    rfl
  obtain ⟨v1, v2, k1, k2, ps, rfl, hk1, hk2, hz1, hz2, hLT, q⟩ := h
  have nd := scFits.nd
  have dv : Vals [V.int 1] [Value.int 1 tk] := .cons ⟨tk, rfl⟩ .nil
  refine ⟨_, pss_cons (ps_set (i := 2) nd rfl (Or.inl rfl) (pe_make0 MK GI (hr.mono (by decide)) rfl mC bI .nil pass0))
    (pss_cons (ps_set (i := 3) nd rfl (Or.inl rfl) pe_dnewT)
    (pss_one (ps_ret (pe_meth (pv 2) N.cl MB GB (hr.mono (by decide)) bB .nil pass0 (pa_cons (pe_meth (pv 2) N.cl ML GL hr bL dv pass0 (pa_cons (pv 0) (pa_cons (pv 3) pa_nil))) (pa_cons (pe_meth (pv 2) N.cl ML GL hr bL dv pass0 (pa_cons (pv 1) (pa_cons (pv 3) pa_nil))) (pa_cons pe_dnewK pa_nil))))))), ?_⟩
  intro x dx hx hdx hne
  have S0 : Same H (upd (upd H dx (.own x)) x (.ins C dx [])) := (Same.new hdx).upd hx
  have hx0 : upd (upd H dx (.own x)) x (.ins C dx []) x = some (.ins C dx []) := upd_same
  generalize upd (upd H dx (.own x)) x (.ins C dx []) = H0 at S0 hx0
  refine ⟨x, dx, rfl, hx0, fun A H1 ep ed hk hN hnew => ⟨rfl, ?_⟩⟩
  have S1 : Same H H1 := fun b o e => hk b o (S0 b o e) fun z => by rw [z, hx] at e; cases e
  obtain ⟨m1, m2, m3⟩ := hnew
  have o1 : H A.L1 = none := S0.free m1
  have o2 : H A.L2 = none := S0.free m2
  have o3 : H A.L3 = none := S0.free m3
  have op : H A.p = none := by rw [ep]; exact hx
  intro D hD
  have oD : H D = none := S1.free hD
  have S2 : Same H1 (upd H1 D (.dT [])) := Same.new hD
  have hT : TabAt C A D [] (upd H1 D (.dT [])) := ⟨hN.same S2, upd_same⟩
  have S12 := S1.trans S2
  generalize upd H1 D (.dT []) = H2 at S2 hT S12
  have notS : ∀ b o, H b = some o → ¬ S5 A D b := fun b o e => by
    rintro (((rfl | rfl | rfl) | rfl) | rfl)
    · rw [o1] at e; cases e
    · rw [o2] at e; cases e
    · rw [o3] at e; cases e
    · rw [oD] at e; cases e
    · rw [op] at e; cases e
  have hLT2 := LamTab.mono S12 hLT
  refine ⟨_, rfl, A.p, A.dx, _, congrArg V.ref ep.symm, hT.nod.ins, by unfold fldsOf; rfl, ?_⟩
  refine ⟨_, rfl, A.p, A.dx, _, congrArg V.ref ep.symm, hT.nod.ins, by unfold fldsOf; rfl, _, rfl, _, rfl, A, D, [], v1, k1, .int 1, ps, by rw [ep]; rfl, hk1.mono S12.tk, hz1, hT, ?_, AllDen.nil, Nat.zero_le _, hLT2, fun t1 i H3 a1 a2 a3 a4 a5 a6 a7 ⟨ps3, a8⟩ => ?_⟩
  · intro i j f e; simp at e
  have K3 : Kp pt H H3 := fun b o e n => a7 b o (S12 b o e) (notS b o e) n
  have tk3 : Tk H H3 := fun b xs e => K3 b _ e (ne_of e hLT.at_ (by intro z; cases z))
  refine ⟨_, rfl, A.p, A.dx, _, congrArg V.ref ep.symm, a6.nod.ins, by unfold fldsOf; rfl, _, rfl, _, rfl, A, D, t1, v2, k2, .int 1, ps3, by rw [ep]; rfl, hk2.mono tk3, hz2, a6, a3, a4, ?_, a8, fun t2 j H4 b1 b2 b3 b4 b5 b6 b7 b8 => ?_⟩
  · simp at a2; omega
  have K4 : Kp pt H H4 := fun b o e n => b7 b o (K3 b o e n) (notS b o e) n
  intro dk hdk
  have S5' : Same H4 (upd H4 dk (.dK [])) := Same.new hdk
  have hdk' : upd H4 dk (.dK []) dk = some (.dK []) := upd_same
  generalize upd H4 dk (.dK []) = H5 at S5' hdk'
  obtain ⟨more, rfl⟩ := b1
  refine ⟨A, t1 ++ more, dk, k1, k2, i, j, by rw [ep]; rfl, b6.nod.same S5', hdk', ?_, b3, b4, a5.mono, b5, fun H6 S6 => ?_⟩
  · simp at a2 b2 ⊢; omega
  have S56 := S5'.trans S6
  obtain ⟨ps4, b8⟩ := b8
  exact q H6 (fun b o e n => S56 b o (K4 b o e n)) ⟨ps4, LamTab.mono S56 b8⟩
end
end K1

set_option Elab.async false
set_option maxRecDepth 100000
namespace L2
open PySem PySem.Spec PyProof.Rows
/-- the table of a method's code -/
def tabM (x m : Str) (K : PySem.W.Frag) : List (Addr × Addr) := match PySem.W.nsIn K mainGlobals x with
  | some (some (.ref C)) => match PySem.W.findIn K (.ref C) m with
    | some (some (.ref f)) => match K.lookup f with
      | some ⟨_, _, .func fd, _⟩ => match fd.code with
        | .ref c => match K.lookup c with
          | some ⟨_, _, .fields vs, _⟩ => match (vs[11]? : Option Value) with
            | some (.ref P) => [(c, P)]
            | _ => []
          | _ => []
        | _ => []
      | _ => []
    | _ => []
  | _ => []
theorem tabM_is {K : PySem.W.Frag} {x m : Str} {C f c P : Addr} {oc oc' : Value} {od od' : Option Addr} {fd : FuncData} {sl sl' : Array (Option Value)} {vs : Array Value} (a : PySem.W.nsIn K mainGlobals x = some (some (.ref C))) (b : PySem.W.findIn K (.ref C) m = some (some (.ref f))) (l : K.lookup f = some ⟨oc, od, .func fd, sl⟩) (hc : fd.code = .ref c)
    (lc : K.lookup c = some ⟨oc', od', .fields vs, sl'⟩) (hv : (vs[11]? : Option Value) = some (.ref P)) : tabM x m K = [(c, P)] := by
  unfold tabM
  simp only [a, b, l, hc, lc, hv]
/-- as walk_ofT, the tables out of what the head says of the heap -/
theorem walk_ofY {l : PySem.W.OpenLaw} {n k : Nat} {q : Program} {loose : List Str} {XP : (Str → Option Value) → Heap → Prop} {YP : World → Heap → Prop} {d : DefRec} {K : Params → PySem.W.Frag} {CX : CXT} {sp : PySem.W.Frag → Sp} {x : Str} {tabs : PySem.W.Frag → List (Addr × Addr)}
    (hn : l.most = some n) (hn2 : n ≤ sizeLine) (hdf : d.params.defaults = []) (hr : Room k callerA) (hY : ∀ (w : World) (h : Heap), YP w h → (K w.params).In h) (hT : ∀ (w : World) (h : Heap), YP w h → (K w.params).In h → PySem.W.TabsAt (tabs (K w.params)) h)
    (hnt : ∀ w : World, PySem.W.noTabs (K w.params) = true)
    (F : ∀ (w : World) (mg : Str → Option Value) (fa : Addr) (h : Heap), (K w.params).In h → h.Ns mainGlobals mg → mg d.name = some (.ref fa) → ∃ fd : FuncData, (∀ (s : Shared) (u : Value), BindsTo s fd ⟨[u], []⟩ [(x, u)]) ∧
        ∀ base : Heap, (K w.params).In base → base.Ns mainGlobals mg → (∀ q ∈ tabs (K w.params), PySem.W.CodeHd base q.1 q.2) → BMain mg base → FnOk l.prog w (K w.params) mg base CX k fa fd [x] (sp (K w.params)))
    (hsp : ∀ (K : PySem.W.Frag) (H : Hp) (a : Addr) (ns : List Int), ns.length ≤ n → OnlyT (tabs K) H → SqL K H a (ns.map V.int) → sp K [.ref a] H (fun v _ => v = .bl true) fun _ _ _ => False)
    (hCX : ∀ (H : Hp) (s : Shared) (e : Value) (s' : Shared), CX [] H s (fun _ _ _ => False) e s' → False) :
    PySem.W.WalkO q loose XP YP l.row.toRowW d [] (fun f vs => PySem.call f vs) := by
  refine Att.attach_call hn hdf fun w s₀ s₁ mg mb fa o pm cd doc a vs ns G Y ho hd hcd hmg hobj hints hlen hg => ?_
  have KX := hY w _ Y
  obtain ⟨fd, hb, hF⟩ := F w mg fa _ KX G.T.g hmg
  exact law_callT KX G.T.g G.T.b G.T.builtins G.T.nolimit hg (hT w _ Y KX) (hnt w) ⟨G.T.bmain⟩ hobj hints (Nat.le_trans hlen hn2) hr hF hb (fun H hO hS => hsp (K w.params) H a ns hlen hO hS) fun H e s' => hCX H s₁ e s'
end L2

set_option Elab.async false
set_option maxRecDepth 100000
namespace K1
open PySem L2 Wk
theorem cut_ints (ns : List Int) (lo hi : Option Int) : ∃ ms : List Int, cutV (ns.map V.int) lo hi = ms.map V.int ∧ ms.length ≤ ns.length := by
  refine ⟨(ns.drop (HT.sIx (ns.map V.int).length 0 lo)).take (HT.sIx (ns.map V.int).length (ns.map V.int).length hi - HT.sIx (ns.map V.int).length 0 lo), ?_, ?_⟩
  · unfold cutV
    rw [List.map_take, List.map_drop]
  · rw [List.length_take, List.length_drop]; omega
theorem cut24 (ns : List Int) : ∃ ms : List Int, cutV (ns.map V.int) none (some 24) = ms.map V.int ∧ ms.length ≤ 24 := by
  obtain ⟨ms, e, _⟩ := cut_ints ns none (some 24)
  refine ⟨ms, e, ?_⟩
  have h := congrArg List.length e
  rw [List.length_map] at h
  rw [← h]
  unfold cutV
  rw [List.length_take]
  have : HT.sIx (ns.map V.int).length (ns.map V.int).length (some 24) = min 24 (ns.map V.int).length := HT.sIx_nat _ _ 24
  rw [this]
  omega
theorem cut2 (ns : List Int) (lo hi : Option Int) : ∃ ms : List Int, cutV (cutV (ns.map V.int) lo hi) none (some 24) = ms.map V.int ∧ ms.length ≤ 24 := by
  obtain ⟨n1, e1, _⟩ := cut_ints ns lo hi
  rw [e1]
  exact cut24 n1
abbrev halfOf (ns : List Int) : Int := ((ns.map V.int).length : Int) / 2
/-- a place among a list that is not empty -/
theorem at_mod {α : Type} (xs : List α) (i : Int) (h : 0 < xs.length) : ∃ (j : Nat) (x : α), xs[j]? = some x ∧ atI xs (i % (xs.length : Int)) = some x := by
  have h0 : 0 ≤ i % (xs.length : Int) := Int.emod_nonneg _ (by omega)
  have h1 : i % (xs.length : Int) < (xs.length : Int) := Int.emod_lt_of_pos _ (by omega)
  have hj : (i % (xs.length : Int)).toNat < xs.length := by omega
  refine ⟨(i % (xs.length : Int)).toNat, xs[(i % (xs.length : Int)).toNat], List.getElem?_eq_getElem hj, ?_⟩
  have e : i % (xs.length : Int) = (((i % (xs.length : Int)).toNat : Nat) : Int) := by omega
  have q : atI xs (((i % (xs.length : Int)).toNat : Nat) : Int) = some xs[(i % (xs.length : Int)).toNat] := atI_nat (List.getElem?_eq_getElem hj)
  rw [← e] at q
  exact q
abbrev NLw : List Str := ["_law_script", "_law_half", "_law_one", "_law_other", "_law_parts", "_law_filling", "_law_part", "_law_full", "_law_kind", "_law_found", "_law_pairs", "_law_pair", "_law_told"]
/-- the tables of the codes that make lambdas -/
def tabs2 (K : PySem.W.Frag) : List (Addr × Addr) := tabOf "numbered" K ++ tabM "Nodes" "laid" K
section
variable {P : Program} {w : World} {K : PySem.W.Frag} {mg : Str → Option Value} {base : Heap} {f aK aI aF aN aQ aC aT aS pt pt2 c c2 : Addr} {fd dK dI dF dN dQ dC dT dS : FuncData}
/-! ### law -/
def spLaw (K : PySem.W.Frag) : Sp := fun vs H Q _ => ∃ (a : Addr) (ns : List Int), vs = [.ref a] ∧ SqL K H a (ns.map V.int) ∧ ns.length ≤ 63 ∧ (∀ q ∈ tabs2 K, H q.2 = some (.tbl #[])) ∧ ∀ H', Q (.bl true) H'
theorem scLaw : FnScope NLw ["_law_script"] (defScope sLaw) := ⟨rfl, rfl, rfl, by decide +kernel, rfl, by decide +kernel, by decide +kernel⟩
/-- a kind of the law: small -/
structure Sm (k : Kd) : Prop where
  ok : k.ok
  size : k.size ≤ 3000
set_option maxHeartbeats 16000000 in
theorem ok_law (F : Fun K "law" "law" sLaw f fd) (ht : tabs2 K = [(c, pt), (c2, pt2)]) (hne : pt ≠ pt2)
    (GK : FnOk P w K mg base CX0 2 aK dK ["_law_cells"] (spKindBy K)) (bK : Binds K dK ["_law_cells"] []) (kK : PySem.W.keepIn K (.ref aK) = true) (mK : mg "_law_kind_by" = some (.ref aK))
    (GI : FnOk P w K mg base CX0 1 aI dI ["_law_kind"] spParts) (bI : Binds K dI ["_law_kind"] []) (kI : PySem.W.keepIn K (.ref aI) = true) (mI : mg "_law_inside" = some (.ref aI))
    (GF : FnOk P w K mg base CX0 2 aF dF ["_law_kind", "_law_filling"] spFilled) (bF : Binds K dF ["_law_kind", "_law_filling"] []) (kF : PySem.W.keepIn K (.ref aF) = true) (mF : mg "_law_filled" = some (.ref aF))
    (GN : FnOk P w K mg base CX0 5 aN dN ["kind"] (spNumbered pt)) (bN : Binds K dN ["kind"] []) (kN : PySem.W.keepIn K (.ref aN) = true) (mN : mg "numbered" = some (.ref aN))
    (GQ : FnOk P w K mg base CX0 2 aQ dQ ["_law_found"] spIsKind) (bQ : Binds K dQ ["_law_found"] []) (kQ : PySem.W.keepIn K (.ref aQ) = true) (mQ : mg "_law_is_kind" = some (.ref aQ))
    (GC : FnOk P w K mg base CX0 3 aC dC ["_law_kinds"] spCounted) (bC : Binds K dC ["_law_kinds"] []) (kC : PySem.W.keepIn K (.ref aC) = true) (mC : mg "_law_counted" = some (.ref aC))
    (GT : FnOk P w K mg base CX0 7 aT dT ["wide", "kind"] (spFits pt2)) (bT : Binds K dT ["wide", "kind"] []) (kT : PySem.W.keepIn K (.ref aT) = true) (mT : mg "fits" = some (.ref aT))
    (GS : FnOk P w K mg base CX0 200 aS dS ["_law_wide", "_law_kept", "_law_kind"] spInstance) (bS : Binds K dS ["_law_wide", "_law_kept", "_law_kind"] []) (kS : PySem.W.keepIn K (.ref aS) = true) (mS : mg "_law_instance" = some (.ref aS))
    (ml : mg "len" = none) (mi : mg "isinstance" = none) (mb : mg "bool" = none) : FnOk P w K mg base CX0 201 f fd ["_law_script"] (spLaw K) := by
  refine F.ok (k := 200) scLaw (fun vs H Q E h => ?_) (fun cdv A outer s H vs Q E hr h => ?_)
  · obtain ⟨a, ns, rfl, _⟩ := h
    rfl
  obtain ⟨a, ns, rfl, hA, hn, hTb, q⟩ := h
  have nd := scLaw.nd
  have hu := hu_of hr
  have hu3 := hu3_of hr (by decide)
  have hr1 := hr.mono (show 1 ≤ 200 by decide)
  have hr2 := hr.mono (show 2 ≤ 200 by decide)
  have hr3 := hr.mono (show 3 ≤ 200 by decide)
  have hr5 := hr.mono (show 5 ≤ 200 by decide)
  have hr7 := hr.mono (show 7 ≤ 200 by decide)
  have hT0 : LamTab H pt lam.pos lamQual #[] := ⟨hTb (c, pt) (by rw [ht]; simp), trivial, .inl rfl⟩
  have hU0 : H pt2 = some (.tbl #[]) := hTb (c2, pt2) (by rw [ht]; simp)
  refine ⟨_, pss_cons (ps_set (i := 1) nd rfl (Or.inl rfl) (pe_op op_fdiv (pe_callB call_len_seq rfl ml PySem.boot_len (pa_cons (pv 0) pa_nil)) pe_int))
    (pss_cons (ps_set (i := 2) nd rfl (Or.inl rfl) (pe_call GK hr2 rfl mK kK bK .nil pass0 (pa_cons (pe_slice sl_list (pe_slice sl_list (pv 0) po_none (po_some (pv 1))) po_none (po_some pe_int)) pa_nil)))
    (pss_cons (ps_set (i := 3) nd rfl (Or.inl rfl) (pe_call GK hr2 rfl mK kK bK .nil pass0 (pa_cons (pe_slice sl_list (pe_slice sl_list (pv 0) (po_some (pv 1)) po_none) po_none (po_some pe_int)) pa_nil)))
    (pss_cons (ps_set (i := 4) nd rfl (Or.inl rfl) (pe_call GI hr1 rfl mI kI bI .nil pass0 (pa_cons (pv 3) pa_nil)))
    (pss_cons (ps_set (i := 5) nd rfl (Or.inl rfl) pe_dnewK)
    (pss_cons (ps_for PassesOwn.never rfl (pi_list (pe_call GI hr1 rfl mI kI bI .nil pass0 (pa_cons (pv 2) pa_nil))) (pg_name (i := 6) nd rfl (Or.inl rfl))
      (pss_one (ps_if (PW.pt (pw_and (pt_cmpR op_eq (pe_ix ix_tup (pv 6) pe_int (fun _ _ => rfl)) pe_str (nomark _)) (pw_and1 (pt_cmpR op_lt (pe_op op_mod (pe_ix ix_tup (pv 6) pe_int (fun _ _ => rfl)) pe_int) pe_int (nomark _)))))
        (pss_one (ps_dput hu (pv 5) (pe_ix ix_tup (pv 6) pe_int (fun _ _ => rfl)) (pe_ix ix_list (pv 4) (pe_op op_mod (pe_op op_add (pv 1) (pe_ix ix_tup (pv 6) pe_int (fun _ _ => rfl))) (pe_callB call_len_seq rfl ml PySem.boot_len (pa_cons (pv 4) pa_nil))) (fun _ _ => rfl)) rfl))
        pss_nil)))
    (pss_cons (ps_set (i := 7) nd rfl (Or.inl rfl) (pe_call GF hr2 rfl mF kF bF .nil pass0 (pa_cons (pv 2) (pa_cons (pv 5) pa_nil))))
    (pss_cons (ps_for PassesOwn.never rfl (pi_list (pe_lst (pa_cons (pv 2) (pa_cons (pv 3) (pa_cons (pv 7) pa_nil))))) (pg_name (i := 8) nd rfl (Or.inl rfl))
      (pss_cons (ps_set (i := 9) nd rfl (Or.inl rfl) (pe_call GN hr5 rfl mN kN bN .nil pass0 (pa_cons (pv 8) pa_nil)))
      (pss_one (ps_if (PW.pt (pw_or (pt_not (pt_truth (pe_call GQ hr2 rfl mQ kQ bQ .nil pass0 (pa_cons (pv 9) pa_nil)) (fun _ => rfl))) (pw_or1 (pt_cmpR (op_neK hu3) (pv 9) (pe_ix ix_list (pe_call GC hr3 rfl mC kC bC .nil pass0 (pa_cons (pe_lst (pa_cons (pv 8) pa_nil)) pa_nil)) pe_int (fun _ _ => rfl)) (nomark _)))))
        (pss_one (ps_ret pe_bl)) pss_nil))))
    (pss_cons (ps_set (i := 10) nd rfl (Or.inl rfl) (pe_lst (pa_cons (pe_tup (pa_cons (pv 2) (pa_cons (pv 3) pa_nil))) (pa_cons (pe_tup (pa_cons (pv 3) (pa_cons (pv 2) pa_nil))) (pa_cons (pe_tup (pa_cons (pv 2) (pa_cons (pv 7) pa_nil))) pa_nil)))))
    (pss_cons (ps_set (i := 10) nd rfl (Or.inl rfl) (pe_op op_cat (pv 10) (pe_lst (pa_cons (pe_tup (pa_cons (pv 7) (pa_cons (pv 2) pa_nil))) (pa_cons (pe_tup (pa_cons (pv 2) (pa_cons (pv 2) pa_nil))) pa_nil)))))
    (pss_cons (ps_for PassesOwn.never rfl (pi_list (pv 10)) (pg_name (i := 11) nd rfl (Or.inl rfl))
      (pss_cons (ps_set (i := 12) nd rfl (Or.inl rfl) (pe_call GT hr7 rfl mT kT bT .nil pass0 (pa_cons (pe_ix ix_tup (pv 11) pe_int (fun _ _ => rfl)) (pa_cons (pe_ix ix_tup (pv 11) pe_int (fun _ _ => rfl)) pa_nil))))
      (pss_one (ps_if (PW.pt (pw_or (pt_not (pt_truth (pe_callB call_isi rfl mi PyProof.Rows.boot_isinstance (pa_cons (pv 12) (pa_cons (pe_bltn (v := .ty "bool") rfl mb PyProof.Rows.boot_bool rfl) pa_nil))) (fun _ => rfl))) (pw_or1 (pt_cmpR op_ne (pv 12) (pe_call GS hr rfl mS kS bS .nil pass0 (pa_cons (pe_ix ix_tup (pv 11) pe_int (fun _ _ => rfl)) (pa_cons (pe_lst pa_nil) (pa_cons (pe_ix ix_tup (pv 11) pe_int (fun _ _ => rfl)) pa_nil)))) (nomark _)))))
        (pss_one (ps_ret pe_bl)) pss_nil))))
    (pss_one (ps_ret pe_bl)))))))))))), ?_⟩
  refine ⟨_, rfl, a, _, rfl, .inl hA, _, _, rfl, rfl, ⟨by decide, by decide⟩, ?_⟩
  -- the first kind
  obtain ⟨m1, e1, l1⟩ := cut2 ns none (some (halfOf ns))
  refine ⟨_, rfl, _, rfl, _, rfl, a, _, rfl, hA, fun p1 hp1 => ?_⟩
  refine ⟨_, rfl, p1, _, rfl, SqL.of upd_same, fun p2 hp2 => ?_⟩
  refine ⟨p2, m1, rfl, SqL.of (upd_same.trans (congrArg (fun l => some (HO.lst l)) e1)), by omega, fun v1 k1 H1 S1 kv1 ⟨ok1, _⟩ sz1 => ?_⟩
  have Sb : Same H H1 := ((Same.new hp1).upd ((Same.new hp1).free hp2)).trans S1
  clear hp1 hp2 S1
  -- the second kind
  obtain ⟨m2, e2, l2⟩ := cut2 ns (some (halfOf ns)) none
  refine ⟨_, rfl, _, rfl, _, rfl, a, _, rfl, Sb.seq hA, fun p3 hp3 => ?_⟩
  refine ⟨_, rfl, p3, _, rfl, SqL.of upd_same, fun p4 hp4 => ?_⟩
  refine ⟨p4, m2, rfl, SqL.of (upd_same.trans (congrArg (fun l => some (HO.lst l)) e2)), by omega, fun v2 k2 H2 S2 kv2 ⟨ok2, _⟩ sz2 => ?_⟩
  have Sd : Same H1 H2 := ((Same.new hp3).upd ((Same.new hp3).free hp4)).trans S2
  have kv1' := kv1.mono Sd.tk
  have Se := Sb.trans Sd
  clear hp3 hp4 S2 Sd kv1 Sb
  -- its parts
  refine ⟨_, rfl, v2, k2, rfl, kv2, by omega, fun lp ws H3 S3 hlp hlpL kws => ?_⟩
  have kv1'' := kv1'.mono S3.tk
  have kv2' := kv2.mono S3.tk
  have Sf := Se.trans S3
  clear hlp kv1' kv2 S3 Se
  intro ld hld
  have hld0 : H ld = none := Sf.free hld
  have Sg : Same H3 (upd H3 ld (.dK [])) := Same.new hld
  refine ⟨_, rfl, v1, k1, rfl, kv1''.mono Sg.tk, by omega, fun lq zs H4 S4 hlq hlqL kzs => ?_⟩
  have Sh := Sg.trans S4
  have hD4 : H4 ld = some (.dK []) := S4 _ _ upd_same
  have hlp4 := Sh _ _ hlpL
  have kws4 := kws.mono Sh.tk
  have kv14 := kv1''.mono Sh.tk
  have kv24 := kv2'.mono Sh.tk
  have Si := Sf.trans Sh
  clear hlq hld Sg S4 Sh kv1'' kv2' hlpL kws Sf
  have hzs : zs.length ≤ 100 := by rw [Paired.length kzs, Kd.parts_length]; omega
  have hws : 0 < ws.length := by rw [Paired.length kws4, Kd.parts_length]; exact Kd.size_pos k2
  refine ⟨lq, rfl, ⟨_, SqL.of hlqL⟩, for_list (xs := zs) (fun j σ H5 => ∃ p6 kvs φ, σ = [some (.ref a), some (.int (halfOf ns)), some v1, some v2, some (.ref lp), some (.ref ld), p6, none, none, none, none, none, none] ∧ Kp ld H4 H5 ∧ H5 ld = some (.dK kvs) ∧ DAt H5 kvs φ ∧ kvs.length ≤ j ∧ ∀ n t, φ n = some t → t ∈ k2.parts)
    ⟨none, [], fun _ => none, rfl, fun b o h _ => h, hD4, DAt.nil _, Nat.le_refl _, fun n t z => by cases z⟩ (fun j σ H5 hj ⟨_, _, _, _, hK, _⟩ => SqL.of (hK _ _ hlqL (ne_of hlqL hD4 (by intro z; cases z)))) (fun j x σ H5 hx hP => ?_) (fun σ H5 hP => ?_)⟩
  · obtain ⟨p6, kvs, φ, rfl, hK, hD5, kD5, hl5, hφ⟩ := hP
    have tk5 : Tk H4 H5 := fun p xs e => hK _ _ e (ne_of e hD4 (by intro z; cases z))
    have hlp5 : H5 lp = some (.lst ws) := hK _ _ hlp4 (ne_of hlp4 hD4 (by intro z; cases z))
    have hj : j < zs.length := (List.getElem?_eq_some_iff.mp hx).1
    obtain ⟨t, htt, kt⟩ := paired_get kzs hx
    obtain ⟨px, ys, rfl, hpx, ry⟩ := (kt.mono tk5).shape
    refine ⟨_, rfl, px, _, 0, _, rfl, rfl, SqT.of hpx, atI_nat (j := 0) rfl, rfl, _, rfl, ?_⟩
    cases t with
    | num =>
      refine ite2 (fun z => absurd z (by simp [hdS]; decide)) fun _ => ?_
      exact iteF ⟨_, kvs, φ, rfl, hK, hD5, kD5, by omega, hφ⟩
    | two g' t1 t2 =>
      refine ite2 (fun z => absurd z (by simp [hdS, tag_blk])) fun _ => ?_
      exact iteF ⟨_, kvs, φ, rfl, hK, hD5, kD5, by omega, hφ⟩
    | blk n =>
      refine ite2 (fun _ => ?_) fun z => absurd (by simp [hdS]) z
      cases ry
      refine ⟨_, rfl, px, _, 1, _, rfl, rfl, SqT.of hpx, atI_nat (j := 1) rfl, _, _, rfl, rfl, (by show (0 : Int) < 3; decide), _, _, rfl, rfl, _, rfl, ?_⟩
      refine ite2 (fun _ => ?_) fun _ => ⟨_, kvs, φ, rfl, hK, hD5, kD5, by omega, hφ⟩
      obtain ⟨jj, y, hy, hat⟩ := at_mod ws (halfOf ns + n) hws
      obtain ⟨ty, hty, kty⟩ := paired_get kws4 hy
      refine ⟨_, rfl, _, rfl, _, rfl, px, _, 1, _, rfl, rfl, SqT.of hpx, atI_nat (j := 1) rfl, _, _, rfl, rfl, _, rfl, lp, ws, rfl, .inl (SqL.of hlp5), _, _, rfl, rfl, (by show (0 : Int) < (ws.length : Int); omega), lp, ws, _, y, rfl, rfl, SqL.of hlp5, hat, ?_⟩
      refine ⟨_, rfl, _, rfl, px, _, 1, _, rfl, rfl, SqT.of hpx, atI_nat (j := 1) rfl, ld, _, rfl, DPut.k (k := Sum.inl n) hD5 (lt_line (by omega)), ?_⟩
      have tk6 : Tk H5 (upd H5 ld (.dK (putK kvs (Sum.inl n) y))) := Tk.dic hD5
      have hl6 := length_putK kvs (Sum.inl n) y
      refine ⟨_, _, Wk.put φ n ty, rfl, fun b o h hb => by rw [upd_ne hb]; exact hK b o h hb, upd_same, (kD5.mono tk6).put n ((kty.mono tk5).mono tk6), by omega, fun m t z => ?_⟩
      unfold Wk.put at z
      split at z
      · cases z; exact List.mem_of_getElem? hty
      · exact hφ m t z
  obtain ⟨p6, kvs, φ, rfl, hK, hD5, kD5, hl5, hφ⟩ := hP
  have tk5 : Tk H4 H5 := fun p xs e => hK _ _ e (ne_of e hD4 (by intro z; cases z))
  have kv15 := kv14.mono tk5
  have kv25 := kv24.mono tk5
  have Sj : Same H H5 := fun b o h => hK _ _ (Si _ _ h) (fun z => by rw [z, hld0] at h; cases h)
  have hφs : ∀ n t, φ n = some t → t.size ≤ 49 := fun n t z => Nat.le_trans (Kd.parts_size k2 (hφ n t z)) (by omega)
  have hφo : ∀ n t, φ n = some t → t.ok := fun n t z => Kd.parts_ok k2 ok2 (hφ n t z)
  refine ⟨_, rfl, _, rfl, v1, k1, ld, kvs, φ, rfl, kv15, by omega, hD5, kD5, fun v3 H6 S6 kv3 => ?_⟩
  have kv16 := kv15.mono S6.tk
  have kv26 := kv25.mono S6.tk
  have Sk := Sj.trans S6
  have sm1 : Sm k1 := ⟨ok1, by omega⟩
  have sm2 : Sm k2 := ⟨ok2, by omega⟩
  have sm3 : Sm (k1.fill φ) := ⟨Kd.fill_ok hφo k1 ok1, by
    have := Kd.fill_size (m := 49) (by decide) hφs k1
    have h2 : k1.size * 49 ≤ 49 * 49 := Nat.mul_le_mul_right 49 (by omega)
    omega⟩
  clear hφs hφo hφ kD5 hD5 hK tk5 kv14 kv24 Si hzs hws hlp4 kws4 kzs hlqL hD4 Sj S6 kv15 kv25 hld0
  generalize k1.fill φ = k3 at kv3 sm3
  have hT6 := LamTab.mono Sk hT0
  -- each kind counted anew
  refine ⟨_, rfl, _, rfl, _, rfl, (by show 3 ≤ sizeLine; decide), fun l3 hl3 => ?_⟩
  have S7 : Same H6 (upd H6 l3 (.lst [v1, v2, v3])) := Same.new hl3
  have hl37 : upd H6 l3 (.lst [v1, v2, v3]) l3 = some (.lst [v1, v2, v3]) := upd_same
  have hT7 := LamTab.mono S7 hT6
  have hU7 := S7 _ _ (Sk _ _ hU0)
  have kv17 := kv16.mono S7.tk
  have kv27 := kv26.mono S7.tk
  have kv37 := kv3.mono S7.tk
  generalize upd H6 l3 (.lst [v1, v2, v3]) = H7 at S7 hl37 hT7 hU7 kv17 kv27 kv37 ⊢
  clear hl3 S7 hT6 kv16 kv26 kv3 Sk
  have hall : ∀ (i : Nat) (x : V), [v1, v2, v3][i]? = some x → ∃ kx, KAt H7 x kx ∧ Sm kx := fun i x h => by
    match i, h with
    | 0, h => cases (Option.some.inj h); exact ⟨k1, kv17, sm1⟩
    | 1, h => cases (Option.some.inj h); exact ⟨k2, kv27, sm2⟩
    | 2, h => cases (Option.some.inj h); exact ⟨k3, kv37, sm3⟩
  have hlp : l3 ≠ pt := ne_of hl37 hT7.at_ (by intro z; cases z)
  refine ⟨l3, rfl, ⟨_, SqL.of hl37⟩, for_list (xs := [v1, v2, v3]) (fun j σ H8 => ∃ kd fo, σ = [some (.ref a), some (.int (halfOf ns)), some v1, some v2, some (.ref lp), some (.ref ld), p6, some v3, kd, fo, none, none, none] ∧ Kp pt H7 H8 ∧ ∃ ps, LamTab H8 pt lam.pos lamQual ps)
    ⟨none, none, rfl, fun b o h _ => h, _, hT7⟩ (fun j σ H8 hj ⟨_, _, _, hK, _⟩ => SqL.of (hK _ _ hl37 hlp)) (fun j x σ H8 hx hP => ?_) (fun σ H8 hP => ?_)⟩
  · obtain ⟨kd, fo, rfl, hK8, ps8, hT8⟩ := hP
    obtain ⟨kx, kvx, smx⟩ := hall j x hx
    have kvx8 := kvx.mono (hK8.tk hT7.at_)
    refine ⟨_, rfl, x, kx, ps8, rfl, kvx8, by have := smx.size; omega, hT8, fun y H9 hK9 hT9 ky => ?_⟩
    have kvx9 := kvx8.mono (hK9.tk hT8.at_)
    have hsz : (renum kx).size = kx.size ∧ (renum kx).deep = kx.deep := fill_rank_size _ kx
    have hok := renum_ok smx.ok
    have hdp := Kd.deep_le kx
    have hszx := smx.size
    refine ⟨_, rfl, y, renum kx, rfl, ky, hok, by omega, fun H10 S10 => ⟨true, rfl, iteF ?_⟩⟩
    refine ⟨_, rfl, _, rfl, (by show 1 ≤ sizeLine; decide), fun l1 hl1 => ?_⟩
    have S11 : Same H10 (upd H10 l1 (.lst [x])) := Same.new hl1
    refine ⟨l1, [x], [kx], rfl, upd_same, .cons ((kvx9.mono S10.tk).mono S11.tk) .nil, by rw [flat_one, Kd.parts_length]; omega, fun r ys H12 S12 hr12 kys => ?_⟩
    have kys : Ks H12 ys [renum kx] := by
      have e : renum kx = kx.fill (rank (ords (flat [kx]))) := by rw [flat_one]; rfl
      rw [e]; exact kys
    cases kys with
    | cons kz kn =>
      cases kn
      refine ⟨r, _, 0, _, rfl, rfl, SqL.of hr12, atI_nat (j := 0) rfl, renum kx, renum kx, ((ky.mono S10.tk).mono S11.tk).mono S12.tk, kz, by omega, _, rfl, ?_⟩
      refine ite2 (fun z => absurd z (by simp)) fun _ => ?_
      have S13 := (S10.trans S11).trans S12
      obtain ⟨ps9, hT9⟩ := hT9
      exact ⟨_, _, rfl, hK8.trans (hK9.trans (Kp.of S13)), ps9, LamTab.mono S13 hT9⟩
  obtain ⟨kd, fo, rfl, hK8, ps8, hT8⟩ := hP
  have tk8 := hK8.tk hT7.at_
  have hU8 := hK8 _ _ hU7 (Ne.symm hne)
  have kv18 := kv17.mono tk8
  have kv28 := kv27.mono tk8
  have kv38 := kv37.mono tk8
  clear kv17 kv27 kv37 hT7 hT8 hK8 hl37 hlp hall tk8 hT0 hTb
  -- the pairs
  refine ⟨_, rfl, _, rfl, (by show 2 ≤ sizeLine; decide), fun t1 ht1 => ?_⟩
  have Sa : Same H8 (upd H8 t1 (.tup [v1, v2])) := Same.new ht1
  have ha1 : upd H8 t1 (.tup [v1, v2]) t1 = some (.tup [v1, v2]) := upd_same
  generalize upd H8 t1 (.tup [v1, v2]) = Ha at Sa ha1 ⊢
  refine ⟨_, rfl, _, rfl, (by show 2 ≤ sizeLine; decide), fun t2 ht2 => ?_⟩
  have Sb : Same Ha (upd Ha t2 (.tup [v2, v1])) := Same.new ht2
  have hb2 : upd Ha t2 (.tup [v2, v1]) t2 = some (.tup [v2, v1]) := upd_same
  generalize upd Ha t2 (.tup [v2, v1]) = Hb at Sb hb2 ⊢
  refine ⟨_, rfl, _, rfl, (by show 2 ≤ sizeLine; decide), fun t3 ht3 => ?_⟩
  have Sc : Same Hb (upd Hb t3 (.tup [v1, v3])) := Same.new ht3
  have hc3 : upd Hb t3 (.tup [v1, v3]) t3 = some (.tup [v1, v3]) := upd_same
  generalize upd Hb t3 (.tup [v1, v3]) = Hc at Sc hc3 ⊢
  refine ⟨(by show 3 ≤ sizeLine; decide), fun l4 hl4 => ?_⟩
  have Sd : Same Hc (upd Hc l4 (.lst [.ref t1, .ref t2, .ref t3])) := Same.new hl4
  have hl44 : upd Hc l4 (.lst [.ref t1, .ref t2, .ref t3]) l4 = some (.lst [.ref t1, .ref t2, .ref t3]) := upd_same
  generalize upd Hc l4 (.lst [.ref t1, .ref t2, .ref t3]) = Hd at Sd hl44 ⊢
  refine ⟨_, rfl, _, rfl, _, rfl, (by show 2 ≤ sizeLine; decide), fun t4 ht4 => ?_⟩
  have Se : Same Hd (upd Hd t4 (.tup [v3, v1])) := Same.new ht4
  have he4 : upd Hd t4 (.tup [v3, v1]) t4 = some (.tup [v3, v1]) := upd_same
  generalize upd Hd t4 (.tup [v3, v1]) = He at Se he4 ⊢
  refine ⟨_, rfl, _, rfl, (by show 2 ≤ sizeLine; decide), fun t5 ht5 => ?_⟩
  have Sf : Same He (upd He t5 (.tup [v1, v1])) := Same.new ht5
  have hf5 : upd He t5 (.tup [v1, v1]) t5 = some (.tup [v1, v1]) := upd_same
  generalize upd He t5 (.tup [v1, v1]) = Hf at Sf hf5 ⊢
  refine ⟨(by show 2 ≤ sizeLine; decide), fun l5 hl5' => ?_⟩
  have Sg : Same Hf (upd Hf l5 (.lst [.ref t4, .ref t5])) := Same.new hl5'
  have hl55 : upd Hf l5 (.lst [.ref t4, .ref t5]) l5 = some (.lst [.ref t4, .ref t5]) := upd_same
  generalize upd Hf l5 (.lst [.ref t4, .ref t5]) = Hg at Sg hl55 ⊢
  refine ⟨l4, l5, _, _, rfl, rfl, Sg _ _ (Sf _ _ (Se _ _ hl44)), hl55, (by show 5 ≤ sizeLine; decide), fun l6 hl6 => ?_⟩
  have Sh : Same Hg (upd Hg l6 (.lst ([.ref t1, .ref t2, .ref t3] ++ [.ref t4, .ref t5]))) := Same.new hl6
  have hl66 : upd Hg l6 (.lst ([.ref t1, .ref t2, .ref t3] ++ [.ref t4, .ref t5])) l6 = some (.lst [.ref t1, .ref t2, .ref t3, .ref t4, .ref t5]) := upd_same
  generalize upd Hg l6 (.lst ([.ref t1, .ref t2, .ref t3] ++ [.ref t4, .ref t5])) = Hh at Sh hl66 ⊢
  have Sfh := Sf.trans (Sg.trans Sh)
  have Seh := Se.trans Sfh
  have Sdh := Sd.trans Seh
  have Sch := Sc.trans Sdh
  have Sbh := Sb.trans Sch
  have Sah := Sa.trans Sbh
  have hTh : LamTab Hh pt2 lamL.pos lamLQual #[] := ⟨Sah _ _ hU8, trivial, .inl rfl⟩
  have kv1h := kv18.mono Sah.tk
  have kv2h := kv28.mono Sah.tk
  have kv3h := kv38.mono Sah.tk
  have hall : ∀ (i : Nat) (x : V), [V.ref t1, .ref t2, .ref t3, .ref t4, .ref t5][i]? = some x → ∃ px xa xb ka kb, x = .ref px ∧ Hh px = some (.tup [xa, xb]) ∧ KAt Hh xa ka ∧ KAt Hh xb kb ∧ Sm ka ∧ Sm kb := fun i x h => by
    match i, h with
    | 0, h => cases (Option.some.inj h); exact ⟨t1, v1, v2, k1, k2, rfl, Sbh _ _ ha1, kv1h, kv2h, sm1, sm2⟩
    | 1, h => cases (Option.some.inj h); exact ⟨t2, v2, v1, k2, k1, rfl, Sch _ _ hb2, kv2h, kv1h, sm2, sm1⟩
    | 2, h => cases (Option.some.inj h); exact ⟨t3, v1, v3, k1, k3, rfl, Sdh _ _ hc3, kv1h, kv3h, sm1, sm3⟩
    | 3, h => cases (Option.some.inj h); exact ⟨t4, v3, v1, k3, k1, rfl, Sfh _ _ he4, kv3h, kv1h, sm3, sm1⟩
    | 4, h => cases (Option.some.inj h); exact ⟨t5, v1, v1, k1, k1, rfl, (Sg.trans Sh) _ _ hf5, kv1h, kv1h, sm1, sm1⟩
  clear Sa ha1 Sb hb2 Sc hc3 Sd hl44 Se he4 Sf hf5 Sg hl55 Sh Sfh Seh Sdh Sch Sbh Sah kv1h kv2h kv3h kv18 kv28 kv38 ht1 ht2 ht3 ht4 ht5 hl4 hl5' hl6
  refine ⟨_, rfl, l6, rfl, ⟨_, SqL.of hl66⟩, for_list (xs := [V.ref t1, .ref t2, .ref t3, .ref t4, .ref t5]) (fun j σ H9 => ∃ pr to, σ = [some (.ref a), some (.int (halfOf ns)), some v1, some v2, some (.ref lp), some (.ref ld), p6, some v3, kd, fo, some (.ref l6), pr, to] ∧ Kp pt2 Hh H9 ∧ ∃ ps, LamTab H9 pt2 lamL.pos lamLQual ps)
    ⟨none, none, rfl, fun b o h _ => h, _, hTh⟩ (fun j σ H9 hj ⟨_, _, _, hK, _⟩ => SqL.of (hK _ _ hl66 (ne_of hl66 hTh.at_ (by intro z; cases z)))) (fun j x σ H9 hx hP => ?_) (fun σ H9 hP => q _)⟩
  obtain ⟨pr, to, rfl, K9, ps9, hT9⟩ := hP
  obtain ⟨px, xa, xb, ka, kb, rfl, hpx, kxa, kxb, sma, smb⟩ := hall j x hx
  have tk9 := K9.tk hTh.at_
  have hpx9 := tk9 _ _ hpx
  have kxa9 := kxa.mono tk9
  have kxb9 := kxb.mono tk9
  have hza := sma.size
  have hzb := smb.size
  have hdb := Kd.deep_le kb
  refine ⟨_, rfl, px, _, 0, xa, rfl, rfl, SqT.of hpx9, atI_nat (j := 0) rfl, _, rfl, px, _, 1, xb, rfl, rfl, SqT.of hpx9, atI_nat (j := 1) rfl, xa, xb, ka, kb, ps9, rfl, kxa9, kxb9, by omega, by omega, hT9, fun H10 K10 hT10 => ?_⟩
  refine ⟨_, rfl, .bl _, "bool", _, true, rfl, .bl _, kit_same _ _, true, rfl, iteF ?_⟩
  have tk10 := K10.tk hT9.at_
  have hpx10 := tk10 _ _ hpx9
  refine ⟨_, rfl, _, rfl, px, _, 0, xa, rfl, rfl, SqT.of hpx10, atI_nat (j := 0) rfl, Nat.zero_le _, fun l0 hl0 => ?_⟩
  have S11 : Same H10 (upd H10 l0 (.lst [])) := Same.new hl0
  refine ⟨_, rfl, px, _, 1, xb, rfl, rfl, SqT.of (S11 _ _ hpx10), atI_nat (j := 1) rfl, xa, l0, xb, ka, kb, rfl, (kxa9.mono tk10).mono S11.tk, upd_same, (kxb9.mono tk10).mono S11.tk, by omega, by omega, fun H12 S12 => ?_⟩
  refine ⟨rfl, _, rfl, ?_⟩
  refine ite2 (fun z => absurd z (by simp)) fun _ => ?_
  obtain ⟨ps10, hT10⟩ := hT10
  exact ⟨_, _, rfl, K9.trans (K10.trans (Kp.of (S11.trans S12))), ps10, LamTab.mono (S11.trans S12) hT10⟩
end
end K1

set_option Elab.async false
set_option maxRecDepth 100000
namespace K1
open PySem L2 Wk
section
variable {K : PySem.W.Frag} {g T : Addr} {od an xd : Option Addr} {sl sT : Array (Option Value)} {oc kV dc pm ct cd eT : Value} {u : Tok} {qn : Nat}
theorem bindsA (_ : K.lookup g = some ⟨oc, od, .func (PySem.W.fnOf "added" "Nodes.added" (defArgs sAdded) (defBody sAdded) (defScope sAdded) (.ref T) kV dc pm an cd ct), sl⟩) (d : K.lookup T = some ⟨eT, xd, .seq #[.int 1 u] qn, sT⟩) :
    Binds K (PySem.W.fnOf "added" "Nodes.added" (defArgs sAdded) (defBody sAdded) (defScope sAdded) (.ref T) kV dc pm an cd ct) ["self", "form", "level"] [] := by
  intro s us X hl
  match us, hl with
  | [a, b, c], _ => exact BindsTo.of_defaults (T := T) rfl (X _ _ d) rfl rfl rfl
theorem bindsL (_ : K.lookup g = some ⟨oc, od, .func (PySem.W.fnOf "laid" "Nodes.laid" (defArgs sLaid) (defBody sLaid) (defScope sLaid) (.ref T) kV dc pm an cd ct), sl⟩) (d : K.lookup T = some ⟨eT, xd, .seq #[.int 1 u] qn, sT⟩) :
    Binds K (PySem.W.fnOf "laid" "Nodes.laid" (defArgs sLaid) (defBody sLaid) (defScope sLaid) (.ref T) kV dc pm an cd ct) NL [.int 1 u] := by
  intro s us X hl
  have hl' : us.length = 3 := by
    rw [List.length_append] at hl
    exact Nat.add_right_cancel hl
  match us, hl' with
  | [a, b, c], _ => exact BindsTo.of_defaults (T := T) rfl (X _ _ d) rfl rfl rfl
end
/-- the tables, as they lie in the heap -/
theorem tabs_mk {K : PySem.W.Frag} {h : Heap} {fN c pt C gL c2 pt2 : Addr} {oc1 oc2 oc3 oc4 : Value} {od1 od2 od3 od4 : Option Addr} {fd1 fd2 : FuncData} {s1 s2 s3 s4 : Array (Option Value)} {v1 v2 : Array Value} (X : K.In h)
    (aN : PySem.W.nsIn K mainGlobals "numbered" = some (some (.ref fN))) (lN : K.lookup fN = some ⟨oc1, od1, .func fd1, s1⟩) (h1 : fd1.code = .ref c) (lc : K.lookup c = some ⟨oc2, od2, .fields v1, s2⟩) (hv : (v1[11]? : Option Value) = some (.ref pt))
    (aC : PySem.W.nsIn K mainGlobals "Nodes" = some (some (.ref C))) (aL : PySem.W.findIn K (.ref C) "laid" = some (some (.ref gL))) (lL : K.lookup gL = some ⟨oc3, od3, .func fd2, s3⟩) (h2 : fd2.code = .ref c2) (le : K.lookup c2 = some ⟨oc4, od4, .fields v2, s4⟩) (hve : (v2[11]? : Option Value) = some (.ref pt2))
    (e1 : PySem.W.codeHdIn K c pt = true) (e2 : PySem.W.codeHdIn K c2 pt2 = true) (t1 : h.get? pt = some (PySem.W.tabObj #[])) (t2 : h.get? pt2 = some (PySem.W.tabObj #[])) : PySem.W.TabsAt (tabs2 K) h := by
  have ht : tabs2 K = [(c, pt), (c2, pt2)] := by unfold tabs2; rw [tabOf_is aN lN h1 lc hv, tabM_is aC aL lL h2 le hve]; rfl
  rw [ht]
  intro q hq
  simp only [List.mem_cons, List.not_mem_nil, or_false] at hq
  rcases hq with rfl | rfl
  · exact ⟨PySem.W.codeHd_of_K X e1, t1⟩
  · exact ⟨PySem.W.codeHd_of_K X e2, t2⟩
end K1

set_option Elab.async false
set_option maxRecDepth 100000
namespace K1
open PySem L2 Wk
theorem all_mk {l : PySem.W.OpenLaw} {w : World} {K : PySem.W.Frag} {h : Heap} {mg : Str → Option Value} {fa f1 f2 f3 f4 f5 f6 f7 f8 f9 f10 f11 f12 : Addr} (X : K.In h) (G : h.Ns mainGlobals mg) (hfa : mg "law" = some (.ref fa))
    {od1 an1 : Option Addr} {sl1 : Array (Option Value)} {oc1 kV1 dc1 pm1 cd1 ct1 : Value}
    (a1 : PySem.W.nsIn K mainGlobals "parts" = some (some (.ref f1))) (l1 : K.lookup f1 = some ⟨oc1, od1, .func (PySem.W.fnOf "parts" "parts" (defArgs sParts) (defBody sParts) (defScope sParts) .none kV1 dc1 pm1 an1 cd1 ct1), sl1⟩) (c1' : PySem.W.codeIn K cd1 "parts" = true) (k1 : PySem.W.keepIn K (.ref f1) = true)
    {od2 an2 : Option Addr} {sl2 : Array (Option Value)} {oc2 kV2 dc2 pm2 cd2 ct2 : Value}
    (a2 : PySem.W.nsIn K mainGlobals "built" = some (some (.ref f2))) (l2 : K.lookup f2 = some ⟨oc2, od2, .func (PySem.W.fnOf "built" "built" (defArgs sBuilt) (defBody sBuilt) (defScope sBuilt) .none kV2 dc2 pm2 an2 cd2 ct2), sl2⟩) (c2' : PySem.W.codeIn K cd2 "built" = true) (k2 : PySem.W.keepIn K (.ref f2) = true)
    {od3 an3 : Option Addr} {sl3 : Array (Option Value)} {oc3 kV3 dc3 pm3 cd3 ct3 : Value}
    (a3 : PySem.W.nsIn K mainGlobals "fits" = some (some (.ref f3))) (l3 : K.lookup f3 = some ⟨oc3, od3, .func (PySem.W.fnOf "fits" "fits" (defArgs sFits) (defBody sFits) (defScope sFits) .none kV3 dc3 pm3 an3 cd3 ct3), sl3⟩) (c3' : PySem.W.codeIn K cd3 "fits" = true) (k3 : PySem.W.keepIn K (.ref f3) = true)
    {od4 an4 : Option Addr} {sl4 : Array (Option Value)} {oc4 kV4 dc4 pm4 cd4 ct4 : Value}
    (a4 : PySem.W.nsIn K mainGlobals "_law_whole" = some (some (.ref f4))) (l4 : K.lookup f4 = some ⟨oc4, od4, .func (PySem.W.fnOf "_law_whole" "_law_whole" (defArgs sWhole) (defBody sWhole) (defScope sWhole) .none kV4 dc4 pm4 an4 cd4 ct4), sl4⟩) (c4' : PySem.W.codeIn K cd4 "_law_whole" = true) (k4 : PySem.W.keepIn K (.ref f4) = true)
    {od5 an5 : Option Addr} {sl5 : Array (Option Value)} {oc5 kV5 dc5 pm5 cd5 ct5 : Value}
    (a5 : PySem.W.nsIn K mainGlobals "_law_kind_by" = some (some (.ref f5))) (l5 : K.lookup f5 = some ⟨oc5, od5, .func (PySem.W.fnOf "_law_kind_by" "_law_kind_by" (defArgs sKindBy) (defBody sKindBy) (defScope sKindBy) .none kV5 dc5 pm5 an5 cd5 ct5), sl5⟩) (c5' : PySem.W.codeIn K cd5 "_law_kind_by" = true) (k5 : PySem.W.keepIn K (.ref f5) = true)
    {od6 an6 : Option Addr} {sl6 : Array (Option Value)} {oc6 kV6 dc6 pm6 cd6 ct6 : Value}
    (a6 : PySem.W.nsIn K mainGlobals "_law_inside" = some (some (.ref f6))) (l6 : K.lookup f6 = some ⟨oc6, od6, .func (PySem.W.fnOf "_law_inside" "_law_inside" (defArgs sInside) (defBody sInside) (defScope sInside) .none kV6 dc6 pm6 an6 cd6 ct6), sl6⟩) (c6' : PySem.W.codeIn K cd6 "_law_inside" = true) (k6 : PySem.W.keepIn K (.ref f6) = true)
    {od7 an7 : Option Addr} {sl7 : Array (Option Value)} {oc7 kV7 dc7 pm7 cd7 ct7 : Value}
    (a7 : PySem.W.nsIn K mainGlobals "_law_filled" = some (some (.ref f7))) (l7 : K.lookup f7 = some ⟨oc7, od7, .func (PySem.W.fnOf "_law_filled" "_law_filled" (defArgs sFilled) (defBody sFilled) (defScope sFilled) .none kV7 dc7 pm7 an7 cd7 ct7), sl7⟩) (c7' : PySem.W.codeIn K cd7 "_law_filled" = true) (k7 : PySem.W.keepIn K (.ref f7) = true)
    {od8 an8 : Option Addr} {sl8 : Array (Option Value)} {oc8 kV8 dc8 pm8 cd8 ct8 : Value}
    (a8 : PySem.W.nsIn K mainGlobals "_law_counted" = some (some (.ref f8))) (l8 : K.lookup f8 = some ⟨oc8, od8, .func (PySem.W.fnOf "_law_counted" "_law_counted" (defArgs sCounted) (defBody sCounted) (defScope sCounted) .none kV8 dc8 pm8 an8 cd8 ct8), sl8⟩) (c8' : PySem.W.codeIn K cd8 "_law_counted" = true) (k8 : PySem.W.keepIn K (.ref f8) = true)
    {od9 an9 : Option Addr} {sl9 : Array (Option Value)} {oc9 kV9 dc9 pm9 cd9 ct9 : Value}
    (a9 : PySem.W.nsIn K mainGlobals "_law_is_kind" = some (some (.ref f9))) (l9 : K.lookup f9 = some ⟨oc9, od9, .func (PySem.W.fnOf "_law_is_kind" "_law_is_kind" (defArgs sIsKind) (defBody sIsKind) (defScope sIsKind) .none kV9 dc9 pm9 an9 cd9 ct9), sl9⟩) (c9' : PySem.W.codeIn K cd9 "_law_is_kind" = true) (k9 : PySem.W.keepIn K (.ref f9) = true)
    {od10 an10 : Option Addr} {sl10 : Array (Option Value)} {oc10 kV10 dc10 pm10 cd10 ct10 : Value}
    (a10 : PySem.W.nsIn K mainGlobals "_law_instance" = some (some (.ref f10))) (l10 : K.lookup f10 = some ⟨oc10, od10, .func (PySem.W.fnOf "_law_instance" "_law_instance" (defArgs sInstance) (defBody sInstance) (defScope sInstance) .none kV10 dc10 pm10 an10 cd10 ct10), sl10⟩) (c10' : PySem.W.codeIn K cd10 "_law_instance" = true) (k10 : PySem.W.keepIn K (.ref f10) = true)
    {od11 an11 : Option Addr} {sl11 : Array (Option Value)} {oc11 kV11 dc11 pm11 cd11 ct11 : Value}
    (a11 : PySem.W.nsIn K mainGlobals "_law_any" = some (some (.ref f11))) (l11 : K.lookup f11 = some ⟨oc11, od11, .func (PySem.W.fnOf "_law_any" "_law_any" (defArgs sAny) (defBody sAny) (defScope sAny) .none kV11 dc11 pm11 an11 cd11 ct11), sl11⟩) (c11' : PySem.W.codeIn K cd11 "_law_any" = true) (k11 : PySem.W.keepIn K (.ref f11) = true)
    {od12 an12 : Option Addr} {sl12 : Array (Option Value)} {oc12 kV12 dc12 pm12 cd12 ct12 : Value}
    (a12 : PySem.W.nsIn K mainGlobals "law" = some (some (.ref f12))) (l12 : K.lookup f12 = some ⟨oc12, od12, .func (PySem.W.fnOf "law" "law" (defArgs sLaw) (defBody sLaw) (defScope sLaw) .none kV12 dc12 pm12 an12 cd12 ct12), sl12⟩) (c12' : PySem.W.codeIn K cd12 "law" = true) (k12 : PySem.W.keepIn K (.ref f12) = true)
    {fN c3 pt : Addr} {odN anN : Option Addr} {slN : Array (Option Value)} {ocN kVN dcN pmN ctN : Value} (aN : PySem.W.nsIn K mainGlobals "numbered" = some (some (.ref fN))) (lN : K.lookup fN = some ⟨ocN, odN, .func (PySem.W.fnOf "numbered" "numbered" (defArgs sNumbered) (defBody sNumbered) (defScope sNumbered) .none kVN dcN pmN anN (.ref c3) ctN), slN⟩) (cN' : PySem.W.codeIn K (.ref c3) "numbered" = true) (kN : PySem.W.keepIn K (.ref fN) = true)
    {occ : Value} {odc : Option Addr} {vsc : Array Value} {slc : Array (Option Value)} (lc : K.lookup c3 = some ⟨occ, odc, .fields vsc, slc⟩) (hv : (vsc[11]? : Option Value) = some (.ref pt))
    {C : Addr} (aC : PySem.W.nsIn K mainGlobals "Nodes" = some (some (.ref C))) (y1 : PySem.W.plainGet K C Str.empty = true) (y2 : PySem.W.hasDictIn K C = true) (y3 : PySem.W.plainOver K C = true) (y4 : PySem.W.findIn K (.ref C) "__setattr__" = some (some (.builtin "object.__setattr__")))
    (w1 : PySem.W.findIn K (.ref C) "forms" = some none) (w2 : PySem.W.findIn K (.ref C) "links" = some none) (w3 : PySem.W.findIn K (.ref C) "levels" = some none) (w4 : PySem.W.findIn K (.ref C) "lowered" = some none) (w5 : PySem.W.makesIn K C = true) (w6 : PySem.W.keepIn K (.ref C) = true)
    {gI : Addr} {odI anI : Option Addr} {slI : Array (Option Value)} {ocI kVI dcI pmI ctI : Value} {cdI : Value} (aI : PySem.W.findIn K (.ref C) "__init__" = some (some (.ref gI))) (lI : K.lookup gI = some ⟨ocI, odI, .func (PySem.W.fnOf "__init__" "Nodes.__init__" (defArgs sInit) (defBody sInit) (defScope sInit) .none kVI dcI pmI anI cdI ctI), slI⟩) (cI' : PySem.W.codeIn K cdI "Nodes.__init__" = true) (iI : PySem.W.isFn K (.ref gI) = true) (kI : PySem.W.keepIn K (.ref gI) = true)
    {tA tL : Addr}
    {gA : Addr} {odA anA : Option Addr} {slA : Array (Option Value)} {ocA kVA dcA pmA ctA : Value} {cdA : Value} (aA : PySem.W.findIn K (.ref C) "added" = some (some (.ref gA))) (lA : K.lookup gA = some ⟨ocA, odA, .func (PySem.W.fnOf "added" "Nodes.added" (defArgs sAdded) (defBody sAdded) (defScope sAdded) (.ref tA) kVA dcA pmA anA cdA ctA), slA⟩) (cA' : PySem.W.codeIn K cdA "Nodes.added" = true) (iA : PySem.W.isFn K (.ref gA) = true) (kA : PySem.W.keepIn K (.ref gA) = true)
    {c2 : Addr}
    {gL : Addr} {odL anL : Option Addr} {slL : Array (Option Value)} {ocL kVL dcL pmL ctL : Value} (aL : PySem.W.findIn K (.ref C) "laid" = some (some (.ref gL))) (lL : K.lookup gL = some ⟨ocL, odL, .func (PySem.W.fnOf "laid" "Nodes.laid" (defArgs sLaid) (defBody sLaid) (defScope sLaid) (.ref tL) kVL dcL pmL anL (.ref c2) ctL), slL⟩) (cL' : PySem.W.codeIn K (.ref c2) "Nodes.laid" = true) (iL : PySem.W.isFn K (.ref gL) = true) (kL : PySem.W.keepIn K (.ref gL) = true)
    {gP : Addr} {odP anP : Option Addr} {slP : Array (Option Value)} {ocP kVP dcP pmP ctP : Value} {cdP : Value} (aP : PySem.W.findIn K (.ref C) "laid_part" = some (some (.ref gP))) (lP : K.lookup gP = some ⟨ocP, odP, .func (PySem.W.fnOf "laid_part" "Nodes.laid_part" (defArgs sLaidPart) (defBody sLaidPart) (defScope sLaidPart) .none kVP dcP pmP anP cdP ctP), slP⟩) (cP' : PySem.W.codeIn K cdP "Nodes.laid_part" = true) (iP : PySem.W.isFn K (.ref gP) = true) (kP : PySem.W.keepIn K (.ref gP) = true)
    {gB : Addr} {odB anB : Option Addr} {slB : Array (Option Value)} {ocB kVB dcB pmB ctB : Value} {cdB : Value} (aB : PySem.W.findIn K (.ref C) "becomes" = some (some (.ref gB))) (lB : K.lookup gB = some ⟨ocB, odB, .func (PySem.W.fnOf "becomes" "Nodes.becomes" (defArgs sBecomes) (defBody sBecomes) (defScope sBecomes) .none kVB dcB pmB anB cdB ctB), slB⟩) (cB' : PySem.W.codeIn K cdB "Nodes.becomes" = true) (iB : PySem.W.isFn K (.ref gB) = true) (kB : PySem.W.keepIn K (.ref gB) = true)
    {uA uL : Tok} {qA qL : Nat} {eA eL : Value} {xA xL : Option Addr} {sA sL : Array (Option Value)} (dA' : K.lookup tA = some ⟨eA, xA, .seq #[.int 1 uA] qA, sA⟩) (dL' : K.lookup tL = some ⟨eL, xL, .seq #[.int 1 uL] qL, sL⟩)
    {pt2 : Addr} {oce : Value} {ode : Option Addr} {vse : Array Value} {sle : Array (Option Value)} (le : K.lookup c2 = some ⟨oce, ode, .fields vse, sle⟩) (hve : (vse[11]? : Option Value) = some (.ref pt2)) (hne : pt ≠ pt2)
    (z1 : PySem.W.nsIn K mainGlobals "len" = some none)
    (z2 : PySem.W.nsIn K mainGlobals "isinstance" = some none)
    (z3 : PySem.W.nsIn K mainGlobals "int" = some none)
    (z4 : PySem.W.nsIn K mainGlobals "bool" = some none)
    (z5 : PySem.W.nsIn K mainGlobals "tuple" = some none)
    (z6 : PySem.W.nsIn K mainGlobals "str" = some none)
    (z7 : PySem.W.nsIn K mainGlobals "reversed" = some none)
    (z8 : PySem.W.nsIn K mainGlobals "abs" = some none)
    (z9 : PySem.W.nsIn K mainGlobals "list" = some none)
    (z10 : PySem.W.nsIn K mainGlobals "zip" = some none)
    : ∃ fd : FuncData, (∀ (s : Shared) (v : Value), BindsTo s fd ⟨[v], []⟩ [("_law_script", v)]) ∧ ∀ base : Heap, K.In base → base.Ns mainGlobals mg → (∀ q ∈ tabs2 K, PySem.W.CodeHd base q.1 q.2) → BMain mg base → FnOk l.prog w K mg base CX0 201 fa fd ["_law_script"] (spLaw K) := by
  have e := hfa.symm.trans (PySem.W.mg_of X G a12)
  cases e
  have F1 := fun_mk (st := sParts) l1 c1' k1
  have b1 := F1.binds (ps := ["kind"]) fun _ _ _ _ _ _ us hl => match us, hl with | [_], _ => rfl
  have m1 := PySem.W.mg_of X G a1
  have F2 := fun_mk (st := sBuilt) l2 c2' k2
  have b2 := F2.binds (ps := ["kind", "make"]) fun _ _ _ _ _ _ us hl => match us, hl with | [_, _], _ => rfl
  have m2 := PySem.W.mg_of X G a2
  have F3 := fun_mk (st := sFits) l3 c3' k3
  have b3 := F3.binds (ps := ["wide", "kind"]) fun _ _ _ _ _ _ us hl => match us, hl with | [_, _], _ => rfl
  have m3 := PySem.W.mg_of X G a3
  have F4 := fun_mk (st := sWhole) l4 c4' k4
  have b4 := F4.binds (ps := ["_law_found"]) fun _ _ _ _ _ _ us hl => match us, hl with | [_], _ => rfl
  have m4 := PySem.W.mg_of X G a4
  have F5 := fun_mk (st := sKindBy) l5 c5' k5
  have b5 := F5.binds (ps := ["_law_cells"]) fun _ _ _ _ _ _ us hl => match us, hl with | [_], _ => rfl
  have m5 := PySem.W.mg_of X G a5
  have F6 := fun_mk (st := sInside) l6 c6' k6
  have b6 := F6.binds (ps := ["_law_kind"]) fun _ _ _ _ _ _ us hl => match us, hl with | [_], _ => rfl
  have m6 := PySem.W.mg_of X G a6
  have F7 := fun_mk (st := sFilled) l7 c7' k7
  have b7 := F7.binds (ps := ["_law_kind", "_law_filling"]) fun _ _ _ _ _ _ us hl => match us, hl with | [_, _], _ => rfl
  have m7 := PySem.W.mg_of X G a7
  have F8 := fun_mk (st := sCounted) l8 c8' k8
  have b8 := F8.binds (ps := ["_law_kinds"]) fun _ _ _ _ _ _ us hl => match us, hl with | [_], _ => rfl
  have m8 := PySem.W.mg_of X G a8
  have F9 := fun_mk (st := sIsKind) l9 c9' k9
  have b9 := F9.binds (ps := ["_law_found"]) fun _ _ _ _ _ _ us hl => match us, hl with | [_], _ => rfl
  have m9 := PySem.W.mg_of X G a9
  have F10 := fun_mk (st := sInstance) l10 c10' k10
  have b10 := F10.binds (ps := ["_law_wide", "_law_kept", "_law_kind"]) fun _ _ _ _ _ _ us hl => match us, hl with | [_, _, _], _ => rfl
  have m10 := PySem.W.mg_of X G a10
  have F11 := fun_mk (st := sAny) l11 c11' k11
  have b11 := F11.binds (ps := ["_law_cell"]) fun _ _ _ _ _ _ us hl => match us, hl with | [_], _ => rfl
  have m11 := PySem.W.mg_of X G a11
  have F12 := fun_mk (st := sLaw) l12 c12' k12
  have b12 := F12.binds (ps := ["_law_script"]) fun _ _ _ _ _ _ us hl => match us, hl with | [_], _ => rfl
  have m12 := PySem.W.mg_of X G a12
  have n_len := PySem.W.mg_none_of X G z1
  have n_isinstance := PySem.W.mg_none_of X G z2
  have n_int := PySem.W.mg_none_of X G z3
  have n_bool := PySem.W.mg_none_of X G z4
  have n_tuple := PySem.W.mg_none_of X G z5
  have n_str := PySem.W.mg_none_of X G z6
  have n_reversed := PySem.W.mg_none_of X G z7
  have n_abs := PySem.W.mg_none_of X G z8
  have n_list := PySem.W.mg_none_of X G z9
  have n_zip := PySem.W.mg_none_of X G z10
  refine ⟨PySem.W.fnOf "law" "law" (defArgs sLaw) (defBody sLaw) (defScope sLaw) .none kV12 dc12 pm12 an12 cd12 ct12, fun s v => .of_eq rfl, fun base XB GB hCd hBm => ?_⟩
  have ht : tabs2 K = [(c3, pt), (c2, pt2)] := by unfold tabs2; rw [tabOf_is aN lN rfl lc hv, tabM_is aC aL lL rfl le hve]; rfl
  have hC := hCd (c3, pt) (by rw [ht]; simp)
  have hC2 := hCd (c2, pt2) (by rw [ht]; simp)
  have FN := fun_mk (st := sNumbered) lN cN' kN
  have bN := FN.binds (ps := ["kind"]) fun _ _ _ _ _ _ us hl => match us, hl with | [_], _ => rfl
  have mN := PySem.W.mg_of X G aN
  have mC := PySem.W.mg_of X G aC
  have N : NCls K C := ⟨⟨y1, y2, y3, y4⟩, w1, w2, w3, w4⟩
  have FI := fun_mk (st := sInit) lI cI' kI
  have bI := FI.binds (ps := ["self"]) fun _ _ _ _ _ _ us hl => match us, hl with | [_], _ => rfl
  have FA : FunD K "added" "Nodes.added" sAdded gA _ (.ref tA) := ⟨_, _, _, _, _, _, _, _, _, rfl, lA, cA'⟩
  have bA : Binds K _ ["self", "form", "level"] [] := bindsA lA dA'
  have FL : FunD K "laid" "Nodes.laid" sLaid gL _ (.ref tL) := ⟨_, _, _, _, _, _, _, _, _, rfl, lL, cL'⟩
  have bL : Binds K _ K1.NL [.int 1 uL] := bindsL lL dL'
  have FP := fun_mk (st := sLaidPart) lP cP' kP
  have bP := FP.binds (ps := ["self", "part", "known", "level"]) fun _ _ _ _ _ _ us hl => match us, hl with | [_, _, _, _], _ => rfl
  have FB := fun_mk (st := sBecomes) lB cB' kB
  have bB := FB.binds (ps := ["self", "wide", "kind", "kept"]) fun _ _ _ _ _ _ us hl => match us, hl with | [_, _, _, _], _ => rfl
  have O1 := ok_parts (P := l.prog) (w := w) (base := base) F1 n_len
  have OI := ok_init (P := l.prog) (w := w) (base := base) (mg := mg) FI N
  have OA := ok_added (P := l.prog) (w := w) (base := base) FA N n_len
  have OP := ok_laidPart (P := l.prog) (w := w) (base := base) (mg := mg) FP N ⟨aA, iA, kA⟩ OA bA
  have OL := ok_laid (P := l.prog) (w := w) (base := base) FL rfl hC2 hBm N ⟨aP, iP, kP⟩ OP bP O1 b1 k1 m1 F2 b2 m2 n_reversed n_len
  have OB := ok_becomes (P := l.prog) (w := w) (base := base) FB N n_list n_zip
  have O3 := ok_fits (P := l.prog) (w := w) (base := base) F3 N mC ⟨w5, aI, iI, w6⟩ OI bI ⟨aL, iL, kL⟩ OL bL ⟨aB, iB, kB⟩ OB bB
  have O6 := ok_inside (P := l.prog) (w := w) (base := base) (mg := mg) F6
  have O7 := ok_filled (P := l.prog) (w := w) (base := base) F7 O6 b6 k6 m6 n_reversed
  have O11 := ok_any (P := l.prog) (w := w) (base := base) (mg := mg) F11
  have O4 := ok_whole (P := l.prog) (w := w) (base := base) F4 n_isinstance n_int n_bool
  have O5 := ok_kindBy (P := l.prog) (w := w) (base := base) F5 O11 b11 k11 m11 n_len n_abs
  have O8 := ok_counted (P := l.prog) (w := w) (base := base) F8 O6 b6 k6 m6 O7 b7 k7 m7 n_len
  have O9 := ok_isKind (P := l.prog) (w := w) (base := base) F9 O4 b4 k4 m4 n_len n_isinstance n_tuple n_str
  have O10 := ok_instance (P := l.prog) (w := w) (base := base) (mg := mg) F10 n_len
  have ON := ok_numbered (P := l.prog) (w := w) (base := base) FN rfl hC hBm O1 b1 k1 m1 F2 b2 m2 n_reversed n_len
  exact ok_law F12 ht hne O5 b5 k5 m5 O6 b6 k6 m6 O7 b7 k7 m7 ON bN kN mN O9 b9 k9 m9 O8 b8 k8 m8 O3 b3 k3 m3 O10 b10 k10 m10 n_len n_isinstance n_bool
end K1

open PySem PySem.W PyProof.Rows
set_option Elab.async false
set_option maxRecDepth 100000 in
set_option maxHeartbeats 0 in
theorem PySem.Challenge.cw_widekind_k01_kinds_of_kinds_holds : PySem.Challenge.rw_widekind_k01_kinds_of_kinds.Holds := by
  w_on; o_law; k_head; (case hw => w_witness2)
  k_fill
  refine L2.walk_ofY (l := PySem.Challenge.rw_widekind_k01_kinds_of_kinds) (n := 63) (k := 201) (x := "_law_script") (CX := L2.CX0) (sp := K1.spLaw) (tabs := K1.tabs2) rfl (by decide) rfl ⟨rfl, by decide, by decide⟩ (fun w h Y => PySem.W.km_in_of Y) ?tT ?tN ?tF ?tS ?tC
  case tT =>
    intro w h Y KX
    have hT8 := PySem.W.km_tabs_of Y
    refine' K1.tabs_mk KX ?q1 ?q2 ?q3 ?q4 ?q5 ?q6 ?q7 ?q8 ?q9 ?q10 ?q11 ?q12 ?q13 ?q14 ?q15
    (case q1 => k_is)
    (case q2 => k_is)
    (case q3 => rfl)
    (case q4 => k_is)
    (case q5 => rfl)
    (case q6 => k_is)
    (case q7 => k_is)
    (case q8 => k_is)
    (case q9 => rfl)
    (case q10 => k_is)
    (case q11 => rfl)
    (case q12 => kernel_rfl)
    (case q13 => kernel_rfl)
    (case q14 => exact hT8 _ (by decide))
    (case q15 => exact hT8 _ (by decide))
  case tN => intro w; rfl
  case tF =>
    intro w mg fa h KX G hmg
    refine' K1.all_mk KX G hmg ?a1 ?l1 ?c1 ?k1 ?a2 ?l2 ?c2 ?k2 ?a3 ?l3 ?c3 ?k3 ?a4 ?l4 ?c4 ?k4 ?a5 ?l5 ?c5 ?k5 ?a6 ?l6 ?c6 ?k6 ?a7 ?l7 ?c7 ?k7 ?a8 ?l8 ?c8 ?k8 ?a9 ?l9 ?c9 ?k9 ?a10 ?l10 ?c10 ?k10 ?a11 ?l11 ?c11 ?k11 ?a12 ?l12 ?c12 ?k12 ?aN ?lN ?cN ?kN ?lc ?hv ?aC ?y1 ?y2 ?y3 ?y4 ?w1 ?w2 ?w3 ?w4 ?w5 ?w6 ?aI ?lI ?cI ?iI ?kI ?aA ?lA ?cA ?iA ?kA ?aL ?lL ?cL ?iL ?kL ?aP ?lP ?cP ?iP ?kP ?aB ?lB ?cB ?iB ?kB ?dA ?dL ?lcode2 ?hve ?hne ?z1 ?z2 ?z3 ?z4 ?z5 ?z6 ?z7 ?z8 ?z9 ?z10
    (case a1 => k_is)
    (case l1 => k_is)
    (case c1 => k_is)
    (case k1 => k_is)
    (case a2 => k_is)
    (case l2 => k_is)
    (case c2 => k_is)
    (case k2 => k_is)
    (case a3 => k_is)
    (case l3 => k_is)
    (case c3 => k_is)
    (case k3 => k_is)
    (case a4 => k_is)
    (case l4 => k_is)
    (case c4 => k_is)
    (case k4 => k_is)
    (case a5 => k_is)
    (case l5 => k_is)
    (case c5 => k_is)
    (case k5 => k_is)
    (case a6 => k_is)
    (case l6 => k_is)
    (case c6 => k_is)
    (case k6 => k_is)
    (case a7 => k_is)
    (case l7 => k_is)
    (case c7 => k_is)
    (case k7 => k_is)
    (case a8 => k_is)
    (case l8 => k_is)
    (case c8 => k_is)
    (case k8 => k_is)
    (case a9 => k_is)
    (case l9 => k_is)
    (case c9 => k_is)
    (case k9 => k_is)
    (case a10 => k_is)
    (case l10 => k_is)
    (case c10 => k_is)
    (case k10 => k_is)
    (case a11 => k_is)
    (case l11 => k_is)
    (case c11 => k_is)
    (case k11 => k_is)
    (case a12 => k_is)
    (case l12 => k_is)
    (case c12 => k_is)
    (case k12 => k_is)
    (case aN => k_is)
    (case lN => k_is)
    (case cN => k_is)
    (case kN => k_is)
    (case lc => k_is)
    (case hv => rfl)
    (case aC => k_is)
    (case y1 => k_is)
    (case y2 => k_is)
    (case y3 => k_is)
    (case y4 => k_is)
    (case w1 => k_is)
    (case w2 => k_is)
    (case w3 => k_is)
    (case w4 => k_is)
    (case w5 => k_is)
    (case w6 => k_is)
    (case aI => k_is)
    (case lI => k_is)
    (case cI => k_is)
    (case iI => k_is)
    (case kI => k_is)
    (case aA => k_is)
    (case lA => k_is)
    (case cA => k_is)
    (case iA => k_is)
    (case kA => k_is)
    (case aL => k_is)
    (case lL => k_is)
    (case cL => k_is)
    (case iL => k_is)
    (case kL => k_is)
    (case aP => k_is)
    (case lP => k_is)
    (case cP => k_is)
    (case iP => k_is)
    (case kP => k_is)
    (case aB => k_is)
    (case lB => k_is)
    (case cB => k_is)
    (case iB => k_is)
    (case kB => k_is)
    (case dA => k_is)
    (case dL => k_is)
    (case lcode2 => k_is)
    (case hve => rfl)
    (case hne => decide)
    (case z1 => k_is)
    (case z2 => k_is)
    (case z3 => k_is)
    (case z4 => k_is)
    (case z5 => k_is)
    (case z6 => k_is)
    (case z7 => k_is)
    (case z8 => k_is)
    (case z9 => k_is)
    (case z10 => k_is)
  case tS => exact fun K H a ns hl hO hS => ⟨a, ns, rfl, hS, hl, hO.tabs, fun _ => rfl⟩
  case tC => exact fun _ _ _ _ z => z

